import Derived.Test.YtjjnidignljppaaGreatDoorK12
import Derived.Test.YtjjnidignljppaaGreatDoorK17
import Derived.Lib.LastIndexByte
import Derived.Laws.IdiomRangeMap
import Derived.Lib.ConvBytes
namespace Go.Proofs.YtjjnidignljppaaGreatDoor
set_option maxHeartbeats 6400000
set_option linter.all false
set_option maxRecDepth 100000
open Go.ChangeShapes Go.WideShapes Go.ChangeAt Go.RowKit Go.Maps Go.Proofs.Tryz
variable {A:List Lf}{B:Bool}{D:DataW Unit}{E:Prop}{K:Act->World->Prop}{M N b bn bs h i j m u:Nat}{P:Program}{SB:List Nat}{V v:Value}{X w0:World}{a:Act}{cs:Array Value}{e g t x:Int}{f:aR->aR}{k:TypeId}{l xs:LI}{left:Lit->Bool}{nd:aB}{ns:List aB}{o:Oper}{ops:Array Oper}{p:OA}{row:Option Nat}{s:ByteArray}{ss:List aR}
def iI:Keyed prog 28:=int_keyed underlying28
def me:Keyed prog 9:=string_keyed underlying9
def nT{i:Int}(h:0<=i/\i<18446744073709551616):(Lit.U i).wf=true:=by
 simp only[Lit.wf,IntKind.min,IntKind.max,IntKind.signed,IntKind.bits,Bool.and_eq_true,decide_eq_true_eq];simp;omega
def az{w w':World}(h:Bw w w')(row:Option Nat):w.grownBy w' row:=⟨h.os,h.tape,h.output,h.size,fun i hi _=>h.block i hi⟩
def bD{B:Nat}{w0 w w':World}(h:Below B w0 w)(hg:w.grownBy w' row)(hB:B<=w.heap.size)(hr:∀j,row=some j->B<=j):Below B w0 w':=
 ⟨hg.os.trans h.os,hg.tape.trans h.tape,hg.output.trans h.output,Nat.le_trans h.size hg.size,fun k hk=>(hg.block k (Nat.lt_of_lt_of_le hk hB) (fun e=>by have:=hr k e.symm;omega)).trans (h.block k hk)⟩
theorem IL{c n:Nat}{ids:LI}(en:Hid (ids.length=n)){w:World}(h:qT w (.S p n c) ids)(hn:n<=1048576)(hU:Hid (∀i∈ids,0<=i/\i<18446744073709551616)):Cp 63 #[.S p n c] w fun r w'=>∃D,r=.returned (.map (some w.heap.size))/\w'.ownsMap prog 28 unitElem w.heap.size n D/\dD D ids/\Bw w w'/\w.heap.size<w'.heap.size:=by
 have HR:=af fun(w':World)(hb:Bw w w')=>h.below hb;have Xi:=@run_makeMap prog;go_enter func63,ntmps63;go_wp2
 go_loopw[9](fun iv wr=>∃(k:Nat)(D:DataW Unit),k<=n/\iv=.I k/\wr.ownsMap prog 28 unitElem w.heap.size k D/\Hid (dD D (ids.take k))/\Bw w wr) (fun iv _=>n-(intOf iv).toNat)
 exact⟨0,_,Nat.zero_le _,rfl,World.ownsMap_made _ _ _ _,dD.nil,ay.alloc ao _⟩;{
 obtain⟨k,D,hk,rfl,bO,wW,aG⟩:=hrel;by_cases aX:k<n;{
 have bu:=aP k n;have dA:k<ids.length:=by rw[aa en];exact aX
 obtain⟨b,o,rfl,cO⟩:∃b o,p=some ⟨b,o,none⟩/\wr.cell? ⟨b,o+k,none⟩=some (.U (ids.getD k 0)):=by obtain⟨p',c',ev,hd⟩:=aa HR _ aG;simp only[Value.slice.injEq]at ev;obtain⟨rfl,-,-⟩:=ev;rcases hd with h0|⟨b,o,h1,h2⟩;{rw[h0]at dA;simp at dA};{exact⟨b,o,h1,h2 k dA⟩}
 have e1:ids.take (k+1)=ids.take k++[ids.getD k 0]:=by rw[List.take_add_one,List.getD_eq_getElem?_getD,aO dA];rfl
 have hy:=aa hU (ids.getD k 0) (by rw[List.getD_eq_getElem?_getD,aO dA];exact List.getElem_mem dA);have Ut:=wW.put bO.isMap (ids.getD k 0) (.agg []);rw[<-e1]at Ut;have tC:=af Ut;obtain⟨y,ey⟩:=aI (ids.getD k 0);rw[ey]at cO hy tC;have cL:keyOf prog 28 (.U y)=some (.U y):=keyOf_int_mk underlying28 (nT hy);go_wp2_with(first
  |(at_mapUpdate;refine wpList_mapUpdate_own _ rfl _ _ _ 118 rfl 28 _ iI underlying118 unitElem w.heap.size k _ rfl bO ic _ _ _ rfl rfl cL (.agg []) [] unitElem_mk ?_;intro w1 sR aR8)
  |go_in)
 go_roundw;exact⟨k+1,_,ae,by go_num,sR,tC,bD aG aR8 (Nat.le_of_lt (Nat.lt_of_le_of_lt ao bO.lt)) (fun j hj=>by cases hj;exact Nat.le_refl _)⟩;exact bG};{
 have bu:=du k n;have:k=n:=by omega
 subst this;have HS:=aa wW;rw[List.take_of_length_le (by rw[aa en];exact Nat.le_refl _)]at HS;go_wp2;go_ret;exact⟨rfl,D,bO,HS,aG,bO.lt⟩}}
theorem u6{bd nd ns:Nat}{Dd Ds:DataW Unit}{sd ss:LI}{w:World}(hd:w.ownsMap prog 28 unitElem bd nd Dd)(hs:w.ownsMap prog 28 unitElem bs ns Ds)(hsd:Hid (dD Dd sd))(hss:Hid (dD Ds ss))(cg:bd≠bs)(hn:nd<=4611686018427387904)(hm:ns<=1048576):Cp 192 #[.map (some bd),.map (some bs)] w fun r w'=>∃D s,r=.returned (.tuple #[])/\w'.ownsMap prog 28 unitElem bd (nd+ns) D/\dD D s/\(∀i,i∈s↔i∈sd\/i∈ss)/\w.grownBy w' (some bd):=by
 have HS:=hs;go_enter func192,ntmps192;go_wp2_with(first
  |(at_range;refine wpList_range_own _ rfl _ 118 rfl 28 _ iI underlying118 _ bs ns _ rfl hs ?_;intro w0 nw CN Ml)
  |go_in)
 go_frame
 go_loopw[4](fun _ wr=>∃(left:Lit->Bool)(iM k:Nat)(D:DataW Unit)(s:LI),wr.ranges prog 28 unitElem bs w.heap.size ns Ds left iM/\k+iM<=nd+ns/\wr.ownsMap prog 28 unitElem bd k D/\Hid (dD D s)/\Hid (∀i,i∈s↔i∈sd\/(i∈ss/\left (.U i)=false))/\w.grownBy wr (some bd)) (fun _ wr=>wr.rangeLeft bs w.heap.size)
 case atStart=>(
 refine⟨_,_,nd,Dd,sd,nw,?_,hd.kept CN ai,hsd,?_,CN.but _⟩;{have:=hs.size_le;omega};{intro i;constructor;{exact fun h=>.inl h};{rintro(h|⟨h1,h2⟩);{exact h};{rw[(aa hss (.U i)).2 ⟨i,h1,rfl⟩]at h2;cases h2}}})
 case round=>(
 obtain⟨left,iM,k,D,s,jb,hkc,bO,wW,iY,hgw⟩:=hrel;go_wp2_with(first
  |(at_next;refine Cs _ rfl _ rfl 28 iI underlying28 bs w.heap.size ns _ ss hss _ _ rfl jb ?_ ?_)
  |go_in)
 {
 intro _ uz;go_wp2
 go_end0
 refine⟨D,s,rfl,bO.mono ae,wW,fun i=>?_,hgw⟩;rw[aa iY i,uz];simp};{
 intro x w1 rT hwx hx hlx pM aX fU ik AF;have cf4:=hgw.andThen fU (fun j hj=>by cases hj;exact Or.inl ao);have hr:=jb.lt;have sR:=bO.kept fU (fun e=>by cases e;exact absurd hd.lt ae);have cL:keyOf prog 28 (.U x)=some (.U x):=keyOf_int_mk underlying28 hwx;have Ut:=af (wW.put bO.isMap x (.agg []));have bo6:Hid (∀i,i∈s++[x]↔i∈sd\/(i∈ss/\(fun z=>left z&&!z.sameKey (.U x)) (.U i)=false)):=by
  intro i;rw[List.mem_append,aa iY i];simp only[List.mem_singleton];have hk:((Lit.U i).sameKey (.U x)=true)↔i=x:=by rw[WideAt.sameKey_iff (by trivial)];simp
  by_cases e:i=x;{subst e;rw[hk.2 rfl];simp[hx]};{rw[show(Lit.U i).sameKey (.U x)=false by(rw[Bool.eq_false_iff];exact fun h=>e (hk.1 h))];simp[e]}
 go_wp2_with(first
  |(at_mapUpdate;refine wpList_mapUpdate_own _ rfl _ _ _ 118 rfl 28 _ iI underlying118 unitElem bd k _ rfl (sR.alloc _) ic _ _ _ rfl rfl cL (.agg []) [] unitElem_mk ?_;intro w2 FB aa1)
  |go_in)
 have Fy:=(pM.alloc _).kept aa1 (by simp;exact fun e=>cg e.symm) (by simp;intro e;exact absurd hd.lt ae);go_roundw;exact⟨_,rT,Fy,k+1,ae,_,FB,_,Ut,bo6,(cf4.andThen (World.grownBy_alloc _ _ none) (fun j hj=>by cases hj)).andThen aa1 (fun j hj=>by cases hj;exact Or.inr rfl)⟩
 case measure=>rw[Fy.left_eq,jb.left_eq];omega})
def jK:(aN l).data.toList=l.map (fun n=>UInt8.ofNat n.toNat):=by rw[aN,Jw];rfl
def gS:(aN l).size=l.length:=by
 show(aN l).data.size=_;rw[<-Array.length_toList,jK,fe]
def PJ(hB:aM l)(hj:j<(aN l).size):(((aN l)[j]'hj).toNat:Int)=l.getD j 0:=by
 have hl:j<l.length:=by rw[<-gS];exact hj
 have e1:(aN l)[j]'hj=(aN l).data.toList[j]'(by rw[jK,fe];exact hl):=by rw[Array.getElem_toList];rfl
 rw[e1];simp only[jK,Y6];rw[gj,aO hl,qI];have:=hB l[j] (Hl hl);rw[UInt8.toNat_ofNat'];omega
def KF{n:Nat}(es:Hid (s=aN l))(en:s.size=n)(hB:Hid (aM l))(hn:n<=2097152){w:World}:Cp 233 #[.string s,.int .u8 47] w fun e w'=>((∃k:Nat,e=.returned (.I k)/\k<n/\Mh l n=k)\/(e=.returned (.I (-1))/\Mh l n=0/\∀j,j<n->l.getD j 0≠47))/\w'=w:=by
 have aR9:Hid (∀(j:Nat)(hj:j<s.size),((s[j]'hj).toNat:Int)=l.getD j 0):=by have e:=aa es;subst e;exact fun j hj=>PJ hB hj
 subst en;go_enter func233,ntmps233;go_wp2
 go_loop [5](fun vi=>∃k:Nat,k<=s.size/\vi=.I ((k:Int)-1)/\Hid (Mh l s.size=Mh l k)/\Hid (∀j,k<=j->j<s.size->l.getD j 0≠47)) (fun vi=>((RowKit.intOf vi)+1).toNat)
 case atStart=>exact⟨s.size,jS _,by first|rfl|go_num|(congr 1;omega),bq,fun j h1 h2=>ae⟩
 case round=>(
 obtain⟨k,hk,rfl,hh,hq⟩:=hrel;go_wp2;{
 have hc:(((s[k-1]).toNat:Int)==47)=true:=by assumption
 have k1:1<=k:=ae;have e1:Mh l k=k-1:=by have:=um l (k-1);rw[show k-1+1=k by omega]at this;rw[this,bN];rw[<-aa aR9 (k-1) ae];simpa using hc
 have e2:((k-1:Nat):Int)=(k:Int)-1:=ae;go_ret;refine⟨.inl ⟨k-1,by rw[e2];rfl,ae,by rw[aa hh,e1]⟩,rfl⟩};{
 have hc:(((s[k-1]).toNat:Int)==47)=false:=by assumption
 have k1:1<=k:=ae;have e1:Mh l k=Mh l (k-1):=by have:=um l (k-1);rw[show k-1+1=k by omega]at this;rw[this,bH];rw[<-aa aR9 (k-1) ae];simpa using hc
 have e3:l.getD (k-1) 0≠47:=by rw[<-aa aR9 (k-1) ae];simpa using hc
 refine⟨⟨k-1,ae,by congr 1;omega,hh.trans e1,fun j h1 h2=>?_⟩,?_⟩;{by_cases ej:j=k-1;{rw[ej];exact e3};{exact hq j ae h2}};simp[RowKit.intOf];omega};{have k0:k=0:=ae;subst k0;go_ret;exact⟨.inr ⟨rfl,hh,fun j hj=>aa hq j (gq _) hj⟩,rfl⟩})
def Oi{n:Nat}(es:Hid (s=aN l))(en:s.size=n)(hB:Hid (aM l))(hn:n<=2097152){w:World}:Cp 221 #[.string s,.int .u8 47] w fun e w'=>((∃k:Nat,e=.returned (.I k)/\k<n/\Mh l n=k)\/(e=.returned (.I (-1))/\Mh l n=0/\∀j,j<n->l.getD j 0≠47))/\w'=w:=by
 go_enter func221,ntmps221;go_wp2_with fail;refine(KF es en hB hn).mono ?_;rintro e w'⟨hr,rfl⟩;rcases hr with⟨k,rfl,hk,hl⟩|⟨rfl,hl⟩;{have HL:=af hl;go_wp2;go_ret;exact⟨.inl ⟨k,rfl,hk,HL⟩,rfl⟩};{have HL:=af hl;go_wp2;go_ret;exact⟨.inr ⟨rfl,HL⟩,rfl⟩}
def sg{n:Nat}(en:Hid (l.length=n))(hB:Hid (aM l))(hn:n<=1048576){w:World}:Cp 191 #[.string (aN l)] w fun e w'=>e=.returned (.string (aN (dY l)))/\w'=w:=by
 obtain⟨s,es⟩:=au (aN l);have hs:s.size=n:=by rw[es,gS];exact aa en
 rw[<-es];have ES:=af es;clear es;go_enter func191,ntmps191;go_wp2_with fail;refine(Oi ES hs hB ae).mono ?_;rintro e w'⟨hr,rfl⟩;rcases hr with⟨k,rfl,hk,hl⟩|⟨rfl,hl,-⟩;{
 by_cases k0:k=0;{
 subst k0;have e1:dY l=[47]:=by rw[dY,aa en,hl,bN rfl]
 have E1:=af e1;clear hl e1;go_wp2;go_ret;exact⟨by rw[aa E1];rfl,rfl⟩};{
 have e1:dY l=l.take k:=by rw[dY,aa en,hl,bH k0]
 have E1:=af e1;clear e1;have g1:¬(k:Int)<1:=ae;have g2:=iE k n;have g3:k<=s.size:=ae;have ex:Hid (s.extract 0 k=aN (l.take k)):=by show _=_;rw[aa ES];apply ByteArray.ext;apply Zi.1;rw[jK,List.map_take,<-jK];simp[ByteArray.data_extract]
 clear hl;go_wp2;go_ret;exact⟨by rw[aa E1,<-aa ex];rfl,rfl⟩}};{
 have e1:dY l=[47]:=by rw[dY,aa en,hl,bN rfl]
 have E1:=af e1;clear hl e1;go_wp2;go_ret;exact⟨by rw[aa E1];rfl,rfl⟩}
structure vo(w0 w:World)(bs:Nat)(ss:List aR)(SB:List Nat):Prop where
 len:SB.length=ss.length
 own:∃D,w.ownsMap prog 28 aV bs ss.length D/\gM D (List.zipWith (fun(s:aR)g=>(Lit.U s.1,g)) ss SB)
 blk:∀(i:Nat)(s:aR)(g:Nat),ss[i]?=some s->SB[i]?=some g->w0.heap.size<=g/\∃u,w.heap[g]?=some (.cells #[.U s.1,.I s.2.1,u] 86)/\pX w0 u s.2.2
 gy:SB.Nodup
structure tB(w0 w:World)(bn:Nat)(ns:List aB)(NB HB UB:List Nat):Prop where
 len:NB.length=ns.length
 CJ:HB.length=ns.length
 CH:UB.length=ns.length
 own:∃D,w.ownsMap prog 9 aV bn ns.length D/\gM D (List.zipWith (fun(nd:aB)g=>(bQ nd.path,g)) ns NB)
 blk:∀(i:Nat)(nd:aB)(g h u:Nat),ns[i]?=some nd->NB[i]?=some g->HB[i]?=some h->UB[i]?=some u->w0.heap.size<=g/\w0.heap.size<=h/\w0.heap.size<=u∧
  (∃V,w.heap[g]?=some (.cells #[V,.U nd.owner,.I nd.mode,.map (some h),.U nd.aJ,.U nd.gen,.map (some u)] 121)/\Rd w0 V nd.value)∧
  (∃D,w.ownsMap prog 28 unitElem h nd.holders.length D/\dD D nd.holders)/\(∃D,w.ownsMap prog 28 unitElem u nd.watchers.length D/\dD D nd.watchers)
 gy:NB.Nodup
 yQ:(bn::(HB++UB)).Nodup
def gJ{R:Value->Option (DataW Unit×List MemPlace)}{w:World}{b n g:Nat}{t:TypeId}(h:w.ownsMap P k R b n D)(hg:w.heap[g]?=some (.cells cs t)):g≠b:=by
 rintro rfl;obtain⟨es,cl,hb,_⟩:=h;rw[hb]at hg;cases hg
def aL{w:World}{g:Nat}{o:Obj}(h:w.heap[g]?=some o):g<w.heap.size:=(EF.1 h).1
def vo.kept{w0 w w':World}(h:vo w0 w bs ss SB)(hg:w.grownBy w' row)(h1:some bs≠row)(h2:∀g∈SB,some g≠row):vo w0 w' bs ss SB:=by
 refine⟨h.len,?_,fun i s g hi H7=>?_,h.gy⟩;{obtain⟨D,hD,hM⟩:=h.own;exact⟨D,hD.kept hg h1,hM⟩};{obtain⟨a1,u,a2,a3⟩:=h.blk i s g hi H7;exact⟨a1,u,(hg.block g (aL a2) (h2 g (aS H7))).trans a2,a3⟩}
def tB.kept{w0 w w':World}{NB HB UB:List Nat}(h:tB w0 w bn ns NB HB UB)(hg:w.grownBy w' row)(h1:some bn≠row)(h2:∀g∈NB,some g≠row)(h3:∀g∈HB++UB,some g≠row):tB w0 w' bn ns NB HB UB:=by
 refine⟨h.len,h.CJ,h.CH,?_,fun i nd g hh u hi H7 Z9 hui=>?_,h.gy,h.yQ⟩;{obtain⟨D,hD,hM⟩:=h.own;exact⟨D,hD.kept hg h1,hM⟩};{obtain⟨a1,a2,a3,⟨V,a4,a5⟩,⟨D1,a6,a7⟩,⟨D2,a8,a9⟩⟩:=h.blk i nd g hh u hi H7 Z9 hui;exact⟨a1,a2,a3,⟨V,(hg.block g (aL a4) (h2 g (aS H7))).trans a4,a5⟩,⟨D1,a6.kept hg (h3 _ (gR.2 (.inl (aS Z9)))),a7⟩,⟨D2,a8.kept hg (h3 _ (gR.2 (.inr (aS hui)))),a9⟩⟩}
def vK{α:Type}{l:List α}{x y:α}(h:(l++[x])[i]?=some y):l[i]?=some y\/(i=l.length/\x=y):=by
 by_cases hi:i<l.length;{rw[kT hi]at h;exact .inl h};{
 rw[mE ae]at h
 right
 obtain⟨aX,e⟩:=aT.1 h;simp at aX;refine⟨ae,?_⟩;simpa[show i-l.length=0 by omega]using h}
def Mt{α β γ:Type}(f:α->β->γ){l:List α}{m:List β}(h:m.length=l.length)(x:α)(y:β):List.zipWith f (l++[x]) (m++[y])=List.zipWith f l m++[f x y]:=by
 rw[Y5 ae]
 rfl
def gF{α β γ:Type}{f:α->β->γ}{l:List α}{m:List β}{z:γ}(h:z∈List.zipWith f l m):∃(i:Nat)(x:α)(y:β),l[i]?=some x/\m[i]?=some y/\z=f x y:=by
 obtain⟨i,hi,rfl⟩:=BG h;rw[List.length_zipWith]at hi;refine⟨i,l[i]'(by omega),m[i]'(by omega),aO _,aO _,?_⟩;simp
def vo.empty{w0 w:World}(h:w.ownsMap prog 28 aV bs 0 (.map [])):vo w0 w bs [] []:=
 ⟨rfl,⟨_,h,gM.nil⟩,fun i s g hi=>by simp at hi,Uf⟩
def tB.empty{w0 w:World}(h:w.ownsMap prog 9 aV bn 0 (.map [])):tB w0 w bn [] [] [] []:=
 ⟨rfl,rfl,rfl,⟨_,h,gM.nil⟩,fun i s g _ _ hi=>by simp at hi,Uf,ai⟩
def vo.lt{w0 w:World}(h:vo w0 w bs ss SB):∀g∈SB,g<w.heap.size:=by
 intro g hg;obtain⟨i,hi⟩:=wo hg;have hl:=(aT.1 hi).1;obtain⟨s,hs⟩:∃s,ss[i]?=some s:=⟨_,aO (by rw[<-h.len];exact hl)⟩;obtain⟨_,u,a2,_⟩:=h.blk i s g hs hi;exact aL a2
def tB.at{w0 w:World}{NB HB UB:List Nat}(h:tB w0 w bn ns NB HB UB)(hi:ns[i]?=some nd):∃g hh u,NB[i]?=some g/\HB[i]?=some hh/\UB[i]?=some u:=by
 have hl:=(aT.1 hi).1;exact⟨_,_,_,aO (by rw[h.len];exact hl),aO (by rw[h.CJ];exact hl),aO (by rw[h.CH];exact hl)⟩
def tB.lt{w0 w:World}{NB HB UB:List Nat}(h:tB w0 w bn ns NB HB UB):(∀g∈NB,g<w.heap.size)/\∀g∈HB++UB,g<w.heap.size:=by
 have key:∀i,i<ns.length->∃g hh u,NB[i]?=some g/\HB[i]?=some hh/\UB[i]?=some u/\g<w.heap.size/\hh<w.heap.size/\u<w.heap.size:=fun i hi=>by obtain⟨nd,br⟩:∃s,ns[i]?=some s:=⟨_,aO hi⟩;obtain⟨g,hh,u,e1,e2,e3⟩:=h.at br;obtain⟨_,_,_,⟨V,a4,_⟩,⟨D1,a6,_⟩,⟨D2,a8,_⟩⟩:=h.blk i nd g hh u br e1 e2 e3;exact⟨g,hh,u,e1,e2,e3,aL a4,a6.lt,a8.lt⟩
 refine⟨fun g hg=>?_,fun g hg=>?_⟩;{obtain⟨i,hi⟩:=wo hg;have hl:=(aT.1 hi).1;obtain⟨g',_,_,e1,_,_,a,_,_⟩:=key i (by rw[<-h.len];exact hl);rw[hi]at e1;cases e1;exact a};{rcases gR.1 hg with hg|hg;{obtain⟨i,hi⟩:=wo hg;have hl:=(aT.1 hi).1;obtain⟨_,g',_,_,e1,_,_,a,_⟩:=key i (by rw[<-h.CJ];exact hl);rw[hi]at e1;cases e1;exact a};{obtain⟨i,hi⟩:=wo hg;have hl:=(aT.1 hi).1;obtain⟨_,_,g',_,_,e1,_,_,a⟩:=key i (by rw[<-h.CH];exact hl);rw[hi]at e1;cases e1;exact a}}
def Eu{l:List Nat}{x:Nat}(h:l.Nodup)(hx:∀y∈l,y≠x):(l++[x]).Nodup:=by
 rw[yk];exact⟨h,ai,fun a ha b hb=>by simp at hb;subst hb;exact hx a ha⟩
def vo.step{w0 w w1 w2:World}(h:vo w0 w bs ss SB)(s:aR)(g:Nat)(hg:w.grownBy w1 none)(Xm:w.heap.size<=g)(hw:w0.heap.size<=w.heap.size)(u:Value)(hu:pX w0 u s.2.2)(hb:w1.heap[g]?=some (.cells #[.U s.1,.I s.2.1,u] 86))(hid:∀z∈ss,z.1≠s.1)(hM:gM D (List.zipWith (fun(s:aR)g=>(Lit.U s.1,g)) ss SB))(hD:IsMap D)(bO:w2.ownsMap prog 28 aV bs (ss.length+1) (D.put (.U s.1) (.lit (.I g))))(ga:w1.grownBy w2 (some bs)):vo w0 w2 bs (ss++[s]) (SB++[g]):=by
 have qi:bs<w.heap.size:=by obtain⟨D,hD,_⟩:=h.own;exact hD.lt
 refine⟨by simp[h.len],⟨_,by rw[ig];exact bO,?_⟩,fun i z g' hi H7=>?_,Eu h.gy (fun y hy=>by have:=h.lt y hy;omega)⟩;{rw[Mt _ h.len];refine hM.put hD (by trivial) (fun p hp=>?_) g;obtain⟨i,x,y,hx,hy,rfl⟩:=gF hp;intro e;simp only[Lit.int.injEq,Rl]at e;exact hid x (aS hx) e};{rcases vK hi with Sb|⟨e1,rfl⟩;{have hl:=(aT.1 Sb).1;rw[kT (by rw[h.len];exact hl)]at H7;obtain⟨a1,v,a2,a3⟩:=h.blk i z g' Sb H7;refine⟨a1,v,?_,a3⟩;have b1:=(hg.block g' (aL a2) ai).trans a2;refine(ga.block g' (aL b1) ?_).trans b1;obtain⟨D',hD',_⟩:=h.own;have:=gJ hD' a2;simpa using this};{rw[e1,<-h.len,mE ao]at H7;simp at H7;subst H7;refine⟨ae,u,?_,hu⟩;exact(ga.block _ (aL hb) bj).trans hb}}
structure cT(w0 w:World)(b bs bn:Nat)(e g x t:Int)(ss:List aR)(ns:List aB)(SB NB HB UB:List Nat):Prop where
 hd:w.heap[b]?=some (.cells #[.U e,.U g,.U x,.I t,.map (some bs),.map (some bn)] 114)
 tI:vo w0 w bs ss SB
 gy:tB w0 w bn ns NB HB UB
 lo:w0.heap.size<=b/\w0.heap.size<=bs/\w0.heap.size<=bn
 yQ:(bs::bn::(HB++UB)).Nodup
def cT.below{w0 w w':World}{SB NB HB UB:List Nat}(h:cT w0 w b bs bn e g x t ss ns SB NB HB UB)(hb:Bw w w'):cT w0 w' b bs bn e g x t ss ns SB NB HB UB:=
 ⟨(hb.block b (aL h.hd)).trans h.hd,h.tI.kept (az hb none) ai ai,h.gy.kept (az hb none) ai ai ai,h.lo,h.yQ⟩
def aq{w:World}{g:Nat}{t:TypeId}(h:w.heap[g]?=some (.cells cs t))(i:Nat):w.cell? ⟨g,i,none⟩=cs[i]?:=by
 unfold World.cell?;rw[h]
 rfl
def tB.step{w0 w w1 w2:World}{NB HB UB:List Nat}(h:tB w0 w bn ns NB HB UB)(nd:aB)(g hb ub:Nat)(hg:w.grownBy w1 none)(Xm:w.heap.size<=g)(Xl:w.heap.size<=hb)(Xd:w.heap.size<=ub)(cg:hb≠ub)(hw:w0.heap.size<=w.heap.size)(V:Value)(hV:Rd w0 V nd.value)(hbk:w1.heap[g]?=some (.cells #[V,.U nd.owner,.I nd.mode,.map (some hb),.U nd.aJ,.U nd.gen,.map (some ub)] 121)){D1 D2:DataW Unit}(hH:w1.ownsMap prog 28 unitElem hb nd.holders.length D1)(hHs:dD D1 nd.holders)(hU:w1.ownsMap prog 28 unitElem ub nd.watchers.length D2)(hUs:dD D2 nd.watchers)(hid:∀z∈ns,bQ z.path≠bQ nd.path)(hM:gM D (List.zipWith (fun(nd:aB)g=>(bQ nd.path,g)) ns NB))(hD:IsMap D)(bO:w2.ownsMap prog 9 aV bn (ns.length+1) (D.put (bQ nd.path) (.lit (.I g))))(ga:w1.grownBy w2 (some bn)):tB w0 w2 bn (ns++[nd]) (NB++[g]) (HB++[hb]) (UB++[ub]):=by
 have xC:bn<w.heap.size:=by obtain⟨D,hD,_⟩:=h.own;exact hD.lt
 have aX:=h.lt;refine⟨by simp[h.len],by simp[h.CJ],by simp[h.CH],⟨_,by rw[ig];exact bO,?_⟩,fun i z g' h' u' hi H7 Z9 hui=>?_,Eu h.gy (fun y hy=>by have:=aX.1 y hy;omega),?_⟩;{rw[Mt _ h.len];refine hM.put hD (by trivial) (fun p hp=>?_) g;obtain⟨i,x,y,hx,hy,rfl⟩:=gF hp;exact fun e=>hid x (aS hx) e};{
 rcases vK hi with Sb|⟨e1,rfl⟩;{
 have hl:=(aT.1 Sb).1;rw[kT (by rw[h.len];exact hl)]at H7;rw[kT (by rw[h.CJ];exact hl)]at Z9;rw[kT (by rw[h.CH];exact hl)]at hui;obtain⟨a1,a2,a3,⟨V',a4,a5⟩,⟨E1,a6,a7⟩,⟨E2,a8,a9⟩⟩:=h.blk i z g' h' u' Sb H7 Z9 hui;have Wd:=h.yQ;rw[vg]at Wd;have n1:some h'≠some bn:=by intro e;cases e;exact Wd.1 (gR.2 (.inl (aS Z9)))
 have n2:some u'≠some bn:=by intro e;cases e;exact Wd.1 (gR.2 (.inr (aS hui)))
 have b1:=(hg.block g' (aL a4) ai).trans a4;refine⟨a1,a2,a3,⟨V',(ga.block g' (aL b1) ?_).trans b1,a5⟩,⟨E1,(a6.kept hg ai).kept ga n1,a7⟩,⟨E2,(a8.kept hg ai).kept ga n2,a9⟩⟩;obtain⟨D',hD',_⟩:=h.own;have:=gJ hD' a4;simpa using this};{rw[e1,<-h.len,mE ao]at H7;rw[e1,<-h.CJ,mE ao]at Z9;rw[e1,<-h.CH,mE ao]at hui;simp at H7 Z9 hui;subst H7 Z9 hui;exact⟨ae,ae,ae,⟨V,(ga.block _ (aL hbk) bj).trans hbk,hV⟩,⟨D1,hH.kept ga bj,hHs⟩,⟨D2,hU.kept ga bj,hUs⟩⟩}};{
 have hp:((HB++[hb])++(UB++[ub])).Perm ((HB++UB)++[hb,ub]):=by rw[tj,tj];exact List.Perm.append_left HB (show(hb::(UB++[ub])).Perm (UB++hb::[ub])from Y4.symm)
 have hq:(bn::((HB++[hb])++(UB++[ub]))).Perm ((bn::(HB++UB))++[hb,ub]):=hp.cons bn;rw[hq.nodup_iff,yk];refine⟨h.yQ,by simp[cg],fun a ha c hc=>?_⟩;have Sn:a<w.heap.size:=by rcases jA.1 ha with rfl|ha;{exact xC};{exact aX.2 a ha}
 simp at hc;rcases hc with rfl|rfl<;>omega}
def tW{w:World}{Q:Exit->Act->World->Prop}(mr:o.guard=none){m x v:Operand}{t:TypeId}(Hy:o.op=Op.mapUpdate t m x v){e:TypeId}(KK:Keyed P k)(ht:P.underlying t=some (.map k e))(R:Value->Option (DataW Unit×List MemPlace))(b n:Nat) (hm:a.eval m=.map (some b))(bO:w.ownsMap P k R b n D)(hn:n<maxLen){key:Value}(val:Value){kl:Lit}(hx:a.eval x=key)(hv:a.eval v=val)(cL:keyOf P k key=some kl){d:DataW Unit}{ps:List MemPlace}(Hu:R val=some (d,ps))(hK:∀w',w'.ownsMap P k R b (n+1) (D.put kl d)->w.grownBy w' (some b)->K (a.put o.dst undef) w'):if Region.wanted o (yielded ops a.tmps)=true then Oper.wp P o a w K Q else E:=by
 have hw:Region.wanted o (yielded ops a.tmps)=true:=by simp[Region.wanted,mr]
 rw[bN hw];obtain⟨w',dI,r1,r2⟩:=bO.update KK ht hn cL Hu;unfold Oper.wp;simp[execOp,Hy,hm,hx,hv,dI,Result.andThen];exact hK w' r1 r2
def XM{w:World}{Q:Exit->Act->World->Prop}(mr:o.guard=none){t:TypeId}{x:Operand}(Hy:o.op=Op.box t x)(hx:a.eval x=v){r:Value}{w':World}(dI:(Instr.box t v).run P w=.ok r w')(hK:K (a.put o.dst r) w'):if Region.wanted o (yielded ops a.tmps)=true then Oper.wp P o a w K Q else E:=by
 have hw:Region.wanted o (yielded ops a.tmps)=true:=by simp[Region.wanted,mr]
 rw[bN hw];unfold Oper.wp;simp[execOp,Hy,hx,dI,Result.andThen];exact hK
def MY{w:World}{ow mo ep ge:Int}:(Instr.box 121 (.agg #[V,.U ow,.I mo,.map (some h),.U ep,.U ge,.map (some u)])).run prog w=.ok (.pointer (some ⟨w.heap.size,0,none⟩)) (w.alloc (.cells #[V,.U ow,.I mo,.map (some h),.U ep,.U ge,.map (some u)] 121)):=by
 go_simp
def ru{α:Type}{l:List α}{k:Nat}{y:α}(h:l[k]?=some y):l.take (k+1)=l.take k++[y]:=by rw[ng,h];rfl
def yh{α:Type}{l:List α}{k:Nat}{z:α}(h:z∈l.take k):∃i,i<k/\l[i]?=some z:=by
 obtain⟨i,hi⟩:=wo h;rw[Fc]at hi;split at hi;{exact⟨i,by assumption,hi⟩};{cases hi}
def cM{w w':World}(h:w'.heap[b]?=w.heap[b]?){o:Nat}:w'.cell? ⟨b,o,none⟩=w.cell? ⟨b,o,none⟩:=by
 unfold World.cell?;rw[h]
def jv.heap{w w':World}{S N:Value}(h:jv w b e g x t S N)(hb:w'.heap[b]?=w.heap[b]?):jv w' b e g x t S N:=
 ⟨(cM hb).trans h.1,(cM hb).trans h.2.1,(cM hb).trans h.2.2.1,(cM hb).trans h.2.2.2.1,(cM hb).trans h.2.2.2.2.1,(cM hb).trans h.2.2.2.2.2⟩
def ar{w2:World}(h:X.drew.grownBy w2 row):X.grownBy w2 row:=⟨h.os,h.tape,h.output,h.size,h.block⟩
def tT{p q:OA}{c n d m:Nat}(en:Hid (ss.length=n))(em:Hid (ns.length=m)){w:World}(h:nI w (.S p n c) ss)(hN:qz w (.S q m d) ns)(hn:n<=1048576)(hm:m<=1048576)(hsu:Hid (∀s∈ss,0<=s.1/\s.1<18446744073709551616))(hsd:Hid (∀(i j:Nat)(s s':aR),ss[i]?=some s->ss[j]?=some s'->i<j->s.1≠s'.1))(fS:Hid (∀nd∈ns,aM nd.path/\nd.path.length<=1048576/\nd.value.length<=1048576/\nd.holders.length<=1048576/\nd.watchers.length<=1048576))(OJ:Hid (∀nd∈ns,(∀i∈nd.holders,0<=i/\i<18446744073709551616)/\∀i∈nd.watchers,0<=i/\i<18446744073709551616))(br:Hid (∀(i j:Nat)(z z':aB),ns[i]?=some z->ns[j]?=some z'->i<j->z.path≠z'.path)):Cp 25 #[gh e g x t (.S p n c) (.S q m d)] w fun r w'=>∃b bs bn SB NB HB UB,r=.returned (.pointer (some ⟨b,0,none⟩))/\cT w w' b bs bn e g x t ss ns SB NB HB UB/\Bw w w':=by
 have HR:=af fun(w':World)(hb:Bw w w')=>ah (h.below hb) (hN.below hb);have HS0:=af h;have HN0:=af hN;clear h hN;have Xi:=@run_makeMap prog;go_enter func25,ntmps25;go_wp2_with fail;obtain⟨b,eb⟩:=au (w.heap.size+1+1+1);obtain⟨bn,ebn⟩:=au (w.heap.size+1+1);obtain⟨bs,ebs⟩:=au (w.heap.size+1);rw[<-eb,<-ebn,<-ebs];obtain⟨W,hW⟩:=au ((((w.alloc (.cells #[.U e,.U g,.U x,.I t,.S p n c,.S q m d] 32)).alloc (.map #[] 0)).alloc (.map #[] 0)).alloc (.cells #[.U e,.U g,.U x,.I t,.map (some bs),.map (some bn)] 114));have bW:Bw w W:=by rw[hW];exact(((ay.alloc ao _).alloc ai _).alloc bj _).alloc bj _
 have zW:W.heap.size=w.heap.size+4:=by rw[hW];simp
 have hdW:W.heap[b]?=some (.cells #[.U e,.U g,.U x,.I t,.map (some bs),.map (some bn)] 114):=by rw[hW,eb];have:=(MapKept.heap_alloc (((w.alloc (.cells #[.U e,.U g,.U x,.I t,.S p n c,.S q m d] 32)).alloc (.map #[] 0)).alloc (.map #[] 0)) (.cells #[.U e,.U g,.U x,.I t,.map (some bs),.map (some bn)] 114)).1;simpa using this
 have oS:W.ownsMap prog 28 aV bs 0 (.map []):=by rw[hW,ebs];have:=((World.ownsMap_made (w.alloc (.cells #[.U e,.U g,.U x,.I t,.S p n c,.S q m d] 32)) prog 28 aV).alloc (.map #[] 0)).alloc (.cells #[.U e,.U g,.U x,.I t,.map (some (w.heap.size+1)),.map (some bn)] 114);simpa using this
 have oN:W.ownsMap prog 9 aV bn 0 (.map []):=by rw[hW,ebn];have:=(World.ownsMap_made ((w.alloc (.cells #[.U e,.U g,.U x,.I t,.S p n c,.S q m d] 32)).alloc (.map #[] 0)) prog 9 aV).alloc (.cells #[.U e,.U g,.U x,.I t,.map (some bs),.map (some (w.heap.size+1+1))] 114);simpa using this
 have c6:jv W w.heap.size e g x t (.S p n c) (.S q m d):=by
  have c0:jv (w.alloc (.cells #[.U e,.U g,.U x,.I t,.S p n c,.S q m d] 32)) w.heap.size e g x t (.S p n c) (.S q m d):=by simp[jv]
  rw[hW];exact c0.below (((ay.alloc ao _).alloc ai _).alloc ai _)
 rw[<-hW];have HEQ:=af (ah eb (ah ebn (ah ebs zW)));have BW:=af bW;have WV:=af c6;have Xx:=af (ah hdW (ah oS oN));clear hW eb ebn ebs zW bW hdW oS oN c6 Xi
 go_loopw[23](fun iv wr=>∃(k:Nat)(SB:List Nat),k<=n/\iv=.I k/\Hid (vo w wr bs (ss.take k) SB/\wr.heap[b]?=some (.cells #[.U e,.U g,.U x,.I t,.map (some bs),.map (some bn)] 114)/\wr.ownsMap prog 9 aV bn 0 (.map [])/\jv wr w.heap.size e g x t (.S p n c) (.S q m d))/\Bw w wr/\W.heap.size<=wr.heap.size) (fun iv _=>n-(intOf iv).toNat)
 exact⟨0,[],gq _,rfl,⟨vo.empty Xx.2.1,Xx.1,Xx.2.2,WV⟩,BW,jS _⟩;{
 obtain⟨k,SB,hk,rfl,jr,aG,Ry⟩:=hrel;by_cases aX:k<n;{
 have bu:=aP k n;have dA:k<ss.length:=by rw[aa en];exact aX
 obtain⟨⟨I,D,Q⟩,hy⟩:∃y,ss[k]?=some y:=⟨_,aO dA⟩;obtain⟨b0,o,rfl,hcI,hcD,u,hcQ,hrQ⟩:∃b o,p=some ⟨b,o,none⟩/\w.cell? ⟨b,o+k*3,none⟩=some (.U I)/\w.cell? ⟨b,o+k*3+1,none⟩=some (.I D)/\∃u,w.cell? ⟨b,o+k*3+2,none⟩=some u/\pX w u Q:=by obtain⟨p',c',ev,hd⟩:=aa HS0;simp only[dU]at ev;obtain⟨rfl,-,-⟩:=ev;rcases hd with h0|⟨b,o,h1,h2⟩;{rw[h0]at dA;simp at dA};{exact⟨b,o,h1,h2 k _ hy⟩}
 obtain⟨pq,cq,rfl,-⟩:=id hrQ;obtain⟨mq,emq⟩:=aI Q.length;rw[emq]at hrQ hcQ;clear emq;replace hcI:=ag hcI aG;replace hcD:=ag hcD aG;replace hcQ:=ag hcQ aG;have HRQ:=af hrQ;have HY:=af hy;have hI:=aa hsu _ (aS hy);have cL:keyOf prog 28 (.U I)=some (.U I):=keyOf_int_mk underlying28 (nT hI);have Mb:=af cL;clear dA hy hrQ hI cL;go_wp2_with fail;obtain⟨X,hX⟩:=au (wr.alloc (.cells #[.U I,.I D,.S pq mq cq] 86));have bX:=dO hX;have GN:X.heap[wr.heap.size]?=some (.cells #[.U I,.I D,.S pq mq cq] 86):=by rw[hX];exact(MapKept.heap_alloc wr _).1
 have hcX:X.cell? ⟨wr.heap.size,0,none⟩=some (.U I):=by rw[hX];simp
 obtain⟨i1,i2,i3,i4⟩:=aa jr;have pQ:X.heap[b]?=some (.cells #[.U e,.U g,.U x,.I t,.map (some bs),.map (some bn)] 114):=(bX.block b (aL i2)).trans i2;have GM:X.cell? ⟨b,4,none⟩=some (.map (some bs)):=aq pQ 4;rw[<-hX];have zX:X.heap.size=wr.heap.size+1:=by rw[hX];simp
 clear hX hcI hcD hcQ;obtain⟨D0,oD,mD⟩:=i1.own;have hlen:(ss.take k).length=k:=by rw[pK,aa en];omega
 rw[hlen]at oD;have oX:X.ownsMap prog 28 aV bs k D0:=oD.kept (az bX none) ai;have qi:bs<wr.heap.size:=oD.lt;have br8:bs≠b:=fun e=>gJ oD i2 e.symm;have KX:=af (ah GM hcX);have OX:=af oX;clear GM hcX oX;refine dy (fun w'=>w'.cell? ⟨b,4,none⟩=some (.map (some bs))/\w'.cell? ⟨wr.heap.size,0,none⟩=some (.U I)) (by exact KX) fun hS=>?_;refine mu 0 1 2 3 hS ?_;refine jZ 4 5 hS ?_;refine dE 6 fun KK hK=>?_;refine tW aH aH iI underlying111 aV bs k (D:=D0) aH (by exact OX.drew) ic (.pointer (some ⟨wr.heap.size,0,none⟩)) aH aH Mb (d:=.lit (.I wr.heap.size)) (ps:=[]) rfl ?_;intro w2 FB ga;have Lc:X.grownBy w2 (some bs):=ar ga;refine gr hK (by exact⟨(cM (Lc.block b (aL pQ) (by simpa using br8.symm))).trans KX.1,(cM (Lc.block wr.heap.size (aL GN) bj)).trans KX.2⟩) fun hS=>?_;clear hK KK;refine di ?_;have cR:vo w w2 bs (ss.take (k+1)) (SB++[wr.heap.size]):=by rw[ru (aa HY)];refine i1.step (I,D,Q) wr.heap.size (az bX none) ao aG.size (.S pq mq cq) (aa HRQ) GN (fun z hz=>?_) mD oD.isMap (by rw[hlen];exact FB) Lc;obtain⟨i,hi,Mi⟩:=yh hz;exact hsd i k z (I,D,Q) Mi (aa HY) hi
 have Mm:w2.ownsMap prog 9 aV bn 0 (.map []):=(i3.kept (az bX none) ai).kept Lc (by have:=(aa HEQ);simp;omega)
 have aF:w2.heap[b]?=some (.cells #[.U e,.U g,.U x,.I t,.map (some bs),.map (some bn)] 114):=(Lc.block b (aL pQ) (by simpa using br8.symm)).trans pQ;have h62:jv w2 w.heap.size e g x t (.S (some ⟨b0,o,none⟩) n c) (.S q m d):=(i4.below bX).heap (Lc.block w.heap.size (by have:=aG.size;omega) (by have:=aa HEQ;simp;omega));have jc:Bw w w2:=bD (aj aG bX) Lc (by have:=aG.size;omega) (fun j hj=>by cases hj;have:=aa HEQ;omega);have ju:W.heap.size<=w2.heap.size:=by have:=Lc.size;omega
 have mJ:=af (ah cR (ah aF (ah Mm h62)));clear cR aF Mm h62 hS FB ga Lc i1 i2 i3 i4 pQ oD mD GN bX;go_wp2;go_roundw;exact⟨k+1,_,ae,by go_num,mJ,jc,ju⟩;exact bG};{
 have bu:=du k n;have vL:k=n:=ae;subst vL;obtain⟨i1,i2,i3,i4⟩:=aa jr;rw[kq (by rw[aa en];exact jS _)]at i1;obtain⟨j0,j1,j2,j3,j4,j5⟩:=id i4;have I1:=af i1;have I2:=af i2;have I3:=af i3;have I4:=af i4;clear i1 i2 i3 i4 jr;go_wp2_with fail;clear j0 j1 j2 j3 j4 j5;obtain⟨Y,eY⟩:=au wr;subst eY;have BY:=af aG;have ZY:=af Ry;clear aG Ry aX bu hk
 go_loopw[37](fun iv wr=>∃(k:Nat)(NB HB UB:List Nat),k<=m/\iv=.I k/\Hid (tB w wr bn (ns.take k) NB HB UB/\vo w wr bs ss SB/\wr.heap[b]?=some (.cells #[.U e,.U g,.U x,.I t,.map (some bs),.map (some bn)] 114)/\∀y∈HB++UB,y≠bs)/\Bw w wr/\W.heap.size<=wr.heap.size) (fun iv _=>m-(intOf iv).toNat)
 exact⟨0,[],[],[],gq _,rfl,⟨tB.empty (aa I3),aa I1,aa I2,ai⟩,aa BY,aa ZY⟩;{
 obtain⟨j,NB,HB,UB,hk,rfl,jr,aG,Ry⟩:=hrel;by_cases aX:j<m;{
 have bu:=aP j m;have dA:j<ns.length:=by rw[aa em];exact aX
 obtain⟨nd,hy⟩:∃y,ns[j]?=some y:=⟨_,aO dA⟩;obtain⟨b0,o,rfl,hA⟩:=HN0.at ae;obtain⟨P,V,H,U,RJ⟩:=hA j nd hy;obtain⟨zG,jc,hB3,hB4,hB5⟩:=aa fS _ (aS hy);obtain⟨hU1,hU2⟩:=aa OJ _ (aS hy);obtain⟨pp,pc,pn,rfl,LF⟩:=RJ.r0.iB;obtain⟨vq,vc,vn,rfl,eVn⟩:=RJ.r1.iB;obtain⟨hp,hc,hh,rfl,SC⟩:=RJ.r4.iB;obtain⟨up,uc,un,rfl,Wt⟩:=RJ.r7.iB;have VX:pn<=1048576:=by rw[<-aa LF];exact jc
 have Xl:hh<=1048576:=by rw[<-aa SC];exact hB4
 have Xd:un<=1048576:=by rw[<-aa Wt];exact hB5
 have ai6:=af RJ;have HY:=af hy;have HU1:Hid (∀i∈nd.holders,0<=i/\i<18446744073709551616):=hU1;have HU2:Hid (∀i∈nd.watchers,0<=i/\i<18446744073709551616):=hU2;have hnr:=RJ.below aG;obtain⟨c0,c1,c2,c3,c4,c5,c6,c7,-,-,-,-,-⟩:=hnr;obtain⟨ow,mo,ep,ge,e1,e2,e3,e4⟩:∃a b c d,nd.owner=a/\nd.mode=b/\nd.aJ=c/\nd.gen=d:=⟨_,_,_,_,rfl,rfl,rfl,rfl⟩
 rw[e1]at c2;rw[e2]at c3;rw[e3]at c5;rw[e4]at c6;have HE:=af (ah e1 (ah e2 (ah e3 e4)));clear dA hy hA RJ zG jc hB3 hB4 hB5 hU1 hU2 e1 e2 e3 e4;go_wp2_with fail;obtain⟨X,hX⟩:=au (wr.alloc (.cells #[.S pp pn pc,.S vq vn vc,.U ow,.I mo,.S hp hh hc,.U ep,.U ge,.S up un uc] 93));obtain⟨C,eC⟩:=au wr.heap.size;have bX:=dO hX;have zX:X.heap.size=wr.heap.size+1:=by rw[hX];simp
 obtain⟨i1,i2,i3,i4⟩:=aa jr;have pQ:X.heap[b]?=some (.cells #[.U e,.U g,.U x,.I t,.map (some bs),.map (some bn)] 114):=(bX.block b (aL i3)).trans i3;have rX:Rd X (.S pp pn pc) nd.path:=ai6.r0.below (aj aG bX);have KX:Hid (X.cell? ⟨b,5,none⟩=some (.map (some bn))/\X.cell? ⟨C,0,none⟩=some (.S pp pn pc)/\X.cell? ⟨C,1,none⟩=some (.S vq vn vc)/\X.cell? ⟨C,2,none⟩=some (.U ow)/\X.cell? ⟨C,3,none⟩=some (.I mo)/\X.cell? ⟨C,4,none⟩=some (.S hp hh hc)/\X.cell? ⟨C,5,none⟩=some (.U ep)/\X.cell? ⟨C,6,none⟩=some (.U ge)/\X.cell? ⟨C,7,none⟩=some (.S up un uc)/\Rd X (.S pp pn pc) nd.path):=by refine⟨aq pQ 5,?_,?_,?_,?_,?_,?_,?_,?_,rX⟩<;>(rw[hX,eC];simp)
 have uH:qT X (.S hp hh hc) nd.holders:=ai6.r4.below (aj aG bX);have uU:qT X (.S up un uc) nd.watchers:=ai6.r7.below (aj aG bX);rw[<-hX,<-eC];have UH:=af uH;have UU:=af uU;have HX:=af (ah bX (ah zX pQ));have mJ:=jr;clear hX c0 c1 c2 c3 c4 c5 c6 c7 uH uU rX bX zX pQ i1 i2 i3 i4 jr;have HCE:=af eC;clear eC;have cL:keyOf prog 9 (.string (aN nd.path))=some (bQ nd.path):=by rw[WideMaps.keyOf_string_mk underlying9 (by rw[gS,aa LF];unfold maxLen;omega),nR]
 have Mb:=af cL;clear cL;refine dy (fun w'=>w'.cell? ⟨b,5,none⟩=some (.map (some bn))/\w'.cell? ⟨C,0,none⟩=some (.S pp pn pc)/\w'.cell? ⟨C,1,none⟩=some (.S vq vn vc)/\w'.cell? ⟨C,2,none⟩=some (.U ow)/\w'.cell? ⟨C,3,none⟩=some (.I mo)/\w'.cell? ⟨C,4,none⟩=some (.S hp hh hc)/\w'.cell? ⟨C,5,none⟩=some (.U ep)/\w'.cell? ⟨C,6,none⟩=some (.U ge)/\w'.cell? ⟨C,7,none⟩=some (.S up un uc)/\Rd w' (.S pp pn pc) nd.path) (by exact KX) fun hS=>?_;refine mu 0 1 2 3 hS ?_;refine jZ 4 5 hS ?_;refine wpAnyH_take (i:=6) (oi:=_) (v:=?_) (by simp only[wC,As,Ar];rfl) bg bg bg (fun _ _ _ h=>h) (Or.inl ⟨aH,?_⟩) hS ?_;rotate_left;{(intro w' vJ;(try dsimp only at vJ);(have hcv:=dK (aa LF) vJ.2.2.2.2.2.2.2.2.2);go_simp;try with_reducible rfl)}
 simp only[Act.put,xa,xb,xc];refine mn 7 8 9 10 11 12 13 14 hS ?_;refine mu 15 16 17 18 hS ?_;refine jZ 20 21 hS ?_;refine dE 19 fun KK hK=>?_;refine jJ (IL SC (UH.below ay.drew) Xl HU1) ?_;rintro r w2⟨D1,rfl,o1,s1,aF,KY⟩;refine⟨_,rfl,?_⟩;have xg:Bw X w2:=aj (cW X.heap.size X).drew aF;have KX2:Hid (w2.cell? ⟨b,5,none⟩=some (.map (some bn))/\w2.cell? ⟨C,0,none⟩=some (.S pp pn pc)/\w2.cell? ⟨C,1,none⟩=some (.S vq vn vc)/\w2.cell? ⟨C,2,none⟩=some (.U ow)/\w2.cell? ⟨C,3,none⟩=some (.I mo)/\w2.cell? ⟨C,4,none⟩=some (.S hp hh hc)/\w2.cell? ⟨C,5,none⟩=some (.U ep)/\w2.cell? ⟨C,6,none⟩=some (.U ge)/\w2.cell? ⟨C,7,none⟩=some (.S up un uc)/\Rd w2 (.S pp pn pc) nd.path):=by obtain⟨k0,k1,k2,k3,k4,k5,k6,k7,k8,k9⟩:=aa KX;exact⟨ag k0 xg,ag k1 xg,ag k2 xg,ag k3 xg,ag k4 xg,ag k5 xg,ag k6 xg,ag k7 xg,ag k8 xg,k9.below xg⟩
 refine gr hK (by exact KX2) fun hS=>?_;clear hK KK;have zd:X.drew.heap.size=X.heap.size:=rfl;rw[zd]at o1 KY⊢;obtain⟨h1,eh1⟩:=au X.heap.size;rw[<-eh1]at o1 KY⊢;have HO1:=af (ah o1 (ah s1 (ah KY eh1)));have vO:=af xg;clear o1 s1 aF KY xg zd eh1;refine dE 22 fun KK hK=>?_;refine jJ (IL Wt (UU.below vO) Xd HU2) ?_;rintro r w3⟨D2,rfl,o2,s2,bf,Dw⟩;refine⟨_,rfl,?_⟩;have KX3:Hid (w3.cell? ⟨b,5,none⟩=some (.map (some bn))/\w3.cell? ⟨C,0,none⟩=some (.S pp pn pc)/\w3.cell? ⟨C,1,none⟩=some (.S vq vn vc)/\w3.cell? ⟨C,2,none⟩=some (.U ow)/\w3.cell? ⟨C,3,none⟩=some (.I mo)/\w3.cell? ⟨C,4,none⟩=some (.S hp hh hc)/\w3.cell? ⟨C,5,none⟩=some (.U ep)/\w3.cell? ⟨C,6,none⟩=some (.U ge)/\w3.cell? ⟨C,7,none⟩=some (.S up un uc)/\Rd w3 (.S pp pn pc) nd.path):=by obtain⟨k0,k1,k2,k3,k4,k5,k6,k7,k8,k9⟩:=aa KX2;exact⟨ag k0 bf,ag k1 bf,ag k2 bf,ag k3 bf,ag k4 bf,ag k5 bf,ag k6 bf,ag k7 bf,ag k8 bf,k9.below bf⟩
 refine gr hK (by exact KX3) fun hS=>?_;clear hK KK;obtain⟨u1,eu1⟩:=au w2.heap.size;rw[<-eu1]at o2 Dw⊢;have HO2:=af (ah o2 (ah s2 (ah Dw eu1)));have tG:=af bf;clear o2 s2 bf Dw eu1;refine tn 23 hS ?_;refine dE 24 fun KK hK=>?_;refine XM aH aH aH (MY) ?_;obtain⟨Z,eZ⟩:=au (w3.alloc (.cells #[.S vq vn vc,.U ow,.I mo,.map (some h1),.U ep,.U ge,.map (some u1)] 121));have bZ:=dO eZ;have hZ:Z.heap[w3.heap.size]?=some (.cells #[.S vq vn vc,.U ow,.I mo,.map (some h1),.U ep,.U ge,.map (some u1)] 121):=by rw[eZ];exact(MapKept.heap_alloc w3 _).1
 rw[<-eZ];clear eZ;have KX4:Hid (Z.cell? ⟨b,5,none⟩=some (.map (some bn))/\Z.cell? ⟨C,0,none⟩=some (.S pp pn pc)/\Z.cell? ⟨C,1,none⟩=some (.S vq vn vc)/\Z.cell? ⟨C,2,none⟩=some (.U ow)/\Z.cell? ⟨C,3,none⟩=some (.I mo)/\Z.cell? ⟨C,4,none⟩=some (.S hp hh hc)/\Z.cell? ⟨C,5,none⟩=some (.U ep)/\Z.cell? ⟨C,6,none⟩=some (.U ge)/\Z.cell? ⟨C,7,none⟩=some (.S up un uc)/\Rd Z (.S pp pn pc) nd.path):=by obtain⟨k0,k1,k2,k3,k4,k5,k6,k7,k8,k9⟩:=aa KX3;exact⟨ag k0 bZ,ag k1 bZ,ag k2 bZ,ag k3 bZ,ag k4 bZ,ag k5 bZ,ag k6 bZ,ag k7 bZ,ag k8 bZ,k9.below bZ⟩
 refine gr hK (by exact KX4) fun hS=>?_;clear hK KK;obtain⟨g1,eg1⟩:=au w3.heap.size;rw[<-eg1]at hZ⊢;have BXZ:Bw X Z:=aj (aj vO tG) bZ;obtain⟨i1,i2,i3,i4⟩:=aa mJ;obtain⟨bX,zX,pQ⟩:=aa HX;obtain⟨o1,s1,KY,eh1⟩:=aa HO1;obtain⟨o2,s2,Dw,eu1⟩:=aa HO2;have bRZ:Bw wr Z:=aj bX BXZ;obtain⟨D0,oD,mD⟩:=i1.own;have hlen:(ns.take j).length=j:=by rw[pK,aa em];omega
 rw[hlen]at oD;have oZ:Z.ownsMap prog 9 aV bn j D0:=oD.kept (az bRZ none) ai;have q1:Z.ownsMap prog 28 unitElem h1 hh D1:=(o1.kept (az (aa tG) none) ai).kept (az bZ none) ai;have q2:Z.ownsMap prog 28 unitElem u1 un D2:=o2.kept (az bZ none) ai;have lt3:=tG.size;have lt2:=vO.size;have xC:=oD.lt;have HQ:=af (ah q1 (ah q2 (ah s1 s2)));have cx1:=af (ah KY (ah eh1 (ah Dw (ah eu1 (ah eg1 (ah zX (ah lt2 (ah lt3 xC))))))));have HOZ:=af oZ;have bD3:=af (ah hZ (ah bRZ (ah oD mD)));clear q1 q2 s1 s2 KY eh1 Dw eu1 eg1 zX lt2 lt3 xC oZ hZ bRZ oD mD i1 i2 i3 i4 bX pQ o1 o2 BXZ bZ;refine dE 25 fun KK hK=>?_;refine tW aH aH me underlying112 aV bn j (D:=D0) aH (by exact HOZ) ic (.pointer (some ⟨g1,0,none⟩)) aH aH Mb (d:=.lit (.I g1)) (ps:=[]) rfl ?_;intro w4 BO sS;obtain⟨hZ,bRZ,oD,mD⟩:=aa bD3;obtain⟨i1,i2,i3,i4⟩:=aa mJ;obtain⟨q1,q2,s1,s2⟩:=aa HQ;obtain⟨KY,eh1,Dw,eu1,eg1,zX,lt2,lt3,xC⟩:=aa cx1;have ca8:=sS.size;have zZ:=aL hZ;have zRZ:=bRZ.size;have ci1:=aG.size;obtain⟨eb,ebn,ebs,zW⟩:=aa HEQ;have hCe:=aa HCE;have av0:Z.heap[b]?=some (.cells #[.U e,.U g,.U x,.I t,.map (some bs),.map (some bn)] 114):=(bRZ.block b (aL i3)).trans i3;have nb:b≠bn:=ae;have nC:C≠bn:=ae;have KX5:Hid (w4.cell? ⟨b,5,none⟩=some (.map (some bn))/\w4.cell? ⟨C,0,none⟩=some (.S pp pn pc)/\w4.cell? ⟨C,1,none⟩=some (.S vq vn vc)/\w4.cell? ⟨C,2,none⟩=some (.U ow)/\w4.cell? ⟨C,3,none⟩=some (.I mo)/\w4.cell? ⟨C,4,none⟩=some (.S hp hh hc)/\w4.cell? ⟨C,5,none⟩=some (.U ep)/\w4.cell? ⟨C,6,none⟩=some (.U ge)/\w4.cell? ⟨C,7,none⟩=some (.S up un uc)/\Rd w4 (.S pp pn pc) nd.path):=by
  obtain⟨k0,k1,k2,k3,k4,k5,k6,k7,k8,k9⟩:=aa KX4;have hC:=sS.block C ae (by simpa using nC);exact⟨(cM (sS.block b (aL av0) (by simpa using nb))).trans k0,(cM hC).trans k1,(cM hC).trans k2,(cM hC).trans k3,(cM hC).trans k4,(cM hC).trans k5,(cM hC).trans k6,(cM hC).trans k7,(cM hC).trans k8,
   ai6.r0.below (bD (aj aG bRZ) sS ae (fun j hj=>by cases hj;omega))⟩
 refine gr hK (by exact KX5) fun hS=>?_;clear hK KK;refine di ?_;obtain⟨e1,e2,e3,e4⟩:=aa HE;have cR:tB w w4 bn (ns.take (j+1)) (NB++[g1]) (HB++[h1]) (UB++[u1]):=by rw[ru (aa HY)];refine i1.step nd g1 h1 u1 (az bRZ none) ae ae ae ae aG.size (.S vq vn vc) ai6.r1 (by rw[e1,e2,e3,e4];exact hZ) (by rw[aa SC];exact q1) s1 (by rw[aa Wt];exact q2) s2 (fun z hz=>?_) mD oD.isMap (by rw[hlen];exact BO) sS;obtain⟨i,hi,Mi⟩:=yh hz;intro ee;exact br i j z nd Mi (aa HY) hi (l8 (aa fS z (aS Mi)).1 (aa fS nd (aS (aa HY))).1 ee)
 have hse:vo w w4 bs ss SB:=(i2.kept (az bRZ none) ai ai).kept sS bj (fun y hy=>by obtain⟨i,hi⟩:=wo hy;obtain⟨s,hs⟩:∃s,ss[i]?=some s:=⟨_,aO (by rw[<-i2.len];exact(aT.1 hi).1)⟩;obtain⟨_,u,a2,_⟩:=i2.blk i s y hs hi;have:=gJ oD a2;simpa using this)
 have fk:w4.heap[b]?=some (.cells #[.U e,.U g,.U x,.I t,.map (some bs),.map (some bn)] 114):=(sS.block b (aL av0) (by simpa using nb)).trans av0;have hB4:Bw w w4:=bD (aj aG bRZ) sS ae (fun j hj=>by cases hj;omega);have Ox:W.heap.size<=w4.heap.size:=ae;have hd4:∀y∈(HB++[h1])++(UB++[u1]),y≠bs:=by intro y hy;simp only[gR,yx]at hy;rcases hy with(hy|rfl)|(hy|rfl);{exact i4 y (gR.2 (.inl hy))};{omega};{exact i4 y (gR.2 (.inr hy))};{omega}
 have cy0:=af (ah cR (ah hse (ah fk hd4)));clear cR hse fk hd4 hS BO sS i1 i2 i3 i4 q1 q2 s1 s2 KY eh1 Dw eu1 eg1 zX lt2 lt3 xC eb ebn ebs zW hCe hZ bRZ oD mD av0 e1 e2 e3 e4 ca8 ci1 nb nC zZ zRZ KX KX2 KX3 KX4 KX5;go_wp2;go_roundw;exact⟨j+1,_,_,_,ae,by go_num,cy0,hB4,Ox⟩;exact bG};{
 have bu:=du j m;have ekm:j=m:=ae;subst ekm;obtain⟨i1,i2,i3,i4⟩:=aa jr;rw[kq (by rw[aa em];exact jS _)]at i1;obtain⟨eb,ebn,ebs,zW⟩:=aa HEQ;have sE:cT w wr b bs bn e g x t ss ns SB NB HB UB:=⟨i3,i2,i1,ae,by rw[vg];refine⟨fun iY=>?_,i1.yQ⟩;rcases jA.1 iY with hh|hh;{omega};{exact i4 _ hh rfl}⟩
 have cz0:=af sE;clear i1 i2 i3 i4 eb ebn ebs zW sE;go_wp2;go_ret;exact⟨b,rfl,⟨bs,bn,SB,NB,HB,UB,cz0⟩,aG⟩}}}}
theorem VN{v0:Value}{l0:LI}(en:Hid (l0.length=N))(r0:Rd X v0 l0)(hl:N<=4194304):Cp 62 #[.T X.heap.size 1 1] (X.alloc (.cells #[v0] 22)) fun e w'=>∃p' c',e=.returned (.S p' N c')/\Own X.heap.size w' (.S p' N c') l0/\Bw X w':=by
 have ba:Bw X (X.alloc (.cells #[v0] 22)):=ay.alloc ao _;refine(fM (vs:=[v0]) [l0] 1 rfl (by show _=_;simp[cat]) en ⟨rfl,fun j v x e1 e2=>?_⟩ hl ae).mono ?_;{
 match j,e1,e2 with
 |0,e1,e2=>simp at e1 e2;subst e1 e2;exact⟨ai,r0.below ba⟩}
 {rintro e w'⟨p',c',rfl,o,hb⟩;exact⟨p',c',rfl,Own.mono o ai,aj ba hb⟩}
def SL{I D:Int}{c n:Nat}{Q:List Ev}(en:Hid (Q.length=n)){w:World}(h:pX w (.S p n c) Q)(hn:n<=1048576)(hbq:Hid (∀e∈Q,e.2.length<=1048576)):Cp 66 #[.agg #[.U I,.I D,.S p n c]] w fun r w'=>∃p' c' A,r=.returned (.agg #[.U I,.I D,.S p' n c'])/\pX w' (.S p' n c') Q/\Da w' (.S p' n c') Q A/\mL w.heap.size w' A/\Bw w w':=by
 obtain⟨ie,hie,nO,iL,ju⟩:=info_parts Tryz.infoEv;have HR:=af fun(w':World)(hb:Bw w w')=>h.below hb;clear h;obtain⟨W,hW⟩:=au (w.alloc (.cells #[.U I,.I D,.S p n c] 86));have bW:=dO hW;have zW:W.heap.size=w.heap.size+1:=by rw[hW];simp
 have k0:W.cell? ⟨w.heap.size,0,none⟩=some (.U I):=by rw[hW];simp
 have k1:W.cell? ⟨w.heap.size,1,none⟩=some (.I D):=by rw[hW];simp
 have k2:W.cell? ⟨w.heap.size,2,none⟩=some (.S p n c):=by rw[hW];simp
 go_enter func66,ntmps66;go_wp2_with fail;obtain⟨W2,pR⟩:=au (W.alloc (.cells #[.U 0,.I 0,.S none 0 0] 86));have Xt:=dO pR;have zW2:W2.heap.size=w.heap.size+2:=by rw[pR];simp;omega
 have pT:al W2 (w.heap.size+1) [.U 0,.I 0,.S none 0 0]:=by rw[pR,show w.heap.size+1=W.heap.size by omega];exact al.alloc W #[.U 0,.I 0,.S none 0 0] _
 rw[<-hW,<-pR];have b2:=aj bW Xt;have HK:=af (ah (ag k0 Xt) (ah (ag k1 Xt) (ag k2 Xt)));have zI:=af pT;clear hW pR Xt k0 k1 k2 bW zW pT
 go_loopw[3,9](fun ov iv wr=>∃(k:Nat)(Ls:List (List Lf)),k<=n/\iv=.I k/\Hid (OwnT LD 165 2 W2.heap.size wr ov (Q.take k) Ls)/\Bw W2 wr) (fun _ iv _=>n-(intOf iv).toNat)
 exact⟨0,[],gq _,rfl,OwnT.nil _ _ _ _ _,cW _ _⟩;{
 obtain⟨k,Ls,hk,rfl,ho,aG⟩:=hrel;have BB:=aj b2 aG;by_cases aX:k<n;{
 have bu:=aP k n;have dA:k<Q.length:=by rw[aa en];exact aX
 obtain⟨⟨K,P⟩,hy⟩:∃y,Q[k]?=some y:=⟨_,aO dA⟩;obtain⟨b,o,rfl,hcK,u,hcP,Ux,sG⟩:∃b o,p=some ⟨b,o,none⟩/\wr.cell? ⟨b,o+k*2,none⟩=some (.I K)/\∃u,wr.cell? ⟨b,o+k*2+1,none⟩=some u/\Rd wr u P/\px u:=by obtain⟨p',c',ev,hd⟩:=aa HR _ BB;simp only[dU]at ev;obtain⟨rfl,-,-⟩:=ev;rcases hd with h0|⟨b,o,h1,h2⟩;{rw[h0]at dA;simp at dA};{exact⟨b,o,h1,h2 k _ hy⟩}
 obtain⟨pp,pc,m,rfl,em⟩:=Ux.iB;have hm:m<=1048576:=by rw[<-aa em];exact aa hbq _ (aS hy)
 have HRP:=af Ux;have HY:=af hy;clear Ux sG hy dA;go_wp2_with fail;obtain⟨X,hX⟩:=au (wr.alloc (.cells #[.I K,.S pp m pc] 165));have GN:=dO hX;have e0:X.cell? ⟨wr.heap.size,0,none⟩=some (.I K):=by rw[hX];simp
 have e1:X.cell? ⟨wr.heap.size,1,none⟩=some (.S pp m pc):=by rw[hX];simp
 obtain⟨V,hV⟩:=au X.drew;have Sh:Bw wr V:=by rw[hV];exact GN.drew
 rw[<-hX];refine dy (fun w'=>w'.cell? ⟨wr.heap.size,0,none⟩=some (.I K)/\w'.cell? ⟨wr.heap.size,1,none⟩=some (.S pp m pc)) (by exact⟨e0,e1⟩) fun hS=>?_;rw[<-hV]at hS⊢;have KV:=af hS;have zV:wr.heap.size<V.heap.size:=pI V _ hS.1;have z2r:=aG.size;clear hX GN e0 e1 hV hcK hcP;have OV:=af (ho.below LD.keep Sh);have HU3:=af fun b hb=>(ho.lt.1 b hb).2;have rV:=af (HRP.below Sh);clear ho;refine mu 0 1 2 3 hS ?_;refine tn 4 hS ?_;refine dE 5 fun KK hK=>?_;go_simp;have S5:=(cW V.heap.size V).alloc ao (.cells #[.S pp m pc] 22);refine gr hK (by exact⟨ag KV.1 S5,ag KV.2 S5⟩) fun hS=>?_;clear hK KK;refine dE 6 fun KK hK=>?_;refine jJ (VN em rV ae) ?_;rintro r v1⟨p6,c6,rfl,o6,jX⟩;refine⟨_,rfl,?_⟩;have K6:=af (ah (ag KV.1 jX) (ag KV.2 jX));refine gr hK (by exact K6) fun hS=>?_;clear hK KK S5;have O6:=af o6;have B6:=af jX;clear o6 jX;refine tn 7 hS ?_;refine dE 8 fun KK hK=>?_;go_simp;have A8:=(cW v1.heap.size v1).alloc ao (.cells #[.I K,.S p6 m c6] 165);refine hK.out _ _ (by exact⟨ag K6.1 A8,ag K6.2 A8⟩) (fun hS=>?_);clear hK KK;obtain⟨Z,hZ⟩:=au (v1.alloc (.cells #[.I K,.S p6 m c6] 165));have hcZ:∀j u,[Value.I K,.S p6 m c6][j]?=some u->Z.cell? ⟨v1.heap.size,j,none⟩=some u:=fun j u hu=>by have:=(al.alloc v1 #[.I K,.S p6 m c6] 165).1 j u (by simpa using hu);rw[hZ];exact this
 rw[<-hZ]at A8 hS⊢;have bVZ:Bw V Z:=aj B6 A8;have OZ:=OV.below LD.keep bVZ;obtain⟨lb,q1,q2,q3,q4⟩:=vV (kd:=.u8) (Own.below O6 A8);have elz:LD Z (K,P) [.I K,.S p6 m c6] lb:=⟨p6,c6,by rw[aa em],by rw[aa em];exact(Own.below (aa O6) A8).rd,by rw[aa em];exact⟨_,_,_,rfl,(Own.below (aa O6) A8).cap,(Own.below (aa O6) A8).oW⟩,by rw[aa em];exact q1⟩;obtain⟨cs,g1,g2,g3,g4,g5,g6,g7⟩:=id OZ;have zt:=OV.lt;have hle:(Q.take k).length<=1048576:=by rw[pK];omega
 have z9:W2.heap.size<=Z.heap.size:=by have:=bVZ.size;omega
 clear hZ
 (try simp only[Act.put,xa,xb,xc])
 refine dE 9 fun KK hK=>?_;refine j9 aH aH ie 2 underlying60 hie nO iL ju rfl aU aH g4 1 1 [.I K,.S p6 m c6] aH rfl hcZ (fun u hu=>by simp at hu;rcases hu with rfl|rfl<;>rfl) ic ae z9 ?_;intro v' w9 dh hg lG;have sn:=OwnT.snoc g1 g2 g3 g5 g6 g7 LD.keep elz rfl q2 ae (fun a ha=>(zt.2 a ha).2) (fun b hb=>(zt.1 b hb).2) dh hg lG;rw[<-ru (aa HY)]at sn;have vI:Bw W2 w9:=(aj (aj aG Sh) bVZ).grown hg z9 (fun b hb=>(zt.1 b hb).1);have K9:w9.cell? ⟨wr.heap.size,0,none⟩=some (.I K)/\w9.cell? ⟨wr.heap.size,1,none⟩=some (.S pp m pc):=by
  have cg:some wr.heap.size≠u3.ownBlock:=fun e=>by have:=aa HU3 _ e.symm;omega
  exact⟨hg.cell hS.1 cg,hg.cell hS.2 cg⟩
 refine gr hK (by exact K9) fun hS=>?_;clear hK KK;refine tn 10 hS ?_;refine di ?_;have SN:=af sn;clear hS sn dh hg lG g1 g2 g3 g4 g5 g6 g7 elz q1 q2 q3 q4 hcZ OZ zt;go_wp2;go_roundw;exact⟨k+1,_,ae,by go_num,SN,vI⟩;exact bG};{
 have bu:=du k n;have vL:k=n:=ae;subst vL;have o2:=aa ho;rw[kq (by rw[aa en];exact jS _)]at o2;obtain⟨WZ,A,VB,GW⟩:=o2.ev;obtain⟨pv,cv,rfl,-⟩:=id WZ;rw[aa en]at WZ VB⊢;obtain⟨q0,q1,q2⟩:=aa HK;have c0:=ag q0 aG;have c1:=ag q1 aG;have pT:=zI.below ae aG;have r0:=pT.1 0 _ rfl;have r1:=pT.1 1 _ rfl;have r2:=pT.1 2 _ rfl;have rf:=pT.2;have cg:¬w.heap.size+1=w.heap.size:=ae;have RD:=af (ah WZ (ah VB GW));have Ry:=aG.size;clear WZ VB GW o2 q0 q1 q2 pT;go_wp2;obtain⟨WZ,VB,GW⟩:=aa RD;obtain⟨Z,hZ⟩:=au (((wr.setCell ⟨w.heap.size+1,0,none⟩ (.U I)).setCell ⟨w.heap.size+1,1,none⟩ (.I D)).setCell ⟨w.heap.size+1,2,none⟩ (.S pv k cv));have hk:∀a∈A,Z.heap[a.b]?=wr.heap[a.b]?:=fun a ha=>by have:=GW.lo a ha;rw[hZ];rw[fy _ _ _ _ bj,fy _ _ _ _ bj,fy _ _ _ _ bj]
 have hbZ:Bw w Z:=by rw[hZ];exact((BB.setCell ai _).setCell ai _).setCell ai _
 refine fL (v:=.agg #[.U I,.I D,.S pv k cv]) (by simp[results,results66,go_sem,r0,r1,r2]) rfl ⟨pv,cv,rfl,?_⟩;rw[<-hZ];exact⟨WZ.dH VB hk,A,Da.keep VB hk,(GW.keep hk).mono ae,hbZ⟩}}
theorem Kc{B:Nat}{w:World}{ss:LI}(h:Q.RdK B w v ss):∃p c A,v=.S p ss.length c/\qT w (.S p ss.length c) ss/\WS (.S p ss.length c) ss A/\mL B w A:=by
 rcases h with⟨rfl,rfl⟩|⟨g,cap,rfl,hb,hl,hH⟩;{exact⟨none,0,[],rfl,⟨none,0,rfl,.inl rfl⟩,⟨none,0,[],rfl,rfl,rfl,.inl rfl⟩,mL.nil _ _⟩};{
 have hc:∀i,i<ss.length->w.cell? ⟨g,0+i,none⟩=some (.U (ss.getD i 0))/\w.frozen? ⟨g,0+i,none⟩=false:=fun i hi=>by
  have:=hH i (by simpa using hi);simp only[List.getElem!_toArray]at this;rw[gj,aO hi];have e:ss[i]! = ss[i]:=by simp[hi]
  first|(rw[e]at this;exact this)|simpa[hi]using this
 refine⟨some ⟨g,0,none⟩,cap,(List.range ss.length).map fun i=>⟨g,0+i,.u64⟩,rfl,⟨_,_,rfl,.inr ⟨g,0,rfl,fun i hi=>(hc i hi).1⟩⟩,⟨some ⟨g,0,none⟩,cap,(List.range ss.length).map fun i=>[⟨g,0+i,.u64⟩],rfl,ai,?_,.inr ⟨g,0,rfl,fun i x l' hx hl=>?_⟩⟩,⟨?_,fun a ha=>?_,fun a ha=>?_⟩⟩;{
 induction(List.range ss.length)with
 |nil=>rfl
 |cons i r ih=>rw[iH,iH,ti,<-ih];rfl}
 {
 obtain⟨hi,e⟩:=aT.1 hl;simp at e;rw[<-e,By,lu]
 rfl}
 {rw[uj,List.Nodup,Ap];exact Y7.imp (fun{i j}kF=>by simpa using kF)};{obtain⟨i,hi,rfl⟩:=iJ.1 ha;exact hb};{obtain⟨i,hi,rfl⟩:=iJ.1 ha;obtain⟨h1,h2⟩:=hc i (by simpa using hi);exact⟨⟨_,h1⟩,h2⟩}}
theorem sK:∀{l m:LI},l.Pairwise (·<·)->m.Pairwise (·<·)->(∀x,x∈l↔x∈m)->l=m
 |[],[],_,_,_=>rfl
 |[],b::m,_,_,h=>absurd ((h b).2 ai) ai
 |a::l,[],_,_,h=>absurd ((h a).1 ai) ai
 |a::l,b::m,h1,h2,h=>by
  rw[yB]at h1 h2;have Ql:a=b:=by rcases jA.1 ((h a).1 ai)with e|e;{exact e};{rcases jA.1 ((h b).2 ai)with e'|e';{exact e'.symm};{have:=h2.1 a e;have:=h1.1 b e';omega}}
  subst Ql;rw[sK h1.2 h2.2 (fun x=>?_)];constructor;{intro hx;rcases jA.1 ((h x).1 (by simp[hx]))with e|e;{have:=h1.1 x hx;omega};{exact e}};{intro hx;rcases jA.1 ((h x).2 (by simp[hx]))with e|e;{have:=h2.1 x hx;omega};{exact e}}
def D6{s ss:LI}(h:dD D s)(hs:s.Pairwise (·<·))(ha:Q.Asc D ss):ss=s:=by
 refine sK ha.lt hs fun x=>?_;rw[ha.mem x,h];constructor;{rintro⟨i,hi,e⟩;simp only[Lit.int.injEq,Rl]at e;rw[e];exact hi};{intro hx;exact⟨x,hx,rfl⟩}
structure KN(w:World)(g h u:Nat)(V:Value)(nd:aB):Prop where
 blk:w.heap[g]?=some (.cells #[V,.U nd.owner,.I nd.mode,.map (some h),.U nd.aJ,.U nd.gen,.map (some u)] 121)
 val:Rd w V nd.value
 UD:∃D,w.ownsMap Tryz.prog 28 unitElem h nd.holders.length D/\dD D nd.holders
 Vc:∃D,w.ownsMap Tryz.prog 28 unitElem u nd.watchers.length D/\dD D nd.watchers
structure PB(w:World)(M N:Nat)(v:Value)(xs:LI)(A:List Lf):Prop where
 rd:Rd w v xs
 cap:px v
 lv:Qw v xs A
 ap:mL M w A
 hi:∀a∈A,a.b<N
structure PU(w:World)(M N:Nat)(v:Value)(xs:LI)(A:List Lf):Prop where
 rd:qT w v xs
 lv:WS v xs A
 ap:mL M w A
 hi:∀a∈A,a.b<N
def PB.below{w w':World}(h:PB w M N v xs A)(hb:Bw w w'):PB w' M N v xs A:=
 ⟨h.rd.below hb,h.cap,h.lv,h.ap.keep (fun a ha=>hb.block _ (h.ap.vj.lt ha)),h.hi⟩
def PU.below{w w':World}(h:PU w M N v xs A)(hb:Bw w w'):PU w' M N v xs A:=
 ⟨h.rd.below hb,h.lv,h.ap.keep (fun a ha=>hb.block _ (h.ap.vj.lt ha)),h.hi⟩
def Own.pb{B:Nat}{w:World}{n c:Nat}(h:Own B w (.S p n c) l):∃A,PB w B w.heap.size (.S p n c) l A:=by
 obtain⟨A,q1,q2,q3,q4⟩:=vV (kd:=.u8) h;exact⟨A,h.rd,⟨_,_,_,rfl,h.cap,h.oW⟩,q1,q2,fun a ha=>q2.vj.lt ha⟩
def mL.aY7{B:Nat}{w:World}{A2:List Lf}(h:mL B w A)(h2:mL B w A2)(hd:∀a∈A,∀a2∈A2,a.b≠a2.b):mL B w (A++A2):=by
 refine⟨?_,fun a ha=>?_,cQ.app.2 ⟨h.vj,h2.vj⟩⟩;{rw[ko,yk];refine⟨h.nd,h2.nd,fun x hx y hy=>?_⟩;obtain⟨a,ha,rfl⟩:=iJ.1 hx;obtain⟨a2,yN,rfl⟩:=iJ.1 hy;intro e;simp only[fO]at e;exact hd a ha a2 yN e.1};{rcases gR.1 ha with ha|ha;{exact h.lo a ha};{exact h2.lo a ha}}
def WK(hB:aM l)(hj:j<l.length):(((aN l).data.toList.getD j 0).toNat:Int)=l.getD j 0:=by
 have hj':j<(aN l).size:=by rw[gS];exact hj
 have h:=PJ hB hj';rw[<-h];have hl:j<(aN l).data.toList.length:=by rw[jK];simpa using hj
 rw[gj,aO hl]
 rfl
theorem ay3(w:World)(hB:aM l)(hl:l.length<=1048576):∃p' c' W A,(convert 9 22 (.string (aN l))).run prog w=.ok (.S p' l.length c') W/\PB W w.heap.size W.heap.size (.S p' l.length c') l A/\Bw w W:=by
 have dI:=Lib.run_convert_string_bytes (P:=prog) w 9 22 5 (aN l) underlying9 underlying22 underlying5;rw[gS]at dI;obtain⟨W,hW⟩:=au (Lib.bytesWorld w 5 (aN l));have iO:W.heap.size=w.heap.size+1:=by rw[hW];exact Lib.bytesWorld_size _ _ _
 have cO:∀j,j<l.length->W.cell? ⟨w.heap.size,0+j,none⟩=some (.int .u8 (l.getD j 0)):=fun j hj=>by rw[hW,lu,Lib.bytesWorld_cell _ _ _ _ (by rw[gS];exact hj),WK hB hj]
 have hfz:∀j,j<l.length->W.frozen? ⟨w.heap.size,0+j,none⟩=false:=fun j hj=>by
  have hn:=Lib.bytesWorld_at_new w 5 (aN l);have hs:j<(Lib.bytesCells w 5 (aN l)).size:=by simp only[Lib.bytesCells,Array.size_append,Array.size_map];have:(aN l).data.size=l.length:=gS (l:=l);omega
  rw[hW,lu];simp only[World.frozen?,hn];simp;omega
 have hb:Bw w W:=by refine⟨by rw[hW];rfl,by rw[hW];rfl,by rw[hW];rfl,ae,fun k hk=>by rw[hW];exact Lib.bytesWorld_at_old _ _ _ _ hk⟩
 have sG:px (.T w.heap.size l.length (grownCap w l.length 0 5)):=⟨_,_,_,rfl,grownCap_ge _ _ _ _,grownCap_le_maxLen _ _ _ _ ic⟩;rw[<-hW]at dI;refine⟨_,_,_,(List.range l.length).map fun i=>⟨w.heap.size,0+i,.u8⟩,dI,⟨⟨_,_,rfl,.inr ⟨w.heap.size,0,rfl,cO⟩⟩,sG,⟨some ⟨w.heap.size,0,none⟩,_,(List.range l.length).map fun i=>[⟨w.heap.size,0+i,.u8⟩],rfl,ai,?_,.inr ⟨w.heap.size,0,rfl,fun i x l' hx hl=>?_⟩⟩,⟨?_,fun a ha=>?_,fun a ha=>?_⟩,fun a ha=>?_⟩,hb⟩;{
 induction(List.range l.length)with
 |nil=>rfl
 |cons i r ih=>rw[iH,iH,ti,<-ih];rfl}
 {
 obtain⟨hi,e⟩:=aT.1 hl;simp at e;rw[<-e,By,lu]
 rfl}
 {rw[uj,List.Nodup,Ap];exact Y7.imp (fun{i j}kF=>by simpa using kF)};{obtain⟨i,hi,rfl⟩:=iJ.1 ha;exact jS _};{obtain⟨i,hi,rfl⟩:=iJ.1 ha;exact⟨⟨_,cO i (by simpa using hi)⟩,hfz i (by simpa using hi)⟩};{obtain⟨i,hi,rfl⟩:=iJ.1 ha;simp only;omega}
def QM{w:World}{Q:Exit->Act->World->Prop}(mr:o.guard=none){x:Operand}(Hy:o.op=Op.convert 9 22 x)(hx:a.eval x=.string (aN l))(hB:aM l)(hl:l.length<=1048576)(hK:∀p' c' w' A,PB w' w.heap.size w'.heap.size (.S p' l.length c') l A->Bw w w'->K (a.put o.dst (.S p' l.length c')) w'):if Region.wanted o (yielded ops a.tmps)=true then Oper.wp prog o a w K Q else E:=by
 have hw:Region.wanted o (yielded ops a.tmps)=true:=by simp[Region.wanted,mr]
 rw[bN hw];obtain⟨p',c',W,A,dI,hP,hb⟩:=ay3 w hB hl;unfold Oper.wp;simp only[execOp,Hy,hx,Sem.run_bind,Sem.run_pure,Result.andThen_ok,dI,Result.andThen];exact hK _ _ _ _ hP hb
def jj.mk4{w:World}{B:Nat}{p0 p1 p4 p7:OA}{c0 c1 c4 c7 M0 N0 M1 N1 M4 N4 M7 N7:Nat}{l0 l1 l4 l7:List Lf}(h0:PB w M0 N0 (.S p0 nd.path.length c0) nd.path l0)(h1:PB w M1 N1 (.S p1 nd.value.length c1) nd.value l1)(h4:PU w M4 N4 (.S p4 nd.holders.length c4) nd.holders l4)(h7:PU w M7 N7 (.S p7 nd.watchers.length c7) nd.watchers l7)(b0:B<=M0)(b1:B<=M1)(b4:B<=M4)(b7:B<=M7)(d01:N0<=M1\/N1<=M0)(d04:N0<=M4\/N4<=M0)(d07:N0<=M7\/N7<=M0)(d14:N1<=M4)(d17:N1<=M7)(d47:N4<=M7):jj w nd [.S p0 nd.path.length c0,.S p1 nd.value.length c1,.U nd.owner,.I nd.mode,.S p4 nd.holders.length c4,.U nd.aJ,.U nd.gen,.S p7 nd.watchers.length c7] (l0++(l1++(l4++l7)))/\mL B w (l0++(l1++(l4++l7))):=by
 refine⟨⟨p0,c0,p1,c1,p4,c4,p7,c7,l0,l1,l4,l7,rfl,rfl,⟨h0.rd,h0.cap,h0.lv⟩,⟨h1.rd,h1.lv⟩,⟨h4.rd,h4.lv⟩,⟨h7.rd,h7.lv⟩⟩,?_⟩;refine(h0.ap.mono b0).aY7 ((h1.ap.mono b1).aY7 ((h4.ap.mono b4).aY7 (h7.ap.mono b7) fun a ha a2 yN e=>?_) fun a ha a2 yN e=>?_) fun a ha a2 yN e=>?_;{have:=h4.hi a ha;have:=h7.ap.lo a2 yN;omega};{rcases gR.1 yN with yN|yN;{have:=h1.hi a ha;have:=h4.ap.lo a2 yN;omega};{have:=h1.hi a ha;have:=h7.ap.lo a2 yN;omega}};{rcases gR.1 yN with yN|yN;{have:=h0.hi a ha;have:=h0.ap.lo a ha;have:=h1.hi a2 yN;have:=h1.ap.lo a2 yN;omega};{rcases gR.1 yN with yN|yN;{have:=h0.hi a ha;have:=h0.ap.lo a ha;have:=h4.hi a2 yN;have:=h4.ap.lo a2 yN;omega};{have:=h0.hi a ha;have:=h0.ap.lo a ha;have:=h7.hi a2 yN;have:=h7.ap.lo a2 yN;omega}}}
theorem YF{g:Nat}{w:World}(hk:KN w g h u V nd)(hh:nd.holders.Pairwise (·<·))(hu:nd.watchers.Pairwise (·<·))(l1:nd.path.length<=1048576)(l2:nd.value.length<=1048576)(l3:nd.holders.length<=1048576)(l4:nd.watchers.length<=1048576)(fS:aM nd.path):Cp 68 #[.pointer (some ⟨g,0,none⟩),.string (aN nd.path)] w fun r w'=>∃c l,r=.returned (.agg c)/\jj w' nd c.toList l/\mL w.heap.size w' l/\Bw w w':=by
 obtain⟨ji,Hu,⟨D1,o1,s1⟩,⟨D2,o2,s2⟩⟩:=hk;obtain⟨pv,cv,nv,rfl,ev⟩:=Hu.iB;have hA7:rW w g (.S pv nv cv) (.U nd.owner) (.I nd.mode) (.map (some h)) (.U nd.aJ) (.U nd.gen) (.map (some u)):=⟨aq ji 0,aq ji 1,aq ji 2,aq ji 3,aq ji 4,aq ji 5,aq ji 6⟩;obtain⟨W0,dV⟩:=au (w.alloc (.cells #[.S none 0 0,.S none 0 0,.U 0,.I 0,.S none 0 0,.U 0,.U 0,.S none 0 0] 93));have b0:=dO dV;have z0:W0.heap.size=w.heap.size+1:=by rw[dV];simp
 have r0:al W0 w.heap.size [.S none 0 0,.S none 0 0,.U 0,.I 0,.S none 0 0,.U 0,.U 0,.S none 0 0]:=by rw[dV];exact al.alloc w #[.S none 0 0,.S none 0 0,.U 0,.I 0,.S none 0 0,.U 0,.U 0,.S none 0 0] _
 have SZ1:=af (fW o1.size_le l3);have SZ2:=af (fW o2.size_le l4);obtain⟨ow,mo,ep,ge,e1,e2,e3,e4⟩:∃a b c d,nd.owner=a/\nd.mode=b/\nd.aJ=c/\nd.gen=d:=⟨_,_,_,_,rfl,rfl,rfl,rfl⟩
 rw[e1,e2,e3,e4]at hA7;have HE:=af (ah e1 (ah e2 (ah e3 e4)));clear e1 e2 e3 e4;go_enter func68,ntmps68;go_wp2_with fail;rw[<-dV];obtain⟨v,oK⟩:=au W0.drew;have bv:Bw w v:=by rw[oK];exact b0.drew
 have zv:w.heap.size<v.heap.size:=by rw[oK];show w.heap.size<W0.heap.size;omega
 have R:Hid (al v w.heap.size [.S none 0 0,.S none 0 0,.U 0,.I 0,.S none 0 0,.U 0,.U 0,.S none 0 0]):=by rw[oK];exact r0
 have S:=af (hA7.below bv);refine dy (fun w'=>rW w' g (.S pv nv cv) (.U ow) (.I mo) (.map (some h)) (.U ep) (.U ge) (.map (some u))) (by rw[<-oK];exact aa S) fun hS=>?_;rw[<-oK]at hS⊢;have BW:=af bv;have OH:=af (o1.kept (az bv none) ai);have OU:=af (o2.kept (az bv none) ai);have RV:=af (Hu.below bv);have T1:=af s1;have T2:=af s2;have HH:=af hh;have HU:=af hu;have HBY:=af fS;clear oK dV b0 z0 r0 ji Hu o1 o2 hA7 s1 s2 hh hu fS bv;refine mn 0 2 3 4 5 8 9 10 hS ?_;refine mn 11 12 13 14 15 16 17 18 hS ?_;refine mn 19 20 21 22 23 24 25 26 hS ?_;refine mu 27 29 30 31 hS ?_;refine tn 32 hS ?_
 iterate 5 (
  all_goals(first|refine Mg 1 (fun KK hK=>?_)|refine TJ 1 6 (fun KK hK=>?_) (fun KK hK=>?_)|refine Mg 6 (fun KK hK=>?_)|refine TJ 1 7 (fun KK hK=>?_) (fun KK hK=>?_)|refine Mg 7 (fun KK hK=>?_)|refine TJ 1 28 (fun KK hK=>?_) (fun KK hK=>?_)|refine Mg 28 (fun KK hK=>?_)|refine TJ 1 33 (fun KK hK=>?_) (fun KK hK=>?_)|refine Mg 33 (fun KK hK=>?_))
  all_goals(first
   |(
    refine Tag.go 1 ?_;refine QM aH aH (l:=nd.path) aH HBY l1 ?_;intro pC cC v' lC fC hb;have FC:=af fC;clear fC)
   | (
    refine Tag.go 6 ?_;go_simp;obtain⟨v',hv⟩:=au (v.alloc (.cells #[.S pv nv cv] 22));have hb:=dO hv;have HP:Hid (mU v' v.heap.size [.S pv nv cv] [nd.value]):=⟨rfl,fun j y x q1 q2=>by
     match j,q1,q2 with
     |0,q1,q2=>simp at q1 q2;subst q1 q2;exact⟨by rw[hv];simp,RV.below hb⟩⟩
    rw[<-hv];obtain⟨GB,hGB⟩:=au v.heap.size;rw[<-hGB]at HP⊢;clear hv hGB)
   |(
    refine Tag.go 7 ?_;refine jJ (fM (g:=GB) (vs:=[.S pv nv cv]) [nd.value] (lm:=nd.value) (n:=nd.value.length) 1 rfl (by show _=_;simp[cat]) bq (aa HP) ae ae) ?_;rintro r v'⟨pJ,cJ,rfl,oJ,hb⟩;refine⟨_,rfl,?_⟩;obtain⟨lJ,fJ⟩:=Own.pb oJ;have FJ:=af fJ;clear fJ oJ HP)
   |(
    refine Tag.go 28 ?_;refine jJ (Q.r8 h _ D1 _ OH SZ1) ?_;rintro r v'⟨y,ss,rfl,Qt,Mf,hb⟩;refine⟨_,rfl,?_⟩;rw[D6 (aa T1) (aa HH) Qt]at Mf;obtain⟨pH,cH,lH,rfl,q1,q2,q3⟩:=Kc Mf;have FH:Hid (PU v' v.heap.size v'.heap.size (.S pH nd.holders.length cH) nd.holders lH):=⟨q1,q2,q3,fun a ha=>q3.vj.lt ha⟩;clear Qt Mf q1 q2 q3)
   |(
    refine Tag.go 33 ?_;refine jJ (Q.r8 u _ D2 _ OU SZ2) ?_;rintro r v'⟨y,ss,rfl,Qt,Mf,hb⟩;refine⟨_,rfl,?_⟩;rw[D6 (aa T2) (aa HU) Qt]at Mf;obtain⟨pU,cU,lU,rfl,q1,q2,q3⟩:=Kc Mf;have FU:Hid (PU v' v.heap.size v'.heap.size (.S pU nd.watchers.length cU) nd.watchers lU):=⟨q1,q2,q3,fun a ha=>q3.vj.lt ha⟩;clear Qt Mf q1 q2 q3))
  all_goals(
   have S:=af (S.below hb);have BW:=af (aj BW hb);have OH:=af (OH.kept (az hb none) ai);have OU:=af (OU.kept (az hb none) ai);have RV:=af (RV.below hb);have R:=af (R.below ae hb);have z:v.heap.size<=v'.heap.size:=hb.size
   try have HP:=af (HP.below hb)
   try have FC:=af (FC.below hb)
   try have FJ:=af (FJ.below hb)
   try have FH:=af (FH.below hb)
   try have FU:=af (FU.below hb)
   refine gr hK (by exact S) fun hS=>?_;clear hK KK hb
   rename World=>v
   skip))
 all_goals(
  refine tn 34 hS ?_;have rc0:=R.1 0 _ rfl;have rc1:=R.1 1 _ rfl;have rc2:=R.1 2 _ rfl;have rc3:=R.1 3 _ rfl;have rc4:=R.1 4 _ rfl;have rc5:=R.1 5 _ rfl;have rc6:=R.1 6 _ rfl;have rc7:=R.1 7 _ rfl;have rf:=R.2;refine ry [35] (cn (fun KK hK=>?_) AllReadyH.nil);go_simp;obtain⟨Z,hZ⟩:=au ((((((((v.setCell ⟨w.heap.size,0,none⟩ (.S pC nd.path.length cC)).setCell ⟨w.heap.size,1,none⟩ (.S pJ nd.value.length cJ)).setCell ⟨w.heap.size,2,none⟩ (.U ow)).setCell ⟨w.heap.size,3,none⟩ (.I mo)).setCell ⟨w.heap.size,4,none⟩ (.S pH nd.holders.length cH)).setCell ⟨w.heap.size,5,none⟩ (.U ep)).setCell ⟨w.heap.size,6,none⟩ (.U ge)).setCell ⟨w.heap.size,7,none⟩ (.S pU nd.watchers.length cU));have Xj:∀b,b≠w.heap.size->Z.heap[b]?=v.heap[b]?:=fun b hb=>by
   rw[hZ]
   iterate 8 rw[fy _ _ _ _ hb]
  have cZ:=(al.fK (al.fK (al.fK (al.fK (al.fK (al.fK (al.fK (al.fK (aa R) 0 ai (.S pC nd.path.length cC)) 1 ai (.S pJ nd.value.length cJ)) 2 ai (.U ow)) 3 ai (.I mo)) 4 ai (.S pH nd.holders.length cH)) 5 ai (.U ep)) 6 ai (.U ge)) 7 ai (.S pU nd.watchers.length cU));rw[<-hZ]at cZ;have hbZ:Bw w Z:=by rw[hZ];exact((((((((BW.setCell ao _).setCell ao _).setCell ao _).setCell ao _).setCell ao _).setCell ao _).setCell ao _).setCell ao _)
  obtain⟨en,apn⟩:=jj.mk4 (B:=w.heap.size+1) FC FJ FH FU ae ae ae ae ae ae ae ae ae ae;have dA:∀y∈lC++(lJ++(lH++lU)),Z.heap[y.b]?=v.heap[y.b]?:=fun y hy=>Xj _ (by have:=apn.lo y hy;omega);have EN:=af (ah (jj.keep _ Z _ _ _ en dA) (ah ((apn.keep dA).mono (B':=w.heap.size) ae) hbZ));have SZg:rW Z g (.S pv nv cv) (.U ow) (.I mo) (.map (some h)) (.U ep) (.U ge) (.map (some u)):=by
   have cg:g≠w.heap.size:=fun e=>by have h1:=R.1 0 _ rfl;have h2:=S.2.1;rw[e]at h2;have h3:=R.1 1 _ rfl;rw[h2]at h3;simp at h3
   obtain⟨s0,s1,s2,s3,s4,s5,s6⟩:=aa S;have hz:=aE (Xj g cg);exact⟨(hz _).trans s0,(hz _).trans s1,(hz _).trans s2,(hz _).trans s3,(hz _).trans s4,(hz _).trans s5,(hz _).trans s6⟩
  rw[<-hZ];refine gr hK (by exact SZg) fun hS=>?_;have zc0:=cZ.1 0 _ rfl;have zc1:=cZ.1 1 _ rfl;have zc2:=cZ.1 2 _ rfl;have zc3:=cZ.1 3 _ rfl;have zc4:=cZ.1 4 _ rfl;have zc5:=cZ.1 5 _ rfl;have zc6:=cZ.1 6 _ rfl;have zc7:=cZ.1 7 _ rfl;clear hK KK hZ Xj hbZ en apn dA SZg cZ rc0 rc1 rc2 rc3 rc4 rc5 rc6 rc7 rf;refine di ?_;clear hS;obtain⟨e1,e2,e3,e4⟩:=aa HE;go_wp2;refine fL (v:=.agg #[.S pC nd.path.length cC,.S pJ nd.value.length cJ,.U ow,.I mo,.S pH nd.holders.length cH,.U ep,.U ge,.S pU nd.watchers.length cU]) (by simp[results,results68,go_sem,zc0,zc1,zc2,zc3,zc4,zc5,zc6,zc7]) rfl ⟨_,lC++(lJ++(lH++lU)),rfl,?_,EN.2.1,EN.2.2⟩;have AF:=EN.1;rw[e1,e2,e3,e4]at AF;exact AF
  skip)
section
variable {P:Program}(w:World){ops:Array Oper}{rest:List Oper}{o:Oper}{a:Act}{Q:Exit->Act->World->Prop}
def pZ(hg:o.guard=none)(m x:Operand)(t:TypeId)(Hy:o.op=Op.lookup t m x true)(k e:TypeId)(K:Keyed P k)(ht:P.underlying t=some (.map k e))(hz:(zeroValue e).run P w=.ok (.pointer none) w)(b n:Nat)(D:DataW Unit)(l:List (Lit×Nat))(hM:gM D l)(hm:a.eval m=.map (some b))(bO:w.ownsMap P k aV b n D)(key:Value)(p:Lit×Nat)(hp:p∈l)(hx:a.eval x=key)(cL:keyOf P k key=some p.1)(hK:wpList P ops Q rest (a.put o.dst (.tuple #[.pointer (some ⟨p.2,0,none⟩),.bool true])) w):wpList P ops Q (o::rest) a w:=
 wpList_lookup_own_ok w hg m x t Hy k e K ht aV hz .nil [] rfl b n D hm bO key p.1 hx cL (fun v ps hv=>by rw[hM.at' p hp]at hv;obtain rfl:=jO hv;rw[(hM.hs p.1).2 ⟨p,hp,rfl⟩];exact hK)
def vQ(hg:o.guard=none)(m x:Operand)(t:TypeId)(Hy:o.op=Op.lookup t m x true)(k e:TypeId)(K:Keyed P k)(ht:P.underlying t=some (.map k e))(hz:(zeroValue e).run P w=.ok (.pointer none) w)(b n:Nat)(D:DataW Unit)(l:List (Lit×Nat))(hM:gM D l)(hm:a.eval m=.map (some b))(bO:w.ownsMap P k aV b n D)(key:Value)(kl:Lit)(la:∀p∈l,p.1≠kl)(hx:a.eval x=key)(cL:keyOf P k key=some kl)(hK:wpList P ops Q rest (a.put o.dst (.tuple #[.pointer none,.bool false])) w):wpList P ops Q (o::rest) a w:=
 wpList_lookup_own_ok w hg m x t Hy k e K ht aV hz .nil [] rfl b n D hm bO key kl hx cL (fun v ps hv=>by
  have hh:Maps.has D kl=false:=by rw[EG];intro h;obtain⟨p,hp,e⟩:=(hM.hs kl).1 h;exact la p hp e
  rw[Maps.atKey_of_not_has hh]at hv;obtain rfl:=ud hv;rw[hh];exact hK)
end
def nJ(w:World):(zeroValue 116).run prog w=.ok (.pointer none) w:=by kernel_rfl
def uW(h:ia ns l=some nd):nd.path=l/\∃i:Nat,ns[i]?=some nd:=by
 have h1:=NN h;have h2:=Ud h;exact⟨by simpa using h1,wo h2⟩
def IW(h:ia ns l=none):∀nd∈ns,nd.path≠l:=by
 intro nd br e;have:=NL.1 h nd br;simp[e]at this
theorem PF{SB NB HB UB:List Nat}(l:LI)(w:World)(cR:Hid (cT w0 w b bs bn e g x t ss ns SB NB HB UB))(hB:Hid (aM l))(xC:Hid (∀nd∈ns,aM nd.path))(hl:l.length<=1048577)(B:Bool)(eB:Hid (dQ ns l=B)):Cp 190 #[.pointer (some ⟨b,0,none⟩),.string (aN l)] w fun r w'=>r=.returned (.bool B)/\Bw w w':=by
 have yK:w.cell? ⟨b,5,none⟩=some (.map (some bn)):=aq cR.hd 5;obtain⟨D,oD,mD⟩:=cR.gy.own;have cL:keyOf prog 9 (.string (aN l))=some (bQ l):=by rw[WideMaps.keyOf_string_mk underlying9 (by rw[gS];unfold maxLen;omega),nR]
 have OD:=af oD;have MD:=af mD;have Mb:=af cL;have ky:((aN l).toList==(aN [47]).toList)=decide (l=[47]):=qx (aa hB) (by intro y hy;simp at hy;omega);rw[show(aN [47]).toList=[47]from fE [47]]at ky;clear oD mD cL;obtain⟨s,es⟩:=au (aN l);rw[<-es]at ky Mb⊢;clear es;by_cases py:l=[47];{
 have eT:B=true:=by rw[<-aa eB,dQ,bN py]
 subst eT;have hr:(s.toList==[47])=true:=by rw[ky];simp[py]
 clear ky py;go_enter func190,ntmps190;go_wp2;go_ret;exact⟨rfl,cW _ _⟩};{
 have hr:(s.toList==[47])=false:=by rw[ky];simp[py]
 have jc:(match ia ns l with|some nd=>nd.owner==0|none=>false)=B:=by rw[<-aa eB,dQ,bH py];rfl
 clear ky py;cases hF:ia ns l with
 | none=>
  rw[hF]at jc;have eF:B=false:=jc.symm;subst eF;have la:Hid (∀p∈List.zipWith (fun(nd:aB)g=>(bQ nd.path,g)) ns NB,p.1≠bQ l):=by intro p hp;obtain⟨i,nd,y,hx,hy,rfl⟩:=gF hp;intro ee;have hm:=aS hx;exact IW hF nd hm (l8 (aa xC nd hm) hB ee)
  clear hF jc;go_enter func190,ntmps190;go_wp2_with(first
   |(at_lookup;refine vQ _ rfl _ _ 112 rfl 9 _ me underlying112 (nJ _) bn _ D _ MD rfl OD _ (bQ l) la rfl Mb ?_)
   |go_in)
  go_ret;exact⟨rfl,cW _ _⟩
 | some nd=>
  rw[hF]at jc;replace jc:(nd.owner==0)=B:=jc;obtain⟨hp,i,hi⟩:=uW hF;obtain⟨g1,h1,u1,q1,q2,q3⟩:=cR.gy.at hi;obtain⟨_,_,_,⟨V,a4,_⟩,_,_⟩:=cR.gy.blk i nd g1 h1 u1 hi q1 q2 q3;have hcO:w.cell? ⟨g1,1,none⟩=some (.U nd.owner):=aq a4 1;have iY:Hid ((bQ l,g1)∈List.zipWith (fun(nd:aB)g=>(bQ nd.path,g)) ns NB):=by show _∈_;rw[gv];refine⟨i,?_⟩;rw[jT,hi,q1];show some (bQ nd.path,g1)=some (bQ l,g1);rw[hp]
  obtain⟨ow,Wr⟩:=aI nd.owner;rw[Wr]at hcO jc;clear hF hp hi q1 q2 q3 a4 Wr;cases B with
  | true=>
   have ho:ow=0:=by simpa using jc
   subst ho;clear jc;go_enter func190,ntmps190;go_wp2_with(first
    |(at_lookup;refine pZ _ rfl _ _ 112 rfl 9 _ me underlying112 (nJ _) bn _ D _ MD rfl OD _ (bQ l,g1) iY rfl Mb ?_)
    |go_in)
   go_ret;exact⟨rfl,cW _ _⟩
  | false=>
   have ho:(ow==0)=false:=jc;clear jc;go_enter func190,ntmps190;go_wp2_with(first
    |(at_lookup;refine pZ _ rfl _ _ 112 rfl 9 _ me underlying112 (nJ _) bn _ D _ MD rfl OD _ (bQ l,g1) iY rfl Mb ?_)
    |go_in)
   go_ret;exact⟨rfl,cW _ _⟩}
def BI(e g x t:Int)(n m:Nat):Bool:=decide (e<=4611686018427387904/\g<=4611686018427387904/\x<=4611686018427387904/\0<=t/\t<=1000000/\n<=50/\m<=200)
def Rn{p q:OA}{c n d m:Nat}{w:World}(hn:n<=1048576)(hm:m<=1048576)(eB:Hid (BI e g x t n m=B)):Cp 167 #[gh e g x t (.S p n c) (.S q m d)] w fun r w'=>r=.returned (.bool B)/\Bw w w':=by
 go_enter func167,ntmps167;go_wp2_with fail
 all_goals(
  go_ret;refine⟨?_,ay.alloc ao _⟩;rw[<-aa eB];simp only[BI,Ending.returned.injEq,aD9])
 all_goals first|(simp_all;done)|(simp_all;omega)|(show Value.bool (decide ((m:Int)<=200))=Value.bool _;congr 1;rw[Jg,oq,oq];omega)|skip
def GZ{e g ow mo ep ge:Int}{P V U:Value}{c n:Nat}{w:World}(hn:n<=1048576)(eB:Hid (fg e g mo n ep ge=B)):Cp 218 #[YL P V ow mo (.S p n c) ep ge U,.U e,.U g] w fun r w'=>r=.returned (.bool B)/\Bw w w':=by
 go_enter func218,ntmps218;go_wp2_with fail
 all_goals(
  go_ret;refine⟨?_,ay.alloc ao _⟩;rw[<-aa eB];simp only[fg,Ending.returned.injEq,aD9])
 all_goals first|(simp_all;done)|(simp_all;omega)|skip
def PO(l:LI):Bool:=jR l.length (fun i j=>decide (l.getD i 0<l.getD j 0))
def vf(e g:Int)(nd:aB):Bool:=vp nd.path&&(decide (nd.value.length<=40)&&(fg e g nd.mode nd.holders.length nd.aJ nd.gen&&(PO nd.holders&&PO nd.watchers)))
theorem My{S N:Value}{pp vq hp up:OA}{pc pn vc vn hc hh uc un:Nat}(LF:Hid (nd.path.length=pn))(eVn:Hid (nd.value.length=vn))(SC:Hid (nd.holders.length=hh))(Wt:Hid (nd.watchers.length=un)){w:World}(h0:Rd w (.S pp pn pc) nd.path)(h4:qT w (.S hp hh hc) nd.holders)(h7:qT w (.S up un uc) nd.watchers)(hBP:Hid (aM nd.path))(VX:pn<=1048576)(hvn:vn<=1048576)(Xl:hh<=1048576)(Xd:un<=1048576)(sG:px (.S pp pn pc))(GO:ML w)(eB:Hid (vf e g nd=B)):Cp 186 #[YL (.S pp pn pc) (.S vq vn vc) nd.owner nd.mode (.S hp hh hc) nd.aJ nd.gen (.S up un uc),gh e g x t S N] w fun r w'=>r=.returned (.bool B)/\Bw w w':=by
 obtain⟨iD,js⟩:=sG.of;obtain⟨ow,mo,ep,ge,e1,e2,e3,e4⟩:∃a b c d,nd.owner=a/\nd.mode=b/\nd.aJ=c/\nd.gen=d:=⟨_,_,_,_,rfl,rfl,rfl,rfl⟩
 rw[e1,e2,e3,e4];have HR:=af fun(w':World)(hb:Bw w w')=>ah (h0.below hb) (ah (h4.below hb) (ah (h7.below hb) (GO.below hb)));obtain⟨T1,E1⟩:∃T,Hid (vp nd.path=T):=⟨_,bq⟩;obtain⟨T3,E3⟩:∃T,Hid (fg e g mo hh ep ge=T):=⟨_,bq⟩;obtain⟨T4,E4⟩:∃T,Hid (jR hh (fun i j=>decide (nd.holders.getD i 0<nd.holders.getD j 0))=T):=⟨_,bq⟩;obtain⟨T5,E5⟩:∃T,Hid (jR un (fun i j=>decide (nd.watchers.getD i 0<nd.watchers.getD j 0))=T):=⟨_,bq⟩;have hB:B=(T1&&(decide (vn<=40)&&(T3&&(T4&&T5)))):=by rw[<-aa eB,vf,PO,PO,e2,e3,e4,aa eVn,aa SC,aa Wt,aa E1,aa E3,aa E4,aa E5]
 have HB:=af hB;clear h0 h4 h7 GO hB eB e1 e2 e3 e4 sG;obtain⟨W,hW⟩:=au ((w.alloc (.cells #[.S pp pn pc,.S vq vn vc,.U ow,.I mo,.S hp hh hc,.U ep,.U ge,.S up un uc] 93)).alloc (.cells #[.U e,.U g,.U x,.I t,S,N] 32));have bW:Bw w W:=by rw[hW];exact(ay.alloc ao _).alloc ai _
 have k0:W.cell? ⟨w.heap.size,0,none⟩=some (.S pp pn pc):=by rw[hW];simp
 have k1:W.cell? ⟨w.heap.size,1,none⟩=some (.S vq vn vc):=by rw[hW];simp
 have k2:W.cell? ⟨w.heap.size,2,none⟩=some (.U ow):=by rw[hW];simp
 have k3:W.cell? ⟨w.heap.size,3,none⟩=some (.I mo):=by rw[hW];simp
 have k4:W.cell? ⟨w.heap.size,4,none⟩=some (.S hp hh hc):=by rw[hW];simp
 have k5:W.cell? ⟨w.heap.size,5,none⟩=some (.U ep):=by rw[hW];simp
 have k6:W.cell? ⟨w.heap.size,6,none⟩=some (.U ge):=by rw[hW];simp
 have k7:W.cell? ⟨w.heap.size,7,none⟩=some (.S up un uc):=by rw[hW];simp
 have k8:W.cell? ⟨w.heap.size+1,0,none⟩=some (.U e):=by rw[hW];simp
 have k9:W.cell? ⟨w.heap.size+1,1,none⟩=some (.U g):=by rw[hW];simp
 go_enter func186,ntmps186;go_wp2_with fail;rw[<-hW];clear hW;refine(Rt LF (aa HR _ bW).1 hBP VX iD js (aa HR _ bW).2.2.2 E1).mono ?_;rintro r w1⟨rfl,aA⟩;have b1:=aj bW aA;cases T1 with
 |false=>
  have eF:B=false:=by rw[aa HB];rfl
  subst eF;clear k0 k1 k2 k3 k4 k5 k6 k7 k8 k9;go_wp2;go_ret;exact⟨rfl,b1⟩
 |true=>
  replace k0:=ag k0 aA;replace k1:=ag k1 aA;replace k2:=ag k2 aA;replace k3:=ag k3 aA;replace k4:=ag k4 aA;replace k5:=ag k5 aA;replace k6:=ag k6 aA;replace k7:=ag k7 aA;replace k8:=ag k8 aA;replace k9:=ag k9 aA;clear aA bW;by_cases hv:(vn:Int)<=40;{
 have vO:Hid (B=(T3&&(T4&&T5))):=by
  show _=_;rw[aa HB,show decide (vn<=40)=true by(rw[oq];omega)]
  rfl
 clear HB;go_wp2_with fail;refine(GZ Xl E3).mono ?_;rintro r w2⟨rfl,aF⟩;have b2:=aj b1 aF;cases T3 with
 |false=>
  have eF:B=false:=by rw[aa vO];rfl
  subst eF;clear k0 k1 k2 k3 k4 k5 k6 k7 k8 k9;go_wp2;go_ret;exact⟨rfl,b2⟩
 | true=>
  replace k4:=ag k4 aF;replace k7:=ag k7 aF;clear k0 k1 k2 k3 k5 k6 k8 k9 aF;go_wp2_with fail;refine(PM SC (aa HR _ b2).2.1 Xl E4).mono ?_;rintro r w3⟨rfl,bf⟩;have b3:=aj b2 bf;cases T4 with
  |false=>
   have eF:B=false:=by rw[aa vO];rfl
   subst eF;clear k4 k7;go_wp2;go_ret;exact⟨rfl,b3⟩
  |true=>
   have eT:B=T5:=by rw[aa vO];rfl
   subst eT;replace k7:=ag k7 bf;clear k4 bf;go_wp2_with fail;refine(PM Wt (aa HR _ b3).2.2.1 Xd E5).mono ?_;rintro r w4⟨rfl,fk⟩;have b4:=aj b3 fk;clear k7;go_wp2;go_ret;exact⟨rfl,b4⟩};{
 have eF:B=false:=by rw[aa HB,show decide (vn<=40)=false by(rw[CG];omega)];rfl
 subst eF;clear k2 k3 k4 k5 k6 k7 k8 k9;go_wp2;go_ret;exact⟨rfl,b1⟩}
def lg(x:Int)(ss:List aR):Bool:=(List.range ss.length).all (fun i=>D8 x (ss.getD i (0,0,[])))&&jR ss.length (fun i j=>decide ((ss.getD i (0,0,[])).1<(ss.getD j (0,0,[])).1))
def km(e g:Int)(ns:List aB):Bool:=(List.range ns.length).all (fun i=>vf e g (ns.getD i gu))&&jR ns.length (fun i j=>!leB (ns.getD j gu).path (ns.getD i gu).path)
theorem xI{c n:Nat}{N:Value}(en:Hid (ss.length=n)){w:World}(h:nI w (.S p n c) ss)(hn:n<=1048576)(qi:Hid (∀s∈ss,s.2.2.length<=1048576/\∀e∈s.2.2,aM e.2/\e.2.length<=1048576))(GO:ML w)(eB:Hid (lg x ss=B)):Cp 168 #[gh e g x t (.S p n c) N] w fun r w'=>r=.returned (.bool B)/\Bw w w':=by
 have HR:=af fun(w':World)(hb:Bw w w')=>ah (h.below hb) (GO.below hb);obtain⟨T2,E2⟩:∃T,Hid (jR n (fun i j=>decide ((ss.getD i (0,0,[])).1<(ss.getD j (0,0,[])).1))=T):=⟨_,bq⟩;have HB:Hid (B=((List.range n).all (fun i=>D8 x (ss.getD i (0,0,[])))&&T2)):=by show _=_;rw[<-aa eB,lg,aa en,aa E2]
 go_enter func168,ntmps168;go_wp2_with fail;obtain⟨W,hW⟩:=au (w.alloc (.cells #[.U e,.U g,.U x,.I t,.S p n c,N] 32));have bW:=dO hW;have js:W.cell? ⟨w.heap.size,2,none⟩=some (.U x):=by rw[hW];simp
 have GM:W.cell? ⟨w.heap.size,4,none⟩=some (.S p n c):=by rw[hW];simp
 rw[<-hW];have BW:=af bW;have Qz:=af (ah js GM)
 go_loopw[8](fun iv wr=>∃k:Nat,k<=n/\iv=.I k/\Hid ((List.range k).all (fun i=>D8 x (ss.getD i (0,0,[])))=true)/\Bw W wr) (fun iv _=>n-(intOf iv).toNat)
 exact⟨0,gq _,rfl,bq,cW _ _⟩;{
 obtain⟨k,hk,rfl,iC,aG⟩:=hrel;have BB:=aj BW aG;have i2:=ag Qz.1 aG;have i4:=ag Qz.2 aG;by_cases aX:k<n;{
 have bu:=aP k n;have dA:k<ss.length:=by rw[aa en];exact aX
 obtain⟨⟨I,D,Q⟩,hy⟩:∃y,ss[k]?=some y:=⟨_,aO dA⟩;have Mj:ss.getD k (0,0,[])=(I,D,Q):=by rw[gj,hy];rfl
 obtain⟨b,o,rfl,hcI,hcD,u,hcQ,hrQ⟩:∃b o,p=some ⟨b,o,none⟩/\wr.cell? ⟨b,o+k*3,none⟩=some (.U I)/\wr.cell? ⟨b,o+k*3+1,none⟩=some (.I D)/\∃u,wr.cell? ⟨b,o+k*3+2,none⟩=some u/\pX wr u Q:=by obtain⟨p',c',ev,hd⟩:=(aa HR _ BB).1;simp only[dU]at ev;obtain⟨rfl,-,-⟩:=ev;rcases hd with h0|⟨b,o,h1,h2⟩;{rw[h0]at dA;simp at dA};{exact⟨b,o,h1,h2 k _ hy⟩}
 obtain⟨hQl,hQb⟩:=aa qi _ (aS hy);obtain⟨pq,cq,rfl,-⟩:=id hrQ;obtain⟨m,em⟩:=aI Q.length;rw[em]at hrQ hcQ;have hm:m<=1048576:=by rw[<-em];exact hQl
 have EM:=af em;have HBQ:Hid (∀e∈Q,aM e.2/\e.2.length<=1048576):=hQb;obtain⟨V,eV⟩:=aI (D8 x (I,D,Q));have EV:=af eV;have HF:Hid (V=false->B=false):=fun h=>by rw[aa HB,fo aX (by rw[Mj,eV];exact h)];rfl
 have HT:Hid (V=true->Hid ((List.range (k+1)).all (fun i=>D8 x (ss.getD i (0,0,[])))=true)):=fun h=>dr (aa iC) (by rw[Mj,eV];exact h);have b2:Bw wr ((wr.alloc (.cells #[.U I,.I D,.S pq m cq] 86))):=ay.alloc ao _;have HRQ:=af (hrQ.below b2);have HML:=af ((aa HR _ BB).2.below b2);have j2:=ag i2 b2;go_wp2_with fail;refine(JT EM (by exact HRQ) hm HBQ (by exact HML) EV).mono ?_;rintro r w2⟨rfl,aF⟩;have b3:=aj aG (aj b2 aF);have B3:=aj BW b3;cases V with
 |false=>
  have eF:=aa HF rfl;subst eF;go_wp2;go_ret;exact⟨rfl,B3⟩
 |true=>
  have ta:=aa HT rfl;go_wp2;go_roundw;exact⟨k+1,ae,by go_num,ta,b3⟩;exact bG};{
 have bu:=du k n;have vL:k=n:=ae;have eT:B=T2:=by rw[aa HB,show(List.range n).all (fun i=>D8 x (ss.getD i (0,0,[])))=true from vL▸aa iC,ox]
 subst eT;go_wp2_with fail;refine(ah5 en (aa HR _ BB).1.rd hn E2).mono ?_;rintro r w2⟨rfl,aF⟩;have b3:=aj BB aF;go_wp2;go_ret;exact⟨rfl,b3⟩}}
theorem DK{S:Value}{q:OA}{d:Nat}(em:Hid (ns.length=m)){w:World}(h:qz w (.S q m d) ns)(hm:m<=1048576)(fS:Hid (∀nd∈ns,aM nd.path/\nd.path.length<=1048576/\nd.value.length<=1048576/\nd.holders.length<=1048576/\nd.watchers.length<=1048576))(GO:ML w)(eB:Hid (km e g ns=B)):Cp 169 #[gh e g x t S (.S q m d)] w fun r w'=>r=.returned (.bool B)/\Bw w w':=by
 have HR:=af fun(w':World)(hb:Bw w w')=>ah (h.below hb) (GO.below hb);obtain⟨T2,E2⟩:∃T,Hid (jR m (fun i j=>!leB (ns.getD j gu).path (ns.getD i gu).path)=T):=⟨_,bq⟩;have HB:Hid (B=((List.range m).all (fun i=>vf e g (ns.getD i gu))&&T2)):=by show _=_;rw[<-aa eB,km,aa em,aa E2]
 go_enter func169,ntmps169;go_wp2_with fail;obtain⟨W,hW⟩:=au (w.alloc (.cells #[.U e,.U g,.U x,.I t,S,.S q m d] 32));have bW:=dO hW;have uY:jv W w.heap.size e g x t S (.S q m d):=by rw[hW];simp[jv]
 rw[<-hW];have BW:=af bW;have WV:=af uY
 go_loopw[8](fun iv wr=>∃k:Nat,k<=m/\iv=.I k/\Hid ((List.range k).all (fun i=>vf e g (ns.getD i gu))=true)/\Bw W wr) (fun iv _=>m-(intOf iv).toNat)
 exact⟨0,gq _,rfl,bq,cW _ _⟩;{
 obtain⟨k,hk,rfl,iC,aG⟩:=hrel;have BB:=aj BW aG;obtain⟨i0,i1,i2,i3,i4,i5⟩:=WV.below aG;by_cases aX:k<m;{
 have bu:=aP k m;have dA:k<ns.length:=by rw[aa em];exact aX
 obtain⟨nd,hy⟩:∃y,ns[k]?=some y:=⟨_,aO dA⟩;have Mj:ns.getD k gu=nd:=by rw[gj,hy];rfl
 obtain⟨b,o,rfl,hA⟩:=(aa HR _ BB).1.at ae;obtain⟨P,V,H,U,br⟩:=hA k nd hy;obtain⟨zG,jc,hB3,hB4,hB5⟩:=aa fS _ (aS hy);obtain⟨pp,pc,pn,rfl,LF⟩:=br.r0.iB;obtain⟨vp',vc,vn,rfl,eVn⟩:=br.r1.iB;obtain⟨hp,hc,hh,rfl,SC⟩:=br.r4.iB;obtain⟨up,uc,un,rfl,Wt⟩:=br.r7.iB;have VX:pn<=1048576:=by rw[<-aa LF];exact jc
 have hvn:vn<=1048576:=by rw[<-aa eVn];exact hB3
 have Xl:hh<=1048576:=by rw[<-aa SC];exact hB4
 have Xd:un<=1048576:=by rw[<-aa Wt];exact hB5
 have Xz:Hid (aM nd.path):=zG;obtain⟨T,eV⟩:=aI (vf e g nd);have EV:=af eV;have HF:Hid (T=false->B=false):=fun h=>by rw[aa HB,fo aX (by rw[Mj,eV];exact h)];rfl
 have HT:Hid (T=true->Hid ((List.range (k+1)).all (fun i=>vf e g (ns.getD i gu))=true)):=fun h=>dr (aa iC) (by rw[Mj,eV];exact h);have b2:Bw wr (wr.alloc (.cells #[.S pp pn pc,.S vp' vn vc,.U nd.owner,.I nd.mode,.S hp hh hc,.U nd.aJ,.U nd.gen,.S up un uc] 93)):=ay.alloc ao _;have HND:=af (br.below b2);have HML:=af ((aa HR _ BB).2.below b2);obtain⟨c0,c1,c2,c3,c4,c5,c6,c7,-,-,-,-,-⟩:=br;have j0:=ag i0 b2;have j1:=ag i1 b2;have j2:=ag i2 b2;have j3:=ag i3 b2;have j4:=ag i4 b2;have j5:=ag i5 b2;go_wp2_with fail;refine(My LF eVn SC Wt (by exact HND.r0) (by exact HND.r4) (by exact HND.r7) Xz VX hvn Xl Xd HND.k0 (by exact HML) EV).mono ?_;rintro r w2⟨rfl,aF⟩;have b3:=aj aG (aj b2 aF);have B3:=aj BW b3;cases T with
 |false=>
  have eF:=aa HF rfl;subst eF;go_wp2;go_ret;exact⟨rfl,B3⟩
 |true=>
  have ta:=aa HT rfl;go_wp2;go_roundw;exact⟨k+1,ae,by go_num,ta,b3⟩;exact bG};{
 have bu:=du k m;have vL:k=m:=ae;have eT:B=T2:=by rw[aa HB,show(List.range m).all (fun i=>vf e g (ns.getD i gu))=true from vL▸aa iC,ox]
 subst eT;go_wp2_with fail;refine(ah6 em (aa HR _ BB).1 hm E2).mono ?_;rintro r w2⟨rfl,aF⟩;have b3:=aj BB aF;go_wp2;go_ret;exact⟨rfl,b3⟩}}
def Zz:∀(key:Value)(kl:Lit),keyOf prog 9 key=some kl->∃s:ByteArray,key=.string s:=by
 intro key kl hk;cases key<;>simp[keyOf,underlying9,mapKey]at hk
 exact⟨_,rfl⟩
def Om(h:keyOf prog 9 (.string s)=some (bQ l)):s=aN l:=by
 simp[keyOf,underlying9,mapKey]at h;exact Zq h.2
def lx{m:LI}(hl:aM l)(hm:aM m):(bQ l).sameKey (bQ m)=decide (l=m):=by
 rw[Jg,WideAt.sameKey_iff (by trivial),oq];exact⟨fun h=>l8 hl hm h,fun h=>by rw[h]⟩
theorem Sl{SB NB HB UB:List Nat}{w:World}(cR:Hid (cT w0 w b bs bn e g x t ss ns SB NB HB UB))(xC:Hid (∀nd∈ns,aM nd.path/\nd.path.length<=1048576))(eB:Hid (ns.all (fun nd=>dQ ns (dY nd.path))=B)):Cp 170 #[.pointer (some ⟨b,0,none⟩)] w fun r w'=>r=.returned (.bool B)/\Bw w w':=by
 have yK:w.cell? ⟨b,5,none⟩=some (.map (some bn)):=aq cR.hd 5;obtain⟨D,oD,mD⟩:=cR.gy.own;obtain⟨m,em⟩:=aI ns.length;rw[em]at oD;have ci3:Hid (∀nd∈ns,aM nd.path):=fun nd h=>(aa xC nd h).1;have MD:=af mD;go_enter func170,ntmps170;go_wp2_with(first
  |(at_range;refine wpList_range_own _ rfl _ 112 rfl 9 _ me underlying112 _ bn m _ rfl oD ?_;intro w1 nw CN Ml)
  |go_in)
 go_frame
 go_loopw[3](fun _ wr=>∃(left:Lit->Bool)(iM:Nat),wr.ranges prog 9 aV bn w.heap.size m D left iM/\Hid (∀nd∈ns,left (bQ nd.path)=false->dQ ns (dY nd.path)=true)/\Bw w wr) (fun _ wr=>wr.rangeLeft bn w.heap.size)
 case atStart=>(
 refine⟨_,_,nw,fun nd br hl=>?_,qm CN⟩;exfalso;obtain⟨i,hi⟩:=wo br;obtain⟨g1,h1,u1,q1,q2,q3⟩:=cR.gy.at hi;have:Maps.has D (bQ nd.path)=true:=(MD.hs _).2 ⟨(bQ nd.path,g1),by rw[gv];refine⟨i,?_⟩;rw[jT,hi,q1],rfl⟩
 rw[this]at hl;cases hl)
 case round=>(
 obtain⟨left,iM,jb,iC,aG⟩:=hrel;have pY:=af (cR.below aG);go_wp2_with(first
  |(at_next;refine dW _ rfl _ rfl 9 me (fun s:ByteArray=>.string s) Zz bn w.heap.size m _ _ MD _ _ rfl jb ?_ ?_)
  |go_in)
 {
 intro _ uz;have eT:B=true:=by rw[<-aa eB,iT];exact fun nd br=>aa iC nd br (uz _)
 subst eT;go_wp2;go_ret;exact⟨rfl,aG⟩};{
 intro s pl g1 w2 rT cL hp RM pM aX fU ik AF;obtain⟨i,nd,g1',hi,H7,ee⟩:=gF hp;simp only[fO]at ee;obtain⟨rfl,rfl⟩:=ee;have aF:Bw w w2:=bD aG fU aG.size (fun j hj=>by cases hj;exact jS _);obtain rfl:=Om cL;have br:=aS hi;obtain⟨zG,jc⟩:=aa xC nd br;obtain⟨T,eT⟩:=aI (dQ ns (dY nd.path));have ET:=af eT;have HF:Hid (T=false->B=false):=fun h=>by rw[<-aa eB,NU];exact⟨nd,br,by rw[eT,h];simp⟩
 have HT:Hid (T=true->Hid (∀nd'∈ns,(fun z=>left z&&!z.sameKey (bQ nd.path)) (bQ nd'.path)=false->dQ ns (dY nd'.path)=true)):=fun h nd' au0 hl=>by simp only[lx (aa xC nd' au0).1 zG]at hl;by_cases ep:nd'.path=nd.path;{rw[ep,eT,h]};{simp[ep]at hl;exact iC nd' au0 hl}
 have mK:Hid (aM nd.path):=zG;have tG:=af (rH zG);have qY:(dY nd.path).length<=1048577:=by unfold dY;split;{simp};{rw[pK];omega}
 have aA7:=af (cR.below aF);have Sd:(Instr.entry (.pointer (some ⟨w.heap.size,0,none⟩))).run prog w2=.ok (.tuple #[.string (aN nd.path),.pointer (some ⟨g1,0,none⟩)]) w2:=AF;go_wp2_with fail;refine(sg bq mK jc).mono ?_;rintro r w3⟨rfl,rfl⟩;go_wp2_with fail;refine(PF (dY nd.path) _ aA7 tG ci3 qY T ET).mono ?_;rintro r w4⟨rfl,fk⟩;have b4:=aj aF fk;cases T with
 |false=>
  have eF:=aa HF rfl;subst eF;go_wp2;go_ret;exact⟨rfl,b4⟩
 |true=>
  have ta:=aa HT rfl;have Fy:=pM.kept (az fk none) ai ai;go_wp2;go_roundw;exact⟨_,rT,Fy,ta,b4⟩
  case measure=>rw[Fy.left_eq,jb.left_eq];exact aX})
def vN(nd:aB)(i:Int):Prop:=(nd.owner≠0/\i=nd.owner)\/i∈nd.holders\/i∈nd.watchers
def dD.del{s:LI}(h:dD D s)(i:Int):dD (D.del (.U i)) (s.filter fun j=>decide (j≠i)):=by
 intro k';by_cases e:k'=.U i;{subst e;rw[Maps.has_del_same];simp};{rw[Maps.has_del_other e,h k'];constructor;{rintro⟨j,hj,rfl⟩;refine⟨j,?_,rfl⟩;rw[I8];exact⟨hj,by simpa using fun hh=>e (by rw[hh])⟩};{rintro⟨j,hj,rfl⟩;exact⟨j,(I8.1 hj).1,rfl⟩}}
def aO3:∀(key:Value)(kl:Lit),keyOf prog 28 key=some kl->∃i:Int,key=.U i:=by
 intro key kl hk;obtain⟨x,rfl,_⟩:=keyOf_int_inv underlying28 hk;exact⟨x,rfl⟩
def tB.uniq{w0 w:World}{NB HB UB:List Nat}(h:tB w0 w bn ns NB HB UB){nd':aB}(hi:ns[i]?=some nd)(hj:ns[j]?=some nd')(hp:nd.path=nd'.path):nd=nd':=by
 obtain⟨D,_,mD⟩:=h.own;obtain⟨g1,_,_,q1,_,_⟩:=h.at hi;obtain⟨g2,_,_,q2,_,_⟩:=h.at hj;have m1:(bQ nd.path,g1)∈List.zipWith (fun(nd:aB)g=>(bQ nd.path,g)) ns NB:=by rw[gv];exact⟨i,by rw[jT,hi,q1]⟩
 have m2:(bQ nd'.path,g2)∈List.zipWith (fun(nd:aB)g=>(bQ nd.path,g)) ns NB:=by rw[gv];exact⟨j,by rw[jT,hj,q2]⟩
 have e1:=mD.at' _ m1 .nil;have e2:=mD.at' _ m2 .nil;simp only[hp]at e1;simp only at e2;rw[e1]at e2;simp only[DataW.lit.injEq,Lit.int.injEq,Rl,Int.natCast_inj]at e2;subst e2;have l1:=(aT.1 q1).1;have l2:=(aT.1 q2).1;have Hx:=Ez.1 h.gy;have v1:=(aT.1 q1).2;have v2:=(aT.1 q2).2;have:i=j:=by rcases yA i j with hh|hh|hh;{exact absurd (v1.trans v2.symm) (Hx i j l1 l2 hh)};{exact hh};{exact absurd (v2.trans v1.symm) (Hx j i l2 l1 hh)}
 subst this;rw[hi]at hj;cases hj
 rfl
theorem Ha{SB NB HB UB:List Nat}{w:World}(cR:Hid (cT w0 w b bs bn e g x t ss ns SB NB HB UB))(xC:Hid (∀nd∈ns,aM nd.path/\nd.holders.length<=1048576/\nd.watchers.length<=1048576))(hou:Hid (∀nd∈ns,0<=nd.owner/\nd.owner<18446744073709551616))(em:Hid (ns.length=m))(hm:m<=1048576){n:Nat}(en:Hid (ss.length=n)):Cp 171 #[.pointer (some ⟨b,0,none⟩)] w fun r w'=>∃nb k D s,r=.returned (.map (some nb))/\w'.ownsMap prog 28 unitElem nb k D/\dD D s/\(∀i,i∈s↔(∃nd∈ns,vN nd i)/\¬∃z∈ss,z.1=i)/\Bw w w':=by
 have yK:w.cell? ⟨b,5,none⟩=some (.map (some bn)):=aq cR.hd 5;have GM:w.cell? ⟨b,4,none⟩=some (.map (some bs)):=aq cR.hd 4;have CQ:b<w.heap.size:=aL cR.hd;obtain⟨D,oD,mD⟩:=cR.gy.own;obtain⟨Ds,oS,mS⟩:=cR.tI.own;rw[aa em]at oD;rw[aa en]at oS;have MD:=af mD;have MS:=af mS;have OS:=af oS;have HC4:=af GM;have Xi:=@run_makeMap prog;have b1:Bw w (w.alloc (.map #[] 0)):=ay.alloc ao _;have dt4:=ag yK b1;have oD1:=oD.alloc (.map #[] 0);go_enter func171,ntmps171;go_wp2_with(first
  |(at_range;refine wpList_range_own _ rfl _ 112 rfl 9 _ me underlying112 _ bn m _ rfl oD1 ?_;intro w1 nw CN Ml)
  |go_in)
 go_frame
 have iL:(w.alloc (.map #[] 0)).heap.size=w.heap.size+1:=ai;have aA:Bw w w1:=aj b1 (qm CN);have o0:w1.ownsMap prog 28 (unitElem (H:=Unit)) w.heap.size 0 (.map []):=(World.ownsMap_made w _ _ _).kept CN ai;rw[iL]at nw⊢;have HZ1:=af iL
 go_loopw[5](fun _ wr=>∃(left:Lit->Bool)(iM k:Nat)(E:DataW Unit)(s:LI),wr.ranges prog 9 aV bn (w.heap.size+1) m D left iM/\k+iM*2097153<=m*2097153/\wr.ownsMap prog 28 unitElem w.heap.size k E/\Hid (dD E s/\∀i,i∈s↔∃nd∈ns,left (bQ nd.path)=false/\vN nd i)/\Bw w wr) (fun _ wr=>wr.rangeLeft bn (w.heap.size+1))
 case atStart=>(
 refine⟨_,_,0,_,[],nw,?_,o0,⟨dD.nil,fun i=>?_⟩,aA⟩;{have:=oD.size_le;omega};{
 constructor;{intro h;cases h};{
 rintro⟨nd,br,hl,_⟩;exfalso;obtain⟨i,hi⟩:=wo br;obtain⟨g1,h1,u1,q1,q2,q3⟩:=cR.gy.at hi;have:Maps.has D (bQ nd.path)=true:=(MD.hs _).2 ⟨(bQ nd.path,g1),by rw[gv];refine⟨i,?_⟩;rw[jT,hi,q1],rfl⟩
 rw[this]at hl;cases hl}})
 case round=>(
 obtain⟨left,iM,k,E,s,jb,hkc,bO,wW,aG⟩:=hrel;go_wp2_with(first
  |(at_next;refine dW _ rfl _ rfl 9 me (fun s:ByteArray=>.string s) Zz bn (w.heap.size+1) m _ _ (aa MD) _ _ (by first|rfl|(rw[<-aa HZ1];rfl)) jb ?_ ?_)
  |go_in)
 {
 intro _ uz;have ik:Hid (∀i,i∈s↔∃nd∈ns,vN nd i):=fun i=>by rw[wW.2 i];constructor;{rintro⟨nd,h1,_,h2⟩;exact⟨nd,h1,h2⟩};{rintro⟨nd,h1,h2⟩;exact⟨nd,h1,uz _,h2⟩}
 have GI:=af wW.1;have GM:=ag HC4 aG;have oS1:=OS.kept (az aG none) ai;obtain⟨Y,eY⟩:=au wr;subst eY;go_wp2_with(first
  |(at_range;refine wpList_range_own _ rfl _ 111 rfl 28 _ iI underlying111 _ bs n _ rfl oS1 ?_;intro w3 rO tz hs3)
  |go_in)
 go_frame
 have Jn:=bO.kept tz ai;have bf:Bw w w3:=bD aG tz aG.size (fun j hj=>by cases hj);have kY:w.heap.size<Y.heap.size:=bO.lt
 go_loopw[6](fun _ wr=>∃(left:Lit->Bool)(iM:Nat)(E:DataW Unit)(s':LI),wr.ranges prog 28 aV bs Y.heap.size n Ds left iM/\wr.ownsMap prog 28 unitElem w.heap.size k E/\Hid (dD E s'/\∀i,i∈s'↔i∈s/\¬∃z∈ss,z.1=i/\left (.U i)=false)/\Bw w wr) (fun _ wr=>wr.rangeLeft bs Y.heap.size)
 case atStart=>(
 refine⟨_,_,E,s,rO,Jn,⟨GI,fun i=>?_⟩,bf⟩;constructor;{
 intro hi;refine⟨hi,?_⟩;rintro⟨z,hz,rfl,hl⟩;obtain⟨j,hj⟩:=wo hz;obtain⟨gz,Wc⟩:∃gz,SB[j]?=some gz:=⟨_,aO (by rw[cR.tI.len];exact(aT.1 hj).1)⟩;have:Maps.has Ds (.U z.1)=true:=(MS.hs _).2 ⟨(.U z.1,gz),by rw[gv];exact⟨j,by rw[jT,hj,Wc]⟩,rfl⟩
 rw[this]at hl;cases hl};{exact fun h=>h.1})
 case round=>(
 obtain⟨left,iM,E1,s',jb,sR,wW,aG⟩:=hrel;go_wp2_with(first
  |(at_next;refine dW _ rfl _ rfl 28 iI (fun i:Int=>.int .u64 i) aO3 bs Y.heap.size n _ _ MS _ _ rfl jb ?_ ?_)
  |go_in)
 {intro _ uz;have HS:=aa wW;go_wp2;go_ret;refine⟨w.heap.size,k,E1,s',rfl,sR,HS.1,fun i=>?_,aG⟩;rw[HS.2 i,aa ik i];constructor;{rintro⟨h1,h2⟩;exact⟨h1,fun⟨z,hz,e⟩=>h2 ⟨z,hz,e,uz _⟩⟩};{rintro⟨h1,h2⟩;exact⟨h1,fun⟨z,hz,e,_⟩=>h2 ⟨z,hz,e⟩⟩}};{
 intro i0 pl g1 w4 rT cL hp RM pM aX fU VU AF;obtain⟨j,z,g1',hj,Qg,ee⟩:=gF hp;simp only[fO]at ee;obtain⟨rfl,rfl⟩:=ee;obtain⟨i1,e1,e2,hwx⟩:=keyOf_int_inv underlying28 cL;simp only[Y9,Rl]at e1;simp only[Lit.int.injEq,Rl]at e2;subst e1;subst e2;have fk:Bw w w4:=bD aG fU aG.size (fun j hj=>by cases hj;omega);have BO:=sR.kept fU bj;have Sd:(Instr.entry (.pointer (some ⟨Y.heap.size,0,none⟩))).run prog w4=.ok (.tuple #[.U z.1,.pointer (some ⟨g1,0,none⟩)]) w4:=AF;have Tm:Hid (dD (E1.del (.U z.1)) (s'.filter fun j=>decide (j≠z.1))/\∀i,i∈(s'.filter fun j=>decide (j≠z.1))↔i∈s/\¬∃y∈ss,y.1=i/\(fun q=>left q&&!q.sameKey (.U z.1)) (.U i)=false):=by
  refine⟨wW.1.del z.1,fun i=>?_⟩;rw[I8,wW.2 i];have hk:((Lit.U i).sameKey (.U z.1)=true)↔i=z.1:=by rw[WideAt.sameKey_iff (by trivial)];simp
  by_cases ei:i=z.1;{subst ei;simp only[ne_eq,YW,Ui,Hj,and_false,false_iff];rintro⟨_,h2⟩;exact h2 ⟨z,aS hj,rfl,by simp[hk.2 rfl]⟩};{simp[ei,show(Lit.U i).sameKey (.U z.1)=false by(rw[EG];exact fun h=>ei (hk.1 h))]}
 go_wp2_with(first
  |(at_delete;refine wpList_delete_own _ rfl _ _ 118 28 rfl _ iI underlying118 unitElem w.heap.size k _ rfl BO _ _ rfl (keyOf_int_mk underlying28 hwx) ?_;intro w5 Fz aO7;go_frame)
  |go_in)
 have ra:=aO7.grown;have dS:Bw w w5:=bD fk ra fk.size (fun j hj=>by cases hj;exact jS _);have mH:=pM.kept ra (by have:=OS.lt;simp;omega) bj;go_roundw;exact⟨_,rT,_,_,mH,Fz,Tm,dS⟩
 case measure=>rw[mH.left_eq,jb.left_eq];exact aX})}
 {
 intro sb pl g1 w2 rT cL hp RM pM aX fU ik AF;obtain⟨i,nd,g1',hi,H7,ee⟩:=gF hp;simp only[fO]at ee;obtain⟨rfl,rfl⟩:=ee;have aF:Bw w w2:=bD aG fU aG.size (fun j hj=>by cases hj;omega);obtain rfl:=Om cL;have br:=aS hi;obtain⟨zG,Jq,KY⟩:=aa xC nd br;obtain⟨g2,h1,u1,q1,q2,q3⟩:=cR.gy.at hi;rw[H7]at q1;cases q1;obtain⟨_,_,_,⟨V,a4,_⟩,⟨Dh,oh,sh⟩,⟨Du,ou,su⟩⟩:=cR.gy.blk i nd g1 h1 u1 hi H7 q2 q3;have OW:g1<w.heap.size:=aL a4;have k1:w.cell? ⟨g1,1,none⟩=some (.U nd.owner):=aq a4 1;have k3:w.cell? ⟨g1,3,none⟩=some (.map (some h1)):=aq a4 3;have k6:w.cell? ⟨g1,6,none⟩=some (.map (some u1)):=aq a4 6;have SH:=af sh;have SU:=af su;have FB:=bO.kept fU (by first|(simp;done)|(simp;omega));have Sd:(Instr.entry (.pointer (some ⟨w.heap.size+1,0,none⟩))).run prog w2=.ok (.tuple #[.string (aN nd.path),.pointer (some ⟨g1,0,none⟩)]) w2:=AF;have FIN:∀i:Int,((i∈s\/(nd.owner≠0/\i=nd.owner))\/i∈nd.holders)\/i∈nd.watchers↔∃nd'∈ns,(fun z=>left z&&!z.sameKey (bQ nd.path)) (bQ nd'.path)=false/\vN nd' i:=by intro i0;rw[wW.2 i0];constructor;{rintro(((⟨nd',h1,h2,h3⟩|h)|h)|h);{exact⟨nd',h1,by simp[h2],h3⟩};{exact⟨nd,br,by simp[lx zG zG],.inl h⟩};{exact⟨nd,br,by simp[lx zG zG],.inr (.inl h)⟩};{exact⟨nd,br,by simp[lx zG zG],.inr (.inr h)⟩}};{rintro⟨nd',h1,h2,h3⟩;by_cases ep:nd'.path=nd.path;{obtain⟨j,hj⟩:=wo h1;have:=cR.gy.uniq hj hi ep;subst this;rcases h3 with h3|h3|h3;{exact .inl (.inl (.inr h3))};{exact .inl (.inr h3)};{exact .inr h3}};{refine .inl (.inl (.inl ⟨nd',h1,?_,h3⟩));simpa[lx (aa xC nd' h1).1 zG,ep]using h2}}
 have hO:=aa hou nd br;by_cases ho:nd.owner=0;{
 have d1:=(cM (aF.block g1 OW) (o:=1)).trans k1;have d3:=(cM (aF.block g1 OW) (o:=3)).trans k3;have d6:=(cM (aF.block g1 OW) (o:=6)).trans k6;rw[ho]at d1;have M3:∀i,i∈s↔i∈s\/(nd.owner≠0/\i=nd.owner):=fun i=>by simp[ho]
 have S3:=af wW.1;have bf:=aF;have Jn:=FB;have rO:=pM;obtain⟨w3,e3⟩:=au w2;obtain⟨K3,eK⟩:=au k;obtain⟨E3,eE⟩:=au E;obtain⟨s3,eS⟩:=au s;have UF:K3<=k+1:=ae;subst e3 eK eE eS;go_wp2_with fail;refine(u6 Jn (oh.kept (az bf none) ai) S3 SH (by have:=oh.lt;omega) ae Jq).mono ?_;rintro r w4⟨E4,s4,rfl,BO,ZK,ZR,sS⟩;have fk:Bw w w4:=bD bf sS bf.size (fun j hj=>by cases hj;exact jS _);have f6:=(cM (fk.block g1 OW) (o:=6)).trans k6;have S4:=af ZK;go_wp2_with fail;refine(u6 BO (ou.kept (az fk none) ai) S4 SU (by have:=ou.lt;omega) ae KY).mono ?_;rintro r w5⟨E5,s5,rfl,Fz,ZJ,ZQ,ra⟩;have dS:Bw w w5:=bD fk ra fk.size (fun j hj=>by cases hj;exact jS _);have mH:=(rO.kept sS (by have:=oD.lt;simp;omega) (by first|(simp;done)|(simp;omega))).kept ra (by have:=oD.lt;simp;omega) (by first|(simp;done)|(simp;omega));have Tm:Hid (dD E5 s5/\∀i,i∈s5↔∃nd'∈ns,(fun z=>left z&&!z.sameKey (bQ nd.path)) (bQ nd'.path)=false/\vN nd' i):=⟨ZJ,fun i=>by rw[ZQ,ZR,M3,FIN]⟩
 go_wp2;go_roundw
 case rel=>first|exact⟨_,rT,mH,_,ae,E5,Fz,s5,Tm,dS⟩|exact⟨_,rT,_,E5,s5,mH,ae,Fz,Tm,dS⟩
 case measure=>rw[mH.left_eq,jb.left_eq];exact aX}
 {
 have Uy:(nd.owner != 0)=true:=by simp[ho]
 have d1:=(cM (aF.block g1 OW) (o:=1)).trans k1;have bp6:keyOf prog 28 (.U nd.owner)=some (.U nd.owner):=keyOf_int_mk underlying28 (nT hO);have M3:∀i,i∈s++[nd.owner]↔i∈s\/(nd.owner≠0/\i=nd.owner):=fun i=>by simp[ho]
 have S3:=af (wW.1.put bO.isMap nd.owner (.agg []));go_wp2_with(first
  |(at_mapUpdate;refine wpList_mapUpdate_own _ rfl _ _ _ 118 rfl 28 _ iI underlying118 unitElem w.heap.size k _ rfl FB ic _ _ _ rfl rfl bp6 (.agg []) [] unitElem_mk ?_;intro w3 Jn aa0;have bf:Below w.heap.size w w3:=bD aF aa0 aF.size (fun j hj=>by cases hj;exact jS _);have d3:=(cM (bf.block g1 OW) (o:=3)).trans k3;have d6:=(cM (bf.block g1 OW) (o:=6)).trans k6)
  |fail)
 have rO:=pM.kept aa0 (by have:=oD.lt;simp;omega) (by first|(simp;done)|(simp;omega));obtain⟨K3,eK⟩:=au (k+1);obtain⟨E3,eE⟩:=au (E.put (.U nd.owner) (.agg []));obtain⟨s3,eS⟩:=au (s++[nd.owner]);have UF:K3<=k+1:=ae;rw[<-eK,<-eE]at Jn;rw[<-eE,<-eS]at S3;rw[<-eS]at M3;refine(u6 Jn (oh.kept (az bf none) ai) S3 SH (by have:=oh.lt;omega) ae Jq).mono ?_;rintro r w4⟨E4,s4,rfl,BO,ZK,ZR,sS⟩;have fk:Bw w w4:=bD bf sS bf.size (fun j hj=>by cases hj;exact jS _);have f6:=(cM (fk.block g1 OW) (o:=6)).trans k6;have S4:=af ZK;go_wp2_with fail;refine(u6 BO (ou.kept (az fk none) ai) S4 SU (by have:=ou.lt;omega) ae KY).mono ?_;rintro r w5⟨E5,s5,rfl,Fz,ZJ,ZQ,ra⟩;have dS:Bw w w5:=bD fk ra fk.size (fun j hj=>by cases hj;exact jS _);have mH:=(rO.kept sS (by have:=oD.lt;simp;omega) (by first|(simp;done)|(simp;omega))).kept ra (by have:=oD.lt;simp;omega) (by first|(simp;done)|(simp;omega));have Tm:Hid (dD E5 s5/\∀i,i∈s5↔∃nd'∈ns,(fun z=>left z&&!z.sameKey (bQ nd.path)) (bQ nd'.path)=false/\vN nd' i):=⟨ZJ,fun i=>by rw[ZQ,ZR,M3,FIN]⟩
 go_wp2;go_roundw
 case rel=>first|exact⟨_,rT,mH,_,ae,E5,Fz,s5,Tm,dS⟩|exact⟨_,rT,_,E5,s5,mH,ae,Fz,Tm,dS⟩
 case measure=>rw[mH.left_eq,jb.left_eq];exact aX}})
def at2(ss:List aR)(ids:LI):iK ss ids=true↔PO ids=true/\∀i∈ids,live ss i=true:=by
 simp only[iK,PO,jR,iT,yv,Ht,fu];constructor;{intro h;refine⟨fun i hi=>(h i hi).2,fun y hy=>?_⟩;obtain⟨i,hi,rfl⟩:=BG hy;have:=(h i hi).1;rwa [gj,aO hi]at this};{rintro⟨h1,h2⟩i hi;refine⟨h2 _ ?_,h1 i hi⟩;rw[gj,aO hi];exact Hl hi}
def lW{α:Type}(l:List α)(d:α)(f:α->Bool):(∀i,i<l.length->f (l.getD i d)=true)↔∀y∈l,f y=true:=by
 constructor;{intro h y hy;obtain⟨i,hi,rfl⟩:=BG hy;have:=h i hi;rwa [gj,aO hi]at this};{intro h i hi;rw[gj,aO hi];exact h _ (Hl hi)}
def ao3(x:Int)(ss:List aR):(List.range ss.length).all (lX x ss)=true↔lg x ss=true:=by
 simp only[lg,jR,iT,yv,lX,D8,fu];constructor;{intro h;exact⟨fun i hi=>⟨(h i hi).1,(h i hi).2.1,(h i hi).2.2.2⟩,fun i hi=>(h i hi).2.2.1⟩};{rintro⟨h1,h2⟩i hi;exact⟨(h1 i hi).1,(h1 i hi).2.1,h2 i hi,(h1 i hi).2.2⟩}
def aq3(e g:Int)(ss:List aR)(ns:List aB):(List.range ns.length).all (kW e g ss ns)=true↔km e g ns=true/\ns.all (fun nd=>dQ ns (dY nd.path))=true/\∀nd∈ns,∀i,vN nd i->live ss i=true:=by
 have key:∀k,kW e g ss ns k=true↔(vf e g (ns.getD k gu)=true/\(k==0||!leB (ns.getD k gu).path (ns.getD (k-1) gu).path)=true)/\dQ ns (dY (ns.getD k gu).path)=true/\(fun nd=>decide (nd.owner=0)||live ss nd.owner) (ns.getD k gu)=true/\(fun nd:aB=>nd.holders.all (live ss)) (ns.getD k gu)=true/\(fun nd:aB=>nd.watchers.all (live ss)) (ns.getD k gu)=true:=by
  intro k;simp only[kW,vf,fu,at2,iT];have:((ns.getD k gu).owner==0||live ss (ns.getD k gu).owner)=(decide ((ns.getD k gu).owner=0)||live ss (ns.getD k gu).owner):=by
   congr 1
  rw[this];constructor;{rintro⟨⟨a1,a2⟩,a3,a4,a5,⟨a6,a7⟩,⟨a8,a9⟩,a10⟩;exact⟨⟨⟨a1,a4,a10,a6,a8⟩,a2⟩,a3,a5,a7,a9⟩};{rintro⟨⟨⟨a1,a4,a10,a6,a8⟩,a2⟩,a3,a5,a7,a9⟩;exact⟨⟨a1,a2⟩,a3,a4,a5,⟨a6,a7⟩,⟨a8,a9⟩,a10⟩}
 simp only[km,jR,iT,yv,fu,key];rw[<-lW ns gu];constructor;{intro h;refine⟨⟨fun i hi=>(h i hi).1.1,fun i hi=>(h i hi).1.2⟩,fun i hi=>(h i hi).2.1,?_⟩;have h3:=(lW ns gu (fun nd=>decide (nd.owner=0)||live ss nd.owner)).1 (fun i hi=>(h i hi).2.2.1);have h4:=(lW ns gu (fun nd:aB=>nd.holders.all (live ss))).1 (fun i hi=>iT.2 (h i hi).2.2.2.1);have h5:=(lW ns gu (fun nd:aB=>nd.watchers.all (live ss))).1 (fun i hi=>iT.2 (h i hi).2.2.2.2);rintro nd br i(⟨h1,rfl⟩|h1|h1);{have:=h3 nd br;simpa[h1]using this};{exact iT.1 (h4 nd br) i h1};{exact iT.1 (h5 nd br) i h1}};{rintro⟨⟨h1,h2⟩,h3,h4⟩i hi;refine⟨⟨h1 i hi,h2 i hi⟩,h3 i hi,?_,?_,?_⟩;{refine(lW ns gu (fun nd=>decide (nd.owner=0)||live ss nd.owner)).2 (fun nd br=>?_) i hi;by_cases ho:nd.owner=0;{simp[ho]};{simp[ho,h4 nd br nd.owner (.inl ⟨ho,rfl⟩)]}};{exact iT.1 ((lW ns gu (fun nd:aB=>nd.holders.all (live ss))).2 (fun nd br=>iT.2 fun j hj=>h4 nd br j (.inr (.inl hj))) i hi)};{exact iT.1 ((lW ns gu (fun nd:aB=>nd.watchers.all (live ss))).2 (fun nd br=>iT.2 fun j hj=>h4 nd br j (.inr (.inr hj))) i hi)}}
def DW(e g x t:Int):mw e g x t ss ns=true↔BI e g x t ss.length ns.length=true/\lg x ss=true/\km e g ns=true/\ns.all (fun nd=>dQ ns (dY nd.path))=true/\∀nd∈ns,∀i,vN nd i->live ss i=true:=by
 rw[mw,fu,fu,ao3,aq3];exact Iff.rfl
def Fi{i:Int}:live ss i=true↔∃z∈ss,z.1=i:=by
 rw[live,Ob];simp
theorem u9:∀a:List UInt8,Op.bytesLess a a=false
 |[]=>rfl
 |x::a=>by simp[Op.bytesLess,u9 a,Zb]
theorem yX:∀{a b c:List UInt8},Op.bytesLess a b=true->Op.bytesLess b c=true->Op.bytesLess a c=true
 |_,[],_,h,_=>by simp[Op.bytesLess]at h
 |_,_::_,[],_,h=>by simp[Op.bytesLess]at h
 |[],_::_,_::_,_,_=>rfl
 |x::a,y::b,z::c,h,k=>by simp only[Op.bytesLess,Jc,jg,fu,NC]at h k⊢;rcases h with h|⟨rfl,h⟩;{rcases k with k|⟨rfl,k⟩;{exact .inl (UInt8.lt_trans h k)};{exact .inl h}};{rcases k with k|⟨rfl,k⟩;{exact .inl k};{exact .inr ⟨rfl,yX h k⟩}}
theorem PK:∀{a b:List UInt8},Op.bytesLess a b=false->a≠b->Op.bytesLess b a=true
 |[],[],_,h=>absurd rfl h
 |[],_::_,h,_=>by simp[Op.bytesLess]at h
 |_::_,[],_,_=>rfl
 |x::a,y::b,h,cg=>by
  simp only[Op.bytesLess,Bool.or_eq_false_iff,CG]at h;simp only[Op.bytesLess,Jc,jg,fu,NC];by_cases hxy:x=y;{
 subst hxy
 right
 refine⟨rfl,PK ?_ (fun e=>cg (by rw[e]))⟩;simpa using h.2};{exact .inl (UInt8.lt_of_le_of_ne (Za.1 h.1) (Ne.symm hxy))}
theorem yY{n:Nat}{lt:Nat->Nat->Bool}(h:jR n lt=true)(tr:∀i j k,lt i j=true->lt j k=true->lt i k=true):∀(j i:Nat),j<n->i<j->lt i j=true:=by
 have hs:∀j,j+1<n->lt j (j+1)=true:=fun j hj=>by have:=iT.1 h (j+1) (yv.2 hj);simpa using this
 intro j
 induction j with
 |zero=>intro i _ hi;omega
 |succ j ih=>
  intro i hj hi;by_cases e:i=j;{subst e;exact hs i hj};{exact tr i j (j+1) (ih i ae ae) (hs j hj)}
def IM(h:lg x ss=true):∀(i j:Nat)(s s':aR),ss[i]?=some s->ss[j]?=some s'->i<j->s.1≠s'.1:=by
 intro i j s s' hi hj kF;rw[lg,fu]at h;have:=yY h.2 (fun i j k h1 h2=>by simp at h1 h2⊢;omega) j i (aT.1 hj).1 kF;simp only[gj,hi,hj,qI,jg]at this;omega
def mY{m:LI}:(!leB l m)=true↔Op.bytesLess (aN m).toList (aN l).toList=true:=by
 simp only[leB,Bool.not_eq_true',Bool.or_eq_false_iff,Uh];constructor;{rintro⟨h1,h2⟩;exact PK h1 h2};{intro h;refine⟨?_,fun e=>?_⟩;{rw[EG];intro h2;have:=yX h h2;rw[u9]at this;cases this};{rw[e,u9]at h;cases h}}
def IV(h:km e g ns=true):∀(i j:Nat)(z z':aB),ns[i]?=some z->ns[j]?=some z'->i<j->z.path≠z'.path:=by
 intro i j z z' hi hj kF;rw[km,fu]at h;have:=yY h.2 (fun i j k h1 h2=>mY.2 (yX (mY.1 h1) (mY.1 h2))) j i (aT.1 hj).1 kF;simp only[gj,hi,hj,qI]at this;intro e;rw[e,mY,u9]at this;cases this
def JS(h:lg x ss=true)(hx:x<=4611686018427387904):∀s∈ss,0<=s.1/\s.1<18446744073709551616:=by
 rw[lg,fu,iT]at h;have H:=(lW ss (0,0,[]) (D8 x)).1 fun i hi=>h.1 i (yv.2 hi);intro s hs;have:=H s hs;simp only[D8,fu,jg]at this;omega
theorem aO4{p q:OA}{c n d m:Nat}(en:Hid (ss.length=n))(em:Hid (ns.length=m)){w:World}(h:nI w (.S p n c) ss)(hN:qz w (.S q m d) ns)(hn:n<=1048576)(hm:m<=1048576)(qi:Hid (∀s∈ss,s.2.2.length<=1048576/\∀e∈s.2.2,aM e.2/\e.2.length<=1048576))(fS:Hid (∀nd∈ns,aM nd.path/\nd.path.length<=1048576/\nd.value.length<=1048576/\nd.holders.length<=1048576/\nd.watchers.length<=1048576))(OJ:Hid (∀nd∈ns,(∀i∈nd.holders,0<=i/\i<18446744073709551616)/\∀i∈nd.watchers,0<=i/\i<18446744073709551616))(hou:Hid (∀nd∈ns,0<=nd.owner/\nd.owner<18446744073709551616))(GO:ML w)(eB:Hid (mw e g x t ss ns=B)):Cp 143 #[gh e g x t (.S p n c) (.S q m d)] w fun r w'=>r=.returned (.bool B)/\Bw w w':=by
 have HR:=af fun(w':World)(hb:Bw w w')=>ah (h.below hb) (ah (hN.below hb) (GO.below hb));have HI:Hid (B=true↔BI e g x t n m=true/\lg x ss=true/\km e g ns=true/\ns.all (fun nd=>dQ ns (dY nd.path))=true/\∀nd∈ns,∀i,vN nd i->live ss i=true):=by show _↔_;rw[<-aa eB,DW,aa en,aa em]
 obtain⟨T1,E1⟩:∃T,Hid (BI e g x t n m=T):=⟨_,bq⟩;obtain⟨T2,E2⟩:∃T,Hid (lg x ss=T):=⟨_,bq⟩;obtain⟨T3,E3⟩:∃T,Hid (km e g ns=T):=⟨_,bq⟩;obtain⟨T4,E4⟩:∃T,Hid (ns.all (fun nd=>dQ ns (dY nd.path))=T):=⟨_,bq⟩;obtain⟨W,hW⟩:=au (w.alloc (.cells #[.U e,.U g,.U x,.I t,.S p n c,.S q m d] 32));have bW:=dO hW;have uY:jv W w.heap.size e g x t (.S p n c) (.S q m d):=by rw[hW];simp[jv]
 have WV:=af uY;go_enter func143,ntmps143;go_wp2_with fail;rw[<-hW];refine(Rn hn hm E1).mono ?_;rintro r w1⟨rfl,aA⟩;have b1:=aj bW aA;cases T1 with
 |false=>
  have eF:B=false:=by rw[EG];intro hB;have:=(HI.1 hB).1;rw[aa E1]at this;cases this
  subst eF;go_wp2;go_ret;exact⟨rfl,b1⟩
 | true=>
  obtain⟨i0,i1,i2,i3,i4,i5⟩:=WV.below aA;go_wp2_with fail;refine(xI en (aa HR _ b1).1 hn qi (aa HR _ b1).2.2 E2).mono ?_;rintro r w2⟨rfl,aF⟩;have b2:=aj b1 aF;cases T2 with
  |false=>
   have eF:B=false:=by rw[EG];intro hB;have:=(HI.1 hB).2.1;rw[aa E2]at this;cases this
   subst eF;go_wp2;go_ret;exact⟨rfl,b2⟩
  | true=>
   replace i0:=ag i0 aF;replace i1:=ag i1 aF;replace i2:=ag i2 aF;replace i3:=ag i3 aF;replace i4:=ag i4 aF;replace i5:=ag i5 aF;go_wp2_with fail;refine(DK em (aa HR _ b2).2.1 hm fS (aa HR _ b2).2.2 E3).mono ?_;rintro r w3⟨rfl,bf⟩;have b3:=aj b2 bf;cases T3 with
   |false=>
    have eF:B=false:=by rw[EG];intro hB;have:=(HI.1 hB).2.2.1;rw[aa E3]at this;cases this
    subst eF;go_wp2;go_ret;exact⟨rfl,b3⟩
   | true=>
    replace i0:=ag i0 bf;replace i1:=ag i1 bf;replace i2:=ag i2 bf;replace i3:=ag i3 bf;replace i4:=ag i4 bf;replace i5:=ag i5 bf;have hx:x<=4611686018427387904:=by have:=aa E1;simp only[BI,jg]at this;exact this.2.2.1
    have H1:=af (JS E2 hx);have H2:=af (IM E2);have H3:=af (IV E3);go_wp2_with fail;refine(tT en em (aa HR _ b3).1 (aa HR _ b3).2.1 hn hm H1 H2 fS OJ H3).mono ?_;rintro r w4⟨b,bs,bn,SB,NB,HB,UB,rfl,cR,fk⟩;have b4:=aj b3 fk;have pY:=af cR;go_wp2_with fail;refine(Sl pY (fun nd br=>⟨(aa fS nd br).1,(aa fS nd br).2.1⟩) E4).mono ?_;rintro r w5⟨rfl,dS⟩;have b5:=aj b4 dS;cases T4 with
    |false=>
     have eF:B=false:=by rw[EG];intro hB;have:=(HI.1 hB).2.2.2.1;rw[aa E4]at this;cases this
     subst eF;go_wp2;go_ret;exact⟨rfl,b5⟩
    |true=>
     have cw4:=af (pY.below dS);go_wp2_with fail;refine(Ha cw4 (fun nd br=>⟨(aa fS nd br).1,(aa fS nd br).2.2.2⟩) hou em hm en).mono ?_;rintro r w6⟨nb,k,D,s,rfl,oD,sD,hs,jX⟩;have b6:=aj b5 jX;have hlen:∀ty,(Builtin.len_ #[118] ty #[.map (some nb)]).run prog w6=.ok (.I (Maps.size D)) w6:=fun ty=>oD.len underlying118 ty;have iO:Maps.size D=0↔s=[]:=sD.bj0 oD.isMap (fun es ee p hp=>by obtain⟨es',e',_,hk⟩:=oD.entries iI;rw[ee]at e';cases e';exact hk p hp)
     have hB:B=true↔s=[]:=by rw[aa HI];constructor;{rintro⟨_,_,_,_,h5⟩;apply List.eq_nil_iff_forall_not_mem.2;intro i hi;obtain⟨⟨nd,br,hN⟩,la⟩:=(hs i).1 hi;exact la ((Fi).1 (h5 nd br i hN))};{intro Ml;refine⟨E1,E2,E3,E4,fun nd br i hN=>?_⟩;rw[Fi];by_cases hh:∃z∈ss,z.1=i;{exact hh};{have:=(hs i).2 ⟨⟨nd,br,hN⟩,hh⟩;rw[Ml]at this;cases this}}
     have hb:((Maps.size D:Int)==0)=B:=by rw[Jg,hB,<-iO];simp
     go_wp2;go_ret;exact⟨rfl,b6⟩
def gI(s:aR):aR:=(s.1,0,[])
def iG(nd:aB):aB:={nd with watchers:=[]}
def cY{w w':World}{R:Value->Option (DataW Unit×List MemPlace)}{b n:Nat}(h:w.ownsMap prog k R b n D)(K:∀es c,w.heap[b]?=some (.map es c)->w'.heap[b]?=some (.map es c)):w'.ownsMap prog k R b n D:=by
 obtain⟨es,clock,h1,h2⟩:=h;exact⟨es,clock,K _ _ h1,h2⟩
def nH(w w':World):Prop:=(∀(z:Nat)(cs:Array Value)(ty:TypeId),w.heap[z]?=some (.cells cs ty)->w'.heap[z]?=some (.cells cs ty))/\∀(z:Nat)(es:Array MapEntry)(c:Nat),w.heap[z]?=some (.map es c)->w'.heap[z]?=some (.map es c)
def cT.same{w0 w w':World}{SB NB HB UB:List Nat}(h:cT w0 w b bs bn e g x t ss ns SB NB HB UB)(K:nH w w'):cT w0 w' b bs bn e g x t ss ns SB NB HB UB:=by
 refine⟨K.1 _ _ _ h.hd,⟨h.tI.len,?_,fun i s gb hs hg=>?_,h.tI.gy⟩,⟨h.gy.len,h.gy.CJ,h.gy.CH,?_,fun i nd gb hh uu hs hg h1 h2=>?_,h.gy.gy,h.gy.yQ⟩,h.lo,h.yQ⟩;{obtain⟨D,o,m⟩:=h.tI.own;exact⟨D,cY o (K.2 _),m⟩};{obtain⟨q0,u,q1,q2⟩:=h.tI.blk i s gb hs hg;exact⟨q0,u,K.1 _ _ _ q1,q2⟩};{obtain⟨D,o,m⟩:=h.gy.own;exact⟨D,cY o (K.2 _),m⟩};{obtain⟨q0,q1,q2,⟨V,q3,q4⟩,⟨D1,o1,m1⟩,⟨D2,o2,m2⟩⟩:=h.gy.blk i nd gb hh uu hs hg h1 h2;exact⟨q0,q1,q2,⟨V,K.1 _ _ _ q3,q4⟩,⟨D1,cY o1 (K.2 _),m1⟩,⟨D2,cY o2 (K.2 _),m2⟩⟩}
def nH.grown{w w':World}(hg:w.grownBy w' none):nH w w':=⟨fun z cs ty h=>(hg.block z (aL h) (by simp)).trans h,fun z es c h=>(hg.block z (aL h) (by simp)).trans h⟩
def nH.next{w w':World}{r:Nat}{R:Value->Option (DataW Unit×List MemPlace)}{b n:Nat}{iM:Nat}(hr:w.ranges P k R b r n D left iM)(hg:w.grownBy w' (some r)):nH w w':=by
 obtain⟨es,clock,since,seen,c0,-,-,-,-,hi,-⟩:=hr;refine⟨fun z cs ty h=>(hg.block z (aL h) ?_).trans h,fun z es c h=>(hg.block z (aL h) ?_).trans h⟩<;>
 {intro e;cases e;rw[hi]at h;cases h}
def ua{w w':World}{R:Value->Option (DataW Unit×List MemPlace)}{b r n:Nat}{iM:Nat}(h:w.ranges P k R b r n D left iM)(h1:w'.heap[b]?=w.heap[b]?)(h2:w'.heap[r]?=w.heap[r]?):w'.ranges P k R b r n D left iM:=by
 obtain⟨es,clock,since,seen,c0,hb,F,hs,hD,hr,rest⟩:=h;exact⟨es,clock,since,seen,c0,h1.trans hb,F,hs,hD,h2.trans hr,rest⟩
def cT.aM2{w0 w w':World}{SB NB HB UB:List Nat}(h:cT w0 w b bs bn e g x t ss ns SB NB HB UB){s:aR}{gs:Nat}(hs:ss[i]?=some s)(Mn:SB[i]?=some gs)(d:Int)(u:Value)(q:List Ev)(hb:w'.heap[gs]?=some (.cells #[.U s.1,.I d,u] 86))(hu:pX w0 u q)(hk:∀z,z≠gs->w'.heap[z]?=w.heap[z]?):cT w0 w' b bs bn e g x t (ss.set i (s.1,d,q)) ns SB NB HB UB:=by
 have zy:=(aT.1 hs).1;obtain⟨q0,u0,q1,-⟩:=h.tI.blk i s gs hs Mn;have hm:∀{k:TypeId}{R:Value->Option (DataW Unit×List MemPlace)}{z n:Nat}{D:DataW Unit},w.ownsMap prog k R z n D->w'.heap[z]?=w.heap[z]?:=fun{k R z n D}o=>hk _ (fun e=>gJ o q1 e.symm);have hc:∀{z:Nat}{cs:Array Value}{ty:TypeId},w.heap[z]?=some (.cells cs ty)->ty≠86->w'.heap[z]?=some (.cells cs ty):=fun{z cs ty}hz ht=>(hk _ (fun e=>by rw[e,q1]at hz;simp at hz;exact ht hz.2.symm)).trans hz
 refine⟨hc h.hd aU,⟨by simp[h.tI.len],?_,fun j s' gb tv sU=>?_,h.tI.gy⟩,⟨h.gy.len,h.gy.CJ,h.gy.CH,?_,fun i nd gb hh uu hs hg h1 h2=>?_,h.gy.gy,h.gy.yQ⟩,h.lo,h.yQ⟩;{
 obtain⟨D,o,m⟩:=h.tI.own;refine⟨D,by rw[mB];exact cY o (fun es c hh=>(hm o).trans hh),?_⟩;have e:List.zipWith (fun(s:aR)g=>(Lit.U s.1,g)) (ss.set i (s.1,d,q)) SB=List.zipWith (fun(s:aR)g=>(Lit.U s.1,g)) ss SB:=by refine EY fun j=>?_;rw[jT,jT,qH];by_cases ej:i=j;{subst ej;rw[bN rfl,bN zy,hs,Mn]};{simp[ej]}
 rw[e];exact m};{rw[qH]at tv;by_cases ej:i=j;{subst ej;rw[Mn]at sU;cases sU;simp[zy]at tv;subst tv;exact⟨q0,u,hb,hu⟩};{simp[ej]at tv;obtain⟨p0,u',p1,p2⟩:=h.tI.blk j s' gb tv sU;refine⟨p0,u',(hk _ (fun e=>?_)).trans p1,p2⟩;have l1:=(aT.1 Mn).1;have l2:=(aT.1 sU).1;have Hx:=Ez.1 h.tI.gy;have v1:=(aT.1 Mn).2;have v2:=(aT.1 sU).2;rcases yA i j with hh|hh|hh;{exact Hx i j l1 l2 hh (by rw[v1,v2,e])};{exact ej hh};{exact Hx j i l2 l1 hh (by rw[v1,v2,e])}}};{obtain⟨D,o,m⟩:=h.gy.own;exact⟨D,cY o (fun es c hh=>(hm o).trans hh),m⟩};{obtain⟨q0,q1,q2,⟨V,q3,q4⟩,⟨D1,o1,m1⟩,⟨D2,o2,m2⟩⟩:=h.gy.blk i nd gb hh uu hs hg h1 h2;exact⟨q0,q1,q2,⟨V,hc q3 aU,q4⟩,⟨D1,cY o1 (fun es c hh=>(hm o1).trans hh),m1⟩,⟨D2,cY o2 (fun es c hh=>(hm o2).trans hh),m2⟩⟩}
def IU{l:List Nat}(h:l.Nodup){a:Nat}(hi:l[i]?=some a)(hj:l[j]?=some a):i=j:=by
 have l1:=(aT.1 hi).1;have l2:=(aT.1 hj).1;have Hx:=Ez.1 h;have v1:=(aT.1 hi).2;have v2:=(aT.1 hj).2;rcases yA i j with hh|hh|hh;{exact absurd (v1.trans v2.symm) (Hx i j l1 l2 hh)};{exact hh};{exact absurd (v2.trans v1.symm) (Hx j i l2 l1 hh)}
def cT.aX2{w0 w w':World}{SB NB HB UB:List Nat}(h:cT w0 w b bs bn e g x t ss ns SB NB HB UB){ub:Nat}(hs:ns[i]?=some nd)(hub:UB[i]?=some ub)(hb:w'.ownsMap prog 28 (unitElem (H:=Unit)) ub 0 (.map []))(hk:∀z,z≠ub->w'.heap[z]?=w.heap[z]?):cT w0 w' b bs bn e g x t ss (ns.set i (iG nd)) SB NB HB UB:=by
 have zy:=(aT.1 hs).1;have Wd:=h.yQ;simp only[vg,jA,gR,Ey]at Wd;obtain⟨⟨-,d1,d2⟩,⟨d3,d4⟩,d5⟩:=Wd;rw[yk]at d5;obtain⟨-,d6,d7⟩:=d5;have hum:ub∈UB:=aS hub;obtain⟨gi,Sb,ui,z1,z2,z3⟩:=h.gy.at hs;rw[hub]at z3;cases z3;obtain⟨-,-,-,-,-,⟨D0,o0,-⟩⟩:=h.gy.blk i nd gi Sb ub hs z1 z2 hub;have hc:∀{z:Nat}{cs:Array Value}{ty:TypeId},w.heap[z]?=some (.cells cs ty)->w'.heap[z]?=some (.cells cs ty):=fun{z cs ty}hz=>(hk _ (gJ o0 hz)).trans hz;refine⟨hc h.hd,⟨h.tI.len,?_,fun j s' gb tv sU=>?_,h.tI.gy⟩,⟨by simp[h.gy.len],by simp[h.gy.CJ],by simp[h.gy.CH],?_,fun j nd' gb hh uu tv hg h1 h2=>?_,h.gy.gy,h.gy.yQ⟩,h.lo,h.yQ⟩;{obtain⟨D,o,m⟩:=h.tI.own;exact⟨D,cY o (fun es c hh=>(hk bs (fun e=>d2 (by rw[e];exact hum))).trans hh),m⟩};{obtain⟨q0,u,q1,q2⟩:=h.tI.blk j s' gb tv sU;exact⟨q0,u,hc q1,q2⟩};{
 obtain⟨D,o,m⟩:=h.gy.own;refine⟨D,by rw[mB];exact cY o (fun es c hh=>(hk bn (fun e=>d4 (by rw[e];exact hum))).trans hh),?_⟩;have e:List.zipWith (fun(nd:aB)g=>(bQ nd.path,g)) (ns.set i (iG nd)) NB=List.zipWith (fun(nd:aB)g=>(bQ nd.path,g)) ns NB:=by
  refine EY fun j=>?_;rw[jT,jT,qH];by_cases ej:i=j;{
 subst ej;rw[bN rfl,bN zy,hs,z1]
 rfl}
  {simp[ej]}
 rw[e];exact m};{have cg:hh≠ub:=fun e=>d7 hh (aS h1) ub hum e;rw[qH]at tv;by_cases ej:i=j;{subst ej;rw[hub]at h2;cases h2;simp[zy]at tv;subst tv;obtain⟨q0,q1,q2,⟨V,q3,q4⟩,⟨D1,o1,m1⟩,-⟩:=h.gy.blk i nd gb hh ub hs hg h1 hub;exact⟨q0,q1,q2,⟨V,hc q3,q4⟩,⟨D1,cY o1 (fun es c hh=>(hk _ cg).trans hh),m1⟩,⟨_,hb,dD.nil⟩⟩};{simp[ej]at tv;obtain⟨q0,q1,q2,⟨V,q3,q4⟩,⟨D1,o1,m1⟩,⟨D2,o2,m2⟩⟩:=h.gy.blk j nd' gb hh uu tv hg h1 h2;exact⟨q0,q1,q2,⟨V,hc q3,q4⟩,⟨D1,cY o1 (fun es c hh=>(hk _ cg).trans hh),m1⟩,⟨D2,cY o2 (fun es c hh=>(hk _ (fun e=>ej (IU d6 hub (e▸h2)))).trans hh),m2⟩⟩}}
def nW(f:aR->aR)(left:Lit->Bool)(ss:List aR):List aR:=ss.map fun s=>if left (.U s.1)then s else f s
def nY(left:Lit->Bool)(ns:List aB):List aB:=ns.map fun s=>if left (bQ s.path)then s else iG s
def Be(h:∀s∈ss,left (.U s.1)=true):nW f left ss=ss:=by
 unfold nW;rw[yz (g:=id) (fun s hs=>by rw[bN (h s hs)];rfl),Uc]
def MC(h:∀s∈ns,left (bQ s.path)=true):nY left ns=ns:=by
 unfold nY;rw[yz (g:=id) (fun s hs=>by rw[bN (h s hs)];rfl),Uc]
def Iy(h:∀k,left k=false):nW f left ss=ss.map f:=by
 unfold nW;exact yz fun s _=>by rw[bH (by rw[h];simp)]
def Vg(h:∀k,left k=false):nY left ns=ns.map iG:=by
 unfold nY;exact yz fun s _=>by rw[bH (by rw[h];simp)]
def DO{s:aR}(hs:ss[i]?=some s)(hl:left (.U s.1)=true):(nW f left ss)[i]?=some s:=by
 unfold nW;rw[kU,hs,Cy,bN hl]
def DP{ss:List aB}{s:aB}(hs:ss[i]?=some s)(hl:left (bQ s.path)=true):(nY left ss)[i]?=some s:=by
 unfold nY;rw[kU,hs,Cy,bN hl]
theorem DM(hd:∀(i j:Nat)(s s':aR),ss[i]?=some s->ss[j]?=some s'->i<j->s.1≠s'.1){s:aR}(hs:ss[i]?=some s):(nW f left ss).set i (f s)=nW f (fun z=>left z&&!z.sameKey (.U s.1)) ss:=by
 have zy:=(aT.1 hs).1;refine EY fun j=>?_;rw[qH];unfold nW;by_cases ej:i=j;{subst ej;have hkk:(Lit.U s.1).sameKey (.U s.1)=true:=WideAt.sameKey_self (by trivial);rw[bN rfl,bN (by simpa using zy),kU,hs,Cy,bH (by simp[hkk])]};{
 simp only[ej,wu];rw[kU,kU];cases hj:ss[j]? with
 |none=>rfl
 | some s'=>
  have cg:s'.1≠s.1:=by rcases yA i j with hh|hh|hh;{exact fun e=>hd i j s s' hs hj hh e.symm};{exact absurd hh ej};{exact hd j i s' s hj hs hh}
  have:(Lit.U s'.1).sameKey (.U s.1)=false:=by
   cases hq:(Lit.U s'.1).sameKey (.U s.1)with
   |false=>rfl
   |true=>rw[WideAt.sameKey_iff (by trivial)]at hq;simp at hq;exact absurd hq cg
  simp[this]}
theorem QG{ss:List aB}(fS:∀nd∈ss,aM nd.path)(hd:∀(i j:Nat)(s s':aB),ss[i]?=some s->ss[j]?=some s'->i<j->s.path≠s'.path){s:aB}(hs:ss[i]?=some s):(nY left ss).set i (iG s)=nY (fun z=>left z&&!z.sameKey (bQ s.path)) ss:=by
 have zy:=(aT.1 hs).1;refine EY fun j=>?_;rw[qH];unfold nY;by_cases ej:i=j;{subst ej;have hkk:=lx (fS s (aS hs)) (fS s (aS hs));rw[bN rfl,bN (by simpa using zy),kU,hs,Cy,bH (by simp[hkk])]};{
 simp only[ej,wu];rw[kU,kU];cases hj:ss[j]? with
 |none=>rfl
 |some s'=>
  have cg:s'.path≠s.path:=by rcases yA i j with hh|hh|hh;{exact fun e=>hd i j s s' hs hj hh e.symm};{exact absurd hh ej};{exact hd j i s' s hj hs hh}
  simp[lx (fS s' (aS hj)) (fS s (aS hs)),cg]}
def Am{w:World}{mty kt et:TypeId}{R:Value->Option (DataW Unit×List MemPlace)}{b n:Nat}(hm:P.underlying mty=some (.map kt et))(h:w.ownsMap P k R b n D)(ty:TypeId):∃v w',(Builtin.clear_ #[mty] ty #[.map (some b)]).run P w=.ok v w'/\w'.ownsMap P k R b 0 (.map [])/\w.grownBy w' (some b)/\w'.heap.size=w.heap.size:=by
 obtain⟨es,clock,hb,F,hs,hD⟩:=h;have dI:∃v,(Builtin.clear_ #[mty] ty #[.map (some b)]).run P w=.ok v {w with heap:=w.heap.setIfInBounds b (.map #[] clock)}:=by simp[Builtin.clear_,run_underlying hm,MapKept.run_getObj_map hb,MapKept.run_setObj_map _ hb,Result.andThen]
 obtain⟨v,hv⟩:=dI;refine⟨v,_,hv,?_,⟨rfl,rfl,rfl,ai,fun i _ cg=>(MapKept.heap_set hb).2 i (fun e=>cg (by rw[e]))⟩,ai⟩;exact⟨#[],clock,(MapKept.heap_set hb).1,⟨ai,MapKept.stamped_empty _,ai⟩,jS _,rfl⟩
end Go.Proofs.YtjjnidignljppaaGreatDoor
