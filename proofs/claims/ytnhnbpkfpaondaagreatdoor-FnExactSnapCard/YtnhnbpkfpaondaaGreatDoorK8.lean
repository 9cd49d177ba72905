import Derived.Test.YtnhnbpkfpaondaaGreatDoorK3
import Derived.Test.YtnhnbpkfpaondaaGreatDoorK7
import Derived.Lib.LastIndexByte
import Derived.Laws.IdiomRangeMap
import Derived.Lib.ConvBytes
namespace Go.Proofs.YtnhnbpkfpaondaaGreatDoor
set_option maxHeartbeats 12800000
set_option linter.all false
set_option maxRecDepth 100000
set_option linter.defProp false
open Go.ChangeShapes Go.WideShapes Go.ChangeAt Go.RowKit Go.Maps Go.Proofs.Tryz
def jI:Keyed prog 27:=int_keyed underlying27
def ox:Keyed prog 9:=string_keyed underlying9
def ni{i:Int}(h:0<=i/\i<2^64):(Lit.U i).wf=true:=by
 simp only[Lit.wf,IntKind.min,IntKind.max,IntKind.signed,IntKind.bits,fk,jj];simp;omega
variable {w w' w0 w1 w2 X:World}{row:Option Nat}{c n bs j b g bn i h u m cap M kx:Nat}{ids l l0 xs:LI}{Dd Ds D D1 D2 d:DataW Unit}{s:ByteArray}{P:Program}{k t:TypeId}{cs cur:Array Value}{ss:List aQ}{SB:List Nat}{ns:List aD}{nd:aD}{e ow mo ep ge:Int}{o:Oper}{x:Operand}{ops:Array Oper}{a:Act}{K:Act->World->Prop}{E p:Prop}{kl:Lit}{ps:List MemPlace}{v r V S N v0:Value}{q:OA}{A A2:List Lf}{B:Bool}{left:Lit->Bool}{f:aQ->aQ}
def aC(h:Bw w w')(row:Option Nat):w.grownBy w' row:=⟨h.os,h.tape,h.output,h.size,λi hi _=>h.block i hi⟩
def cO{B:Nat}(h:Below B w0 w)(hg:w.grownBy w' row)(hB:B<=w.heap.size)(hr:∀j,row=some j->B<=j):Below B w0 w':=
 ⟨hg.os.trans h.os,hg.tape.trans h.tape,hg.output.trans h.output,fu h.size hg.size,λk hk=>(hg.block k (iq hk hB) (λe=>aI (hr k e.symm))).trans (h.block k hk)⟩
theorem JZ{p:OA}(en:Le ids n)(h:oK w (.S p n c) ids)(hn:Mg n)(hU:Hid (∀i∈ids,0<=i/\i<2^64)):Calls prog 114 #[.S p n c] w λr w'=>∃D,r=.returned (.map (some w.heap.size))/\w'.ownsMap prog 27 unitElem w.heap.size n D/\dL D ids/\Bw w w'/\w.heap.size<w'.heap.size:=by
 have HR:=ag λ(w':World)(hb:Bw w w')=>h.below hb;have hmm:=@WK prog
 go_in
 go_wp2
 go_loopw[9](λiv wr=>∃(k:Nat)(D:DataW Unit),k<=n/\iv=.I k/\wr.ownsMap prog 27 unitElem w.heap.size k D/\Hid (dL D (ids.take k))/\Bw w wr) (λiv _=>n-(intOf iv).toNat)
 exact⟨0,_,gr _,rfl,World.ownsMap_made _ _ _ _,dL.nil,aA.alloc ay _⟩;{
 obtain⟨k,D,hk,rfl,bR,yh,aM⟩:=hrel;by_cases bf:k<n;{
 have bL:=aU k n;have dT:k<ids.length:=ae en▸bf;obtain⟨b,o,rfl,cT⟩:∃b o,p=some (Ad b o)/\wr.cell? (Ad b (o+k))=some (.U (ids.getD k 0)):=by
  let⟨p',c',ev,hd⟩:=ae HR _ aM
  obtain⟨rfl,-,-⟩:=ir ev;rcases hd with h0|⟨b,o,h1,h2⟩;{rw[h0]at dT;simp at dT};{exact⟨b,o,h1,h2 k dT⟩}
 have e1:ids.take (k+1)=ids.take k++[ids.getD k 0]:=by rw[od,gj,aY dT];rfl
 have hy:=ae hU (ids.getD k 0) (by rw[gj,aY dT];exact zF dT);have Xj:=yh.put bR.isMap (ids.getD k 0) (.agg []);rw[<-e1]at Xj;have tJ:=ag Xj
 let⟨y,ey⟩:=aL (ids.getD k 0)
 rw[ey]at cT hy tJ;have cW:keyOf prog 27 (.U y)=some (.U y):=keyOf_int_mk underlying27 (ni hy);go_wp2_with(first
  |(at_mapUpdate;refine wpList_mapUpdate_own _ rfl _ _ _ 141 rfl 27 _ jI underlying141 unitElem w.heap.size k _ rfl bR iB _ _ _ rfl rfl cW (.agg []) [] unitElem_mk ?_;intro w1 Ai bj2)
  |go_in)
 go_roundw;exact⟨k+1,_,af,by go_num,Ai,tJ,cO aM bj2 (WU (Nat.lt_of_le_of_lt ay bR.lt)) (λj hj=>by cases hj;exact iD _)⟩;exact cg};{
 have bL:=dB k n;have:k=n:=by omega
 subst this;have HS:=ae yh;rw[lD (ae en▸iD _)]at HS;go_wp2;go_ret;exact⟨rfl,D,bR,HS,aM,bR.lt⟩}}
theorem vN{bd nd ns:Nat}{sd ss:LI}(hd:w.ownsMap prog 27 unitElem bd nd Dd)(hs:w.ownsMap prog 27 unitElem bs ns Ds)(hsd:Hid (dL Dd sd))(hss:Hid (dL Ds ss))(bS:bd≠bs)(hn:nd<=2^62)(hm:ns<=1048576):Calls prog 160 #[.map (some bd),.map (some bs)] w λr w'=>∃D s,r=.returned (.tuple #[])/\w'.ownsMap prog 27 unitElem bd (nd+ns) D/\dL D s/\(∀i,i∈s↔i∈sd\/i∈ss)/\w.grownBy w' (some bd):=by
 have HS:=hs
 go_in
 go_wp2_with(first
  |(at_range;refine wpList_range_own _ rfl _ 141 rfl 27 _ jI underlying141 _ bs ns _ rfl hs ?_;intro w0 vY Rt U0)
  |go_in)
 go_frame
 go_loopw[4](λ_ wr=>∃(left:Lit->Bool)(kx k:Nat)(D:DataW Unit)(s:LI),wr.ranges prog 27 unitElem bs w.heap.size ns Ds left kx/\k+kx<=nd+ns/\wr.ownsMap prog 27 unitElem bd k D/\Hid (dL D s)/\Hid (∀i,i∈s↔i∈sd\/(i∈ss/\left (.U i)=false))/\w.grownBy wr (some bd)) (λ_ wr=>wr.rangeLeft bs w.heap.size)
 case atStart=>(
 refine⟨_,_,nd,Dd,sd,vY,?_,hd.kept Rt al,hsd,?_,Rt.but _⟩;{have:=hs.size_le;omega};{intro i;constructor;{exactλh=>.inl h};{rintro(h|⟨h1,h2⟩);{exact h};{rw[(ae hss (.U i)).2 ⟨i,h1,rfl⟩]at h2;cases h2}}})
 case round=>(
 obtain⟨left,kx,k,D,s,mZ,hkc,bR,yh,iV,hgw⟩:=hrel;go_wp2_with(first
  |(at_next;refine DV _ rfl _ rfl 27 jI underlying27 bs w.heap.size ns _ ss hss _ _ rfl mZ ?_ ?_)
  |go_in)
 {
 intro _ Fa;go_wp2
 go_end0
 refine⟨D,s,rfl,bR.mono af,yh,λi=>?_,hgw⟩;rw[ae iV i,Fa];simp};{
 intro x w1 wu hwx hx hlx uT bf gp ik Jt;have cC4:=hgw.andThen gp (λj hj=>by cases hj;exact Or.inl ay);have hr:=mZ.lt;have Ai:=bR.kept gp (λe=>by cases e;exact absurd hd.lt af);have cW:keyOf prog 27 (.U x)=some (.U x):=keyOf_int_mk underlying27 hwx;have Xj:=ag (yh.put bR.isMap x (.agg []));have bI8:Hid (∀i,i∈s++[x]↔i∈sd\/(i∈ss/\(λz=>left z&&!z.sameKey (.U x)) (.U i)=false)):=by
  intro i;rw[gu,ae iV i];simp only[nE];have hk:((Lit.U i).sameKey (.U x)=true)↔i=x:=by rw[WJ (by trivial)];simp
  by_cases e:i=x;{subst e;rw[hk.2 rfl];simp[hx]};{rw[show(Lit.U i).sameKey (.U x)=false by(rw[Ec];exactλh=>e (hk.1 h))];simp[e]}
 go_wp2_with(first
  |(at_mapUpdate;refine wpList_mapUpdate_own _ rfl _ _ _ 141 rfl 27 _ jI underlying141 unitElem bd k _ rfl (Ai.alloc _) iB _ _ _ rfl rfl cW (.agg []) [] unitElem_mk ?_;intro w2 Hq ar5)
  |go_in)
 have U6:=(uT.alloc _).kept ar5 (by simp;exactλe=>bS e.symm) (by simp;intro e;exact absurd hd.lt af);go_roundw;exact⟨_,wu,U6,k+1,af,_,Hq,_,Xj,bI8,(cC4.andThen (Qx _ _ none) (λj hj=>by cases hj)).andThen ar5 (λj hj=>by cases hj;exact Or.inr rfl)⟩
 case measure=>rw[U6.left_eq,mZ.left_eq];omega})
def jU:(aP l).data.toList=l.map (λn=>UInt8.ofNat n.toNat):=by rw[aP,Lh];rfl
def gQ:(aP l).size=l.length:=by
 show(aP l).data.size=_;rw[<-Array.length_toList,jU,fN]
def Sx(hB:aN l)(hj:j<(aP l).size):(((aP l)[j]'hj).toNat:Int)=l.getD j 0:=by
 have hl:j<l.length:=by rw[<-gQ];exact hj
 have e1:(aP l)[j]'hj=(aP l).data.toList[j]'(by rw[jU,fN];exact hl):=by rw[Array.getElem_toList];rfl
 rw[e1];simp only[jU,ak5];rw[gj,aY hl,sa];have:=hB l[j] (zF hl);rw[UInt8.toNat_ofNat'];omega
def MO(es:Hid (s=aP l))(en:s.size=n)(hB:Hid (aN l))(hn:n<=2097152):Calls prog 234 #[.string s,.int .u8 47] w λe w'=>((∃k:Nat,e=.returned (.I k)/\k<n/\Oi l n=k)\/(e=.returned (.I (-1))/\Oi l n=0/\∀j,j<n->l.getD j 0≠47))/\w'=w:=by
 have bj3:Hid (∀(j:Nat)(hj:j<s.size),((s[j]'hj).toNat:Int)=l.getD j 0):=by have e:=ae es;subst e;exactλj hj=>Sx hB hj
 subst en
 go_in
 go_wp2
 go_loop [5](λvi=>∃k:Nat,k<=s.size/\vi=.I ((k:Int)-1)/\Hid (Oi l s.size=Oi l k)/\Hid (∀j,k<=j->j<s.size->l.getD j 0≠47)) (λvi=>((RowKit.intOf vi)+1).toNat)
 case atStart=>exact⟨s.size,iD _,by first|rfl|go_num|(congr 1;omega),bD,λj h1 h2=>af⟩
 case round=>(
 obtain⟨k,hk,rfl,hh,hq⟩:=hrel;go_wp2;{
 have hc:(((s[k-1]).toNat:Int)==47)=true:=by assumption
 have k1:1<=k:=af;have e1:Oi l k=k-1:=by have:=uQ l (k-1);rw[show k-1+1=k by omega]at this;rw[this,bO];rw[<-ae bj3 (k-1) af];simpa using hc
 have e2:((k-1:Nat):Int)=(k:Int)-1:=af;go_ret;refine⟨.inl ⟨k-1,by rw[e2];rfl,af,by rw[ae hh,e1]⟩,rfl⟩};{
 have hc:(((s[k-1]).toNat:Int)==47)=false:=by assumption
 have k1:1<=k:=af;have e1:Oi l k=Oi l (k-1):=by have:=uQ l (k-1);rw[show k-1+1=k by omega]at this;rw[this,bH];rw[<-ae bj3 (k-1) af];simpa using hc
 have e3:l.getD (k-1) 0≠47:=by rw[<-ae bj3 (k-1) af];simpa using hc
 refine⟨⟨k-1,af,by congr 1;omega,hh.trans e1,λj h1 h2=>?_⟩,?_⟩;{by_cases ej:j=k-1;{rw[ej];exact e3};{exact hq j af h2}};simp[RowKit.intOf];omega};{have k0:k=0:=af;subst k0;go_ret;exact⟨.inr ⟨rfl,hh,λj hj=>ae hq j (gr _) hj⟩,rfl⟩})
def Q5(es:Hid (s=aP l))(en:s.size=n)(hB:Hid (aN l))(hn:n<=2097152):Calls prog 201 #[.string s,.int .u8 47] w λe w'=>((∃k:Nat,e=.returned (.I k)/\k<n/\Oi l n=k)\/(e=.returned (.I (-1))/\Oi l n=0/\∀j,j<n->l.getD j 0≠47))/\w'=w:=by
 go_in
 go_wp2_with fail;refine(MO es en hB hn).mono ?_;rintro e w'⟨hr,rfl⟩;rcases hr with⟨k,rfl,hk,hl⟩|⟨rfl,hl⟩;{have HL:=ag hl;go_wp2;go_ret;exact⟨.inl ⟨k,rfl,hk,HL⟩,rfl⟩};{have HL:=ag hl;go_wp2;go_ret;exact⟨.inr ⟨rfl,HL⟩,rfl⟩}
def sO(en:Le l n)(hB:Hid (aN l))(hn:Mg n):Calls prog 159 #[.string (aP l)] w λe w'=>e=.returned (.string (aP (eG l)))/\w'=w:=by
 let⟨s,es⟩:=aB (aP l)
 have hs:s.size=n:=by rw[es,gQ];exact ae en
 rw[<-es];have ES:=ag es;clear es
 go_in
 go_wp2_with fail;refine(Q5 ES hs hB af).mono ?_;rintro e w'⟨hr,rfl⟩;rcases hr with⟨k,rfl,hk,hl⟩|⟨rfl,hl,-⟩;{
 by_cases k0:k=0;{
 subst k0;have e1:eG l=[47]:=by rw[eG,ae en,hl,bO rfl]
 have E1:=ag e1;clear hl e1;go_wp2;go_ret;exact⟨by rw[ae E1];rfl,rfl⟩};{
 have e1:eG l=l.take k:=by rw[eG,ae en,hl,bH k0]
 have E1:=ag e1;clear e1;have g1:¬(k:Int)<1:=af;have g2:=iC k n;have g3:k<=s.size:=af;have ex:Hid (s.extract 0 k=aP (l.take k)):=by show _=_;rw[ae ES];apply aU0;apply WV.1;rw[jU,List.map_take,<-jU];simp[bF0]
 clear hl;go_wp2;go_ret;exact⟨by rw[ae E1,<-ae ex];rfl,rfl⟩}};{
 have e1:eG l=[47]:=by rw[eG,ae en,hl,bO rfl]
 have E1:=ag e1;clear hl e1;go_wp2;go_ret;exact⟨by rw[ae E1];rfl,rfl⟩}
structure wC(w0 w:World)(bs:Nat)(ss:List aQ)(SB:List Nat):Prop where
 len:SB.length=ss.length
 own:∃D,w.ownsMap prog 27 aZ bs ss.length D/\gK D (List.zipWith (λ(s:aQ)g=>(Lit.U s.1,g)) ss SB)
 blk:∀(i:Nat)(s:aQ)(g:Nat),ss[i]?=some s->SB[i]?=some g->w0.heap.size<=g/\∃u,w.heap[g]?=some (.cells #[.U s.1,.I s.2.1,u] 132)/\qG w0 u s.2.2
 qw:SB.Nodup
structure ui(w0 w:World)(bn:Nat)(ns:List aD)(NB HB UB:List Nat):Prop where
 len:NB.length=ns.length
 Q0:HB.length=ns.length
 QY:UB.length=ns.length
 own:∃D,w.ownsMap prog 9 aZ bn ns.length D/\gK D (List.zipWith (λ(nd:aD)g=>(cL nd.path,g)) ns NB)
 blk:∀(i:Nat)(nd:aD)(g h u:Nat),ns[i]?=some nd->NB[i]?=some g->HB[i]?=some h->UB[i]?=some u->w0.heap.size<=g/\w0.heap.size<=h/\w0.heap.size<=u∧
  (∃V,w.heap[g]?=some (.cells #[V,.U nd.owner,.I nd.mode,.map (some h),.U nd.aE,.U nd.gen,.map (some u)] 162)/\Rd w0 V nd.value)∧
  (∃D,w.ownsMap prog 27 unitElem h nd.holders.length D/\dL D nd.holders)/\(∃D,w.ownsMap prog 27 unitElem u nd.watchers.length D/\dL D nd.watchers)
 qw:NB.Nodup
 Ny:(bn::(HB++UB)).Nodup
def mr{R:Value->Option (DataW Unit×List MemPlace)}(h:w.ownsMap P k R b n D)(hg:w.heap[g]?=some (.cells cs t)):g≠b:=by
 rintro rfl;obtain⟨es,cl,hb,_⟩:=h;rw[hb]at hg;cases hg
def aR{o:Obj}(h:w.heap[g]?=some o):g<w.heap.size:=(Jg.1 h).1
def wC.kept(h:wC w0 w bs ss SB)(hg:w.grownBy w' row)(h1:some bs≠row)(h2:∀g∈SB,some g≠row):wC w0 w' bs ss SB:=by
 refine⟨h.len,?_,λi s g hi Jr=>?_,h.qw⟩;{
 let⟨D,hD,hM⟩:=h.own
 exact⟨D,hD.kept hg h1,hM⟩};{
 let⟨a1,u,a2,a3⟩:=h.blk i s g hi Jr
 exact⟨a1,u,(hg.block g (aR a2) (h2 g (aT Jr))).trans a2,a3⟩}
def ui.kept{NB HB UB:List Nat}(h:ui w0 w bn ns NB HB UB)(hg:w.grownBy w' row)(h1:some bn≠row)(h2:∀g∈NB,some g≠row)(h3:∀g∈HB++UB,some g≠row):ui w0 w' bn ns NB HB UB:=by
 refine⟨h.len,h.Q0,h.QY,?_,λi nd g hh u hi Jr hhi hui=>?_,h.qw,h.Ny⟩;{
 let⟨D,hD,hM⟩:=h.own
 exact⟨D,hD.kept hg h1,hM⟩};{
 let⟨a1,a2,a3,⟨V,a4,a5⟩,⟨D1,a6,a7⟩,⟨D2,a8,a9⟩⟩:=h.blk i nd g hh u hi Jr hhi hui
 exact⟨a1,a2,a3,⟨V,(hg.block g (aR a4) (h2 g (aT Jr))).trans a4,a5⟩,⟨D1,a6.kept hg (h3 _ (gu.2 (.inl (aT hhi)))),a7⟩,⟨D2,a8.kept hg (h3 _ (gu.2 (.inr (aT hui)))),a9⟩⟩}
def xy{α:Type}{l:List α}{x y:α}(h:(l++[x])[i]?=some y):l[i]?=some y\/(i=l.length/\x=y):=by
 by_cases hi:i<l.length;{rw[kR hi]at h;exact .inl h};{
 rw[nF af]at h
 right
 let⟨bf,e⟩:=aV.1 h
 simp at bf;refine⟨af,?_⟩;simpa[show i-l.length=0 by omega]using h}
def OG{α β γ:Type}(f:α->β->γ){l:List α}{m:List β}(h:m.length=l.length)(x:α)(y:β):List.zipWith f (l++[x]) (m++[y])=List.zipWith f l m++[f x y]:=by
 rw[ak4 af]
 rfl
def il{α β γ:Type}{f:α->β->γ}{l:List α}{m:List β}{z:γ}(h:z∈List.zipWith f l m):∃(i:Nat)(x:α)(y:β),l[i]?=some x/\m[i]?=some y/\z=f x y:=by
 obtain⟨i,hi,rfl⟩:=Dm h;rw[List.length_zipWith]at hi;refine⟨i,l[i]'(by omega),m[i]'(by omega),aY _,aY _,?_⟩;simp
def wC.empty(h:w.ownsMap prog 27 aZ bs 0 (.map [])):wC w0 w bs [] []:=
 ⟨rfl,⟨_,h,gK.nil⟩,λi s g hi=>by simp at hi,WT⟩
def ui.empty(h:w.ownsMap prog 9 aZ bn 0 (.map [])):ui w0 w bn [] [] [] []:=
 ⟨rfl,rfl,rfl,⟨_,h,gK.nil⟩,λi s g _ _ hi=>by simp at hi,WT,al⟩
def wC.lt(h:wC w0 w bs ss SB):∀g∈SB,g<w.heap.size:=by
 intro g hg
 let⟨i,hi⟩:=uL hg
 have hl:=(aV.1 hi).1;obtain⟨s,hs⟩:∃s,ss[i]?=some s:=⟨_,aY (h.len▸hl)⟩
 let⟨_,u,a2,_⟩:=h.blk i s g hs hi
 exact aR a2
def ui.at{NB HB UB:List Nat}(h:ui w0 w bn ns NB HB UB)(hi:ns[i]?=some nd):∃g hh u,NB[i]?=some g/\HB[i]?=some hh/\UB[i]?=some u:=by
 have hl:=(aV.1 hi).1;exact⟨_,_,_,aY (h.len▸hl),aY (h.Q0▸hl),aY (h.QY▸hl)⟩
def ui.lt{NB HB UB:List Nat}(h:ui w0 w bn ns NB HB UB):(∀g∈NB,g<w.heap.size)/\∀g∈HB++UB,g<w.heap.size:=by
 have key:∀i,i<ns.length->∃g hh u,NB[i]?=some g/\HB[i]?=some hh/\UB[i]?=some u/\g<w.heap.size/\hh<w.heap.size/\u<w.heap.size:=λi hi=>by
  let⟨nd,bu⟩:=lE hi
  let⟨g,hh,u,e1,e2,e3⟩:=h.at bu
  let⟨_,_,_,⟨V,a4,_⟩,⟨D1,a6,_⟩,⟨D2,a8,_⟩⟩:=h.blk i nd g hh u bu e1 e2 e3
  exact⟨g,hh,u,e1,e2,e3,aR a4,a6.lt,a8.lt⟩
 refine⟨λg hg=>?_,λg hg=>?_⟩;{
 let⟨i,hi⟩:=uL hg
 have hl:=(aV.1 hi).1
 let⟨g',_,_,e1,_,_,a,_,_⟩:=key i (h.len▸hl)
 rw[hi]at e1;cases e1;exact a};{
 rcases gu.1 hg with hg|hg;{
 let⟨i,hi⟩:=uL hg
 have hl:=(aV.1 hi).1
 let⟨_,g',_,_,e1,_,_,a,_⟩:=key i (h.Q0▸hl)
 rw[hi]at e1;cases e1;exact a};{
 let⟨i,hi⟩:=uL hg
 have hl:=(aV.1 hi).1
 let⟨_,_,g',_,_,e1,_,_,a⟩:=key i (h.QY▸hl)
 rw[hi]at e1;cases e1;exact a}}
def Gr{l:List Nat}{x:Nat}(h:l.Nodup)(hx:∀y∈l,y≠x):(l++[x]).Nodup:=by
 rw[BN];exact⟨h,al,λa ha b hb=>by simp at hb;subst hb;exact hx a ha⟩
def wC.step(h:wC w0 w bs ss SB)(s:aQ)(g:Nat)(hg:w.grownBy w1 none)(ZW:w.heap.size<=g)(hw:w0.heap.size<=w.heap.size)(u:Value)(hu:qG w0 u s.2.2)(hb:w1.heap[g]?=some (.cells #[.U s.1,.I s.2.1,u] 132))(hid:∀z∈ss,z.1≠s.1)(hM:gK D (List.zipWith (λ(s:aQ)g=>(Lit.U s.1,g)) ss SB))(hD:IsMap D)(bR:w2.ownsMap prog 27 aZ bs (ss.length+1) (D.put (.U s.1) (.lit (.I g))))(gI:w1.grownBy w2 (some bs)):wC w0 w2 bs (ss++[s]) (SB++[g]):=by
 have qg:bs<w.heap.size:=by obtain⟨D,hD,_⟩:=h.own;exact hD.lt
 refine⟨by simp[h.len],⟨_,by rw[gU];exact bR,?_⟩,λi z g' hi Jr=>?_,Gr h.qw (λy hy=>aI (h.lt y hy))⟩;{rw[OG _ h.len];refine hM.put hD (by trivial) (λp hp=>?_) g;obtain⟨i,x,y,hx,hy,rfl⟩:=il hp;intro e;simp only[Db,MC]at e;exact hid x (aT hx) e};{
 rcases xy hi with hi'|⟨e1,rfl⟩;{
 have hl:=(aV.1 hi').1;rw[kR (h.len▸hl)]at Jr
 let⟨a1,v,a2,a3⟩:=h.blk i z g' hi' Jr
 refine⟨a1,v,?_,a3⟩;have b1:=(hg.block g' (aR a2) al).trans a2;refine(gI.block g' (aR b1) ?_).trans b1
 let⟨D',hD',_⟩:=h.own
 have:=mr hD' a2;simpa using this};{rw[e1,<-h.len,nF ay]at Jr;simp at Jr;subst Jr;refine⟨af,u,?_,hu⟩;exact(gI.block _ (aR hb) bq).trans hb}}
structure mE(w0 w:World)(b bs bn:Nat)(e g x t:Int)(ss:List aQ)(ns:List aD)(SB NB HB UB:List Nat):Prop where
 hd:w.heap[b]?=some (.cells #[.U e,.U g,.U x,.I t,.map (some bs),.map (some bn)] 157)
 Ut:wC w0 w bs ss SB
 qw:ui w0 w bn ns NB HB UB
 lo:w0.heap.size<=b/\w0.heap.size<=bs/\w0.heap.size<=bn
 Ny:(bs::bn::(HB++UB)).Nodup
def mE.below{g x t:Int}{SB NB HB UB:List Nat}(h:mE w0 w b bs bn e g x t ss ns SB NB HB UB)(hb:Bw w w'):mE w0 w' b bs bn e g x t ss ns SB NB HB UB:=
 ⟨(hb.block b (aR h.hd)).trans h.hd,h.Ut.kept (aC hb none) al al,h.qw.kept (aC hb none) al al al,h.lo,h.Ny⟩
def ao(h:w.heap[g]?=some (.cells cs t))(i:Nat):w.cell? (Ad g i)=cs[i]?:=by
 unfold World.cell?;rw[h]
 rfl
def ui.step{NB HB UB:List Nat}(h:ui w0 w bn ns NB HB UB)(nd:aD)(g hb ub:Nat)(hg:w.grownBy w1 none)(ZW:w.heap.size<=g)(ZS:w.heap.size<=hb)(ZN:w.heap.size<=ub)(bS:hb≠ub)(hw:w0.heap.size<=w.heap.size)(V:Value)(hV:Rd w0 V nd.value)(hbk:w1.heap[g]?=some (.cells #[V,.U nd.owner,.I nd.mode,.map (some hb),.U nd.aE,.U nd.gen,.map (some ub)] 162))(hH:w1.ownsMap prog 27 unitElem hb nd.holders.length D1)(hHs:dL D1 nd.holders)(hU:w1.ownsMap prog 27 unitElem ub nd.watchers.length D2)(hUs:dL D2 nd.watchers)(hid:∀z∈ns,cL z.path≠cL nd.path)(hM:gK D (List.zipWith (λ(nd:aD)g=>(cL nd.path,g)) ns NB))(hD:IsMap D)(bR:w2.ownsMap prog 9 aZ bn (ns.length+1) (D.put (cL nd.path) (.lit (.I g))))(gI:w1.grownBy w2 (some bn)):ui w0 w2 bn (ns++[nd]) (NB++[g]) (HB++[hb]) (UB++[ub]):=by
 have yG:bn<w.heap.size:=by obtain⟨D,hD,_⟩:=h.own;exact hD.lt
 have bf:=h.lt;refine⟨by simp[h.len],by simp[h.Q0],by simp[h.QY],⟨_,by rw[gU];exact bR,?_⟩,λi z g' h' u' hi Jr hhi hui=>?_,Gr h.qw (λy hy=>aI (bf.1 y hy)),?_⟩;{rw[OG _ h.len];refine hM.put hD (by trivial) (λp hp=>?_) g;obtain⟨i,x,y,hx,hy,rfl⟩:=il hp;exactλe=>hid x (aT hx) e};{
 rcases xy hi with hi'|⟨e1,rfl⟩;{
 have hl:=(aV.1 hi').1;rw[kR (h.len▸hl)]at Jr;rw[kR (h.Q0▸hl)]at hhi;rw[kR (h.QY▸hl)]at hui
 let⟨a1,a2,a3,⟨V',a4,a5⟩,⟨E1,a6,a7⟩,⟨E2,a8,a9⟩⟩:=h.blk i z g' h' u' hi' Jr hhi hui
 have bj8:=h.Ny;rw[zG]at bj8;have n1:some h'≠some bn:=by intro e;cases e;exact bj8.1 (gu.2 (.inl (aT hhi)))
 have n2:some u'≠some bn:=by intro e;cases e;exact bj8.1 (gu.2 (.inr (aT hui)))
 have b1:=(hg.block g' (aR a4) al).trans a4;refine⟨a1,a2,a3,⟨V',(gI.block g' (aR b1) ?_).trans b1,a5⟩,⟨E1,(a6.kept hg al).kept gI n1,a7⟩,⟨E2,(a8.kept hg al).kept gI n2,a9⟩⟩
 let⟨D',hD',_⟩:=h.own
 have:=mr hD' a4;simpa using this};{rw[e1,<-h.len,nF ay]at Jr;rw[e1,<-h.Q0,nF ay]at hhi;rw[e1,<-h.QY,nF ay]at hui;simp at Jr hhi hui;subst Jr hhi hui;exact⟨af,af,af,⟨V,(gI.block _ (aR hbk) bq).trans hbk,hV⟩,⟨D1,hH.kept gI bq,hHs⟩,⟨D2,hU.kept gI bq,hUs⟩⟩}};{
 have hp:((HB++[hb])++(UB++[ub])).Perm ((HB++UB)++[hb,ub]):=by rw[sX,sX];exact List.Perm.append_left HB (show(hb::(UB++[ub])).Perm (UB++hb::[ub])from ak3.symm)
 have hq:(bn::((HB++[hb])++(UB++[ub]))).Perm ((bn::(HB++UB))++[hb,ub]):=hp.cons bn;rw[hq.nodup_iff,BN];refine⟨h.Ny,by simp[bS],λa ha c hc=>?_⟩;have Vm:a<w.heap.size:=by rcases jv.1 ha with rfl|ha;{exact yG};{exact bf.2 a ha}
 simp at hc;rcases hc with rfl|rfl<;>omega}
def uB{Q:Exit->Act->World->Prop}(ng:o.guard=none){m v:Operand}(Jp:o.op=Op.mapUpdate t m x v){e:TypeId}(KK:Keyed P k)(ht:P.underlying t=some (.map k e))(R:Value->Option (DataW Unit×List MemPlace))(b n:Nat) (hm:a.eval m=.map (some b))(bR:w.ownsMap P k R b n D)(hn:n<maxLen){key:Value}(val:Value)(hx:a.eval x=key)(hv:a.eval v=val)(cW:keyOf P k key=some kl)(Hn:R val=some (d,ps))(hK:∀w',w'.ownsMap P k R b (n+1) (D.put kl d)->w.grownBy w' (some b)->K (a.put o.dst undef) w'):if Region.wanted o (yielded ops a.tmps)=true then Oper.wp P o a w K Q else E:=by
 have hw:Region.wanted o (yielded ops a.tmps)=true:=by simp[Region.wanted,ng]
 rw[bO hw]
 let⟨w',dK,r1,r2⟩:=bR.update KK ht hn cW Hn
 unfold Oper.wp;simp[execOp,Jp,hm,hx,hv,dK,Result.andThen];exact hK w' r1 r2
def ad0{Q:Exit->Act->World->Prop}(ng:o.guard=none)(Jp:o.op=Op.box t x)(hx:a.eval x=v)(dK:(Instr.box t v).run P w=.ok r w')(hK:K (a.put o.dst r) w'):if Region.wanted o (yielded ops a.tmps)=true then Oper.wp P o a w K Q else E:=by
 have hw:Region.wanted o (yielded ops a.tmps)=true:=by simp[Region.wanted,ng]
 rw[bO hw];unfold Oper.wp;simp[execOp,Jp,hx,dK,Result.andThen];exact hK
def PI:(Instr.box 162 (.agg #[V,.U ow,.I mo,.map (some h),.U ep,.U ge,.map (some u)])).run prog w=.ok (.pointer (some (Ad w.heap.size 0))) (w.alloc (.cells #[V,.U ow,.I mo,.map (some h),.U ep,.U ge,.map (some u)] 162)):=by
 go_simp
def rP{α:Type}{l:List α}{k:Nat}{y:α}(h:l[k]?=some y):l.take (k+1)=l.take k++[y]:=by rw[od,h];rfl
def zy{α:Type}{l:List α}{k:Nat}{z:α}(h:z∈l.take k):∃i,i<k/\l[i]?=some z:=by
 let⟨i,hi⟩:=uL h
 rw[GP]at hi;split at hi;{exact⟨i,by assumption,hi⟩};{cases hi}
def cM(h:w'.heap[b]?=w.heap[b]?){o:Nat}:w'.cell? (Ad b o)=w.cell? (Ad b o):=by
 unfold World.cell?;rw[h]
variable {g t x:Int}
def jD.heap(h:jD w b e g x t S N)(hb:w'.heap[b]?=w.heap[b]?):jD w' b e g x t S N:=
 ⟨(cM hb).trans h.1,(cM hb).trans h.2.1,(cM hb).trans h.2.2.1,(cM hb).trans h.2.2.2.1,(cM hb).trans h.2.2.2.2.1,(cM hb).trans h.2.2.2.2.2⟩
def az(h:X.drew.grownBy w2 row):X.grownBy w2 row:=⟨h.os,h.tape,h.output,h.size,h.block⟩
variable {d:Nat}
def qK{p:OA}(en:Le ss n)(em:Le ns m)(h:kr w (.S p n c) ss)(hN:lM w (.S q m d) ns)(hn:Mg n)(hm:Mg m)(hsu:Hid (∀s∈ss,0<=s.1/\s.1<2^64))(hsd:Hid (∀(i j:Nat)(s s':aQ),ss[i]?=some s->ss[j]?=some s'->i<j->s.1≠s'.1))(gh:Hid (∀nd∈ns,aN nd.path/\nd.path.length<=1048576/\nd.value.length<=1048576/\nd.holders.length<=1048576/\nd.watchers.length<=1048576))(IG:Hid (∀nd∈ns,(∀i∈nd.holders,0<=i/\i<2^64)/\∀i∈nd.watchers,0<=i/\i<2^64))(bu:Hid (∀(i j:Nat)(z z':aD),ns[i]?=some z->ns[j]?=some z'->i<j->z.path≠z'.path)):Calls prog 52 #[dZ e g x t (.S p n c) (.S q m d)] w λr w'=>∃b bs bn SB NB HB UB,r=.returned (.pointer (some (Ad b 0)))/\mE w w' b bs bn e g x t ss ns SB NB HB UB/\Bw w w':=by
 have HR:=ag λ(w':World)(hb:Bw w w')=>ai (h.below hb) (hN.below hb);have HS0:=ag h;have HN0:=ag hN;clear h hN;have hmm:=@WK prog
 go_in
 go_wp2_with fail
 let⟨b,eb⟩:=aB (w.heap.size+1+1+1)
 let⟨bn,Xz⟩:=aB (w.heap.size+1+1)
 let⟨bs,ebs⟩:=aB (w.heap.size+1)
 rw[<-eb,<-Xz,<-ebs]
 let⟨W,hW⟩:=aB ((((w.alloc (.cells #[.U e,.U g,.U x,.I t,.S p n c,.S q m d] 41)).alloc (.map #[] 0)).alloc (.map #[] 0)).alloc (.cells #[.U e,.U g,.U x,.I t,.map (some bs),.map (some bn)] 157))
 have bW:Bw w W:=by rw[hW];exact(((aA.alloc ay _).alloc al _).alloc bq _).alloc bq _
 have zW:W.heap.size=w.heap.size+4:=by rw[hW];simp
 have hdW:W.heap[b]?=some (.cells #[.U e,.U g,.U x,.I t,.map (some bs),.map (some bn)] 157):=by rw[hW,eb];have:=(ai5 (((w.alloc (.cells #[.U e,.U g,.U x,.I t,.S p n c,.S q m d] 41)).alloc (.map #[] 0)).alloc (.map #[] 0)) (.cells #[.U e,.U g,.U x,.I t,.map (some bs),.map (some bn)] 157)).1;simpa using this
 have oS:W.ownsMap prog 27 aZ bs 0 (.map []):=by rw[hW,ebs];have:=((World.ownsMap_made (w.alloc (.cells #[.U e,.U g,.U x,.I t,.S p n c,.S q m d] 41)) prog 27 aZ).alloc (.map #[] 0)).alloc (.cells #[.U e,.U g,.U x,.I t,.map (some (w.heap.size+1)),.map (some bn)] 157);simpa using this
 have oN:W.ownsMap prog 9 aZ bn 0 (.map []):=by rw[hW,Xz];have:=(World.ownsMap_made ((w.alloc (.cells #[.U e,.U g,.U x,.I t,.S p n c,.S q m d] 41)).alloc (.map #[] 0)) prog 9 aZ).alloc (.cells #[.U e,.U g,.U x,.I t,.map (some bs),.map (some (w.heap.size+1+1))] 157);simpa using this
 have c6:jD W w.heap.size e g x t (.S p n c) (.S q m d):=by
  have c0:jD (w.alloc (.cells #[.U e,.U g,.U x,.I t,.S p n c,.S q m d] 41)) w.heap.size e g x t (.S p n c) (.S q m d):=by simp[jD]
  rw[hW];exact c0.below (((aA.alloc ay _).alloc al _).alloc al _)
 rw[<-hW];have HEQ:=ag (ai eb (ai Xz (ai ebs zW)));have BW:=ag bW;have HC6:=ag c6;have HN1:=ag (ai hdW (ai oS oN));clear hW eb Xz ebs zW bW hdW oS oN c6 hmm
 go_loopw[23](λiv wr=>∃(k:Nat)(SB:List Nat),k<=n/\iv=.I k/\Hid (wC w wr bs (ss.take k) SB/\wr.heap[b]?=some (.cells #[.U e,.U g,.U x,.I t,.map (some bs),.map (some bn)] 157)/\wr.ownsMap prog 9 aZ bn 0 (.map [])/\jD wr w.heap.size e g x t (.S p n c) (.S q m d))/\Bw w wr/\W.heap.size<=wr.heap.size) (λiv _=>n-(intOf iv).toNat)
 exact⟨0,[],gr _,rfl,⟨wC.empty HN1.2.1,HN1.1,HN1.2.2,HC6⟩,BW,iD _⟩;{
 obtain⟨k,SB,hk,rfl,jq,aM,ZM⟩:=hrel;by_cases bf:k<n;{
 have bL:=aU k n;have dT:k<ss.length:=by rw[ae en];exact bf
 let⟨⟨I,D,Q⟩,hy⟩:=lE dT
 obtain⟨b0,o,rfl,hcI,hcD,u,hcQ,hrQ⟩:∃b o,p=some (Ad b o)/\w.cell? (Ad b (o+k*3))=some (.U I)/\w.cell? (Ad b (o+k*3+1))=some (.I D)/\∃u,w.cell? (Ad b (o+k*3+2))=some u/\qG w u Q:=by
  let⟨p',c',ev,hd⟩:=ae HS0
  obtain⟨rfl,-,-⟩:=ir ev;rcases hd with h0|⟨b,o,h1,h2⟩;{rw[h0]at dT;simp at dT};{exact⟨b,o,h1,h2 k _ hy⟩}
 obtain⟨pq,cq,rfl,-⟩:=id hrQ
 let⟨mq,emq⟩:=aL Q.length
 rw[emq]at hrQ hcQ;clear emq;replace hcI:=ah hcI aM;replace hcD:=ah hcD aM;replace hcQ:=ah hcQ aM;have HRQ:=ag hrQ;have HY:=ag hy;have hI:=ae hsu _ (aT hy);have cW:keyOf prog 27 (.U I)=some (.U I):=keyOf_int_mk underlying27 (ni hI);have Oc:=ag cW;go_wp2_with fail
 let⟨X,hX⟩:=aB (wr.alloc (.cells #[.U I,.I D,.S pq mq cq] 132))
 have bX:=dX hX;have II:X.heap[wr.heap.size]?=some (.cells #[.U I,.I D,.S pq mq cq] 132):=by rw[hX];exact(ai5 wr _).1
 have hcX:X.cell? (Ad wr.heap.size 0)=some (.U I):=by rw[hX];simp
 let⟨i1,i2,i3,i4⟩:=ae jq
 have oF:X.heap[b]?=some (.cells #[.U e,.U g,.U x,.I t,.map (some bs),.map (some bn)] 157):=(bX.block b (aR i2)).trans i2;have Ou:X.cell? (Ad b 4)=some (.map (some bs)):=ao oF 4;rw[<-hX];have zX:X.heap.size=wr.heap.size+1:=by rw[hX];simp
 let⟨D0,oD,mD⟩:=i1.own
 have hlen:(ss.take k).length=k:=by rw[pT,ae en];omega
 rw[hlen]at oD;have oX:X.ownsMap prog 27 aZ bs k D0:=oD.kept (aC bX none) al;have qg:bs<wr.heap.size:=oD.lt;have bM4:bs≠b:=λe=>mr oD i2 e.symm;have KX:=ag (ai Ou hcX);have OX:=ag oX;refine du (λw'=>w'.cell? (Ad b 4)=some (.map (some bs))/\w'.cell? (Ad wr.heap.size 0)=some (.U I)) (by exact KX) λhS=>?_;refine lG 0 1 2 3 hS ?_;refine jR 4 5 hS ?_;refine cX 6 λKK hK=>?_;refine uB aJ (t:=154) aJ (k:=27) jI underlying154 aZ bs k (D:=D0) aJ (by exact OX.drew) iB (key:=.U I) (.pointer (some (Ad wr.heap.size 0))) (kl:=.U I) aJ aJ Oc (d:=.lit (.I wr.heap.size)) (ps:=[]) rfl ?_;intro w2 Hq gI;have M6:X.grownBy w2 (some bs):=az gI;refine fh hK (by exact⟨(cM (M6.block b (aR oF) (by simpa using bM4.symm))).trans KX.1,(cM (M6.block wr.heap.size (aR II) bq)).trans KX.2⟩) λhS=>?_;clear hK KK;refine cY ?_;have db:wC w w2 bs (ss.take (k+1)) (SB++[wr.heap.size]):=by
  rw[rP (ae HY)];refine i1.step (I,D,Q) wr.heap.size (aC bX none) ay aM.size (.S pq mq cq) (ae HRQ) II (λz hz=>?_) mD oD.isMap (by rw[hlen];exact Hq) M6
  let⟨i,hi,Ol⟩:=zy hz
  exact hsd i k z (I,D,Q) Ol (ae HY) hi
 have KR:w2.ownsMap prog 9 aZ bn 0 (.map []):=(i3.kept (aC bX none) al).kept M6 (by have:=(ae HEQ);simp;omega)
 have aK:w2.heap[b]?=some (.cells #[.U e,.U g,.U x,.I t,.map (some bs),.map (some bn)] 157):=(M6.block b (aR oF) (by simpa using bM4.symm)).trans oF;have h62:jD w2 w.heap.size e g x t (.S (some (Ad b0 o)) n c) (.S q m d):=(i4.below bX).heap (M6.block w.heap.size (aI aM.size) (by have:=ae HEQ;simp;omega));have jg:Bw w w2:=cO (aj aM bX) M6 (aI aM.size) (λj hj=>by cases hj;have:=ae HEQ;omega);have jJ:W.heap.size<=w2.heap.size:=aI M6.size;have nK:=ag (ai db (ai aK (ai KR h62)));clear db aK KR h62 hS Hq gI M6 i1 i2 i3 i4 oF oD mD II bX;go_wp2;go_roundw;exact⟨k+1,_,af,by go_num,nK,jg,jJ⟩;exact cg};{
 have bL:=dB k n;have Cu:k=n:=af;subst Cu
 let⟨i1,i2,i3,i4⟩:=ae jq
 rw[lD (by rw[ae en];exact iD _)]at i1
 let⟨j0,j1,j2,j3,j4,j5⟩:=id i4
 have I1:=ag i1;have I2:=ag i2;have I3:=ag i3;have I4:=ag i4;clear i1 i2 i3 i4 jq;go_wp2_with fail;clear j0 j1 j2 j3 j4 j5
 let⟨Y,eY⟩:=aB wr
 subst eY;have BY:=ag aM;have ZY:=ag ZM;clear aM ZM bf bL hk
 go_loopw[37](λiv wr=>∃(k:Nat)(NB HB UB:List Nat),k<=m/\iv=.I k/\Hid (ui w wr bn (ns.take k) NB HB UB/\wC w wr bs ss SB/\wr.heap[b]?=some (.cells #[.U e,.U g,.U x,.I t,.map (some bs),.map (some bn)] 157)/\∀y∈HB++UB,y≠bs)/\Bw w wr/\W.heap.size<=wr.heap.size) (λiv _=>m-(intOf iv).toNat)
 exact⟨0,[],[],[],gr _,rfl,⟨ui.empty (ae I3),ae I1,ae I2,al⟩,ae BY,ae ZY⟩;{
 obtain⟨j,NB,HB,UB,hk,rfl,jq,aM,ZM⟩:=hrel;by_cases bf:j<m;{
 have bL:=aU j m;have dT:j<ns.length:=by rw[ae em];exact bf
 let⟨nd,hy⟩:=lE dT
 obtain⟨b0,o,rfl,hA⟩:=HN0.at af
 let⟨P,V,H,U,U8⟩:=hA j nd hy
 let⟨Cl,jg,hB3,hB4,hB5⟩:=ae gh _ (aT hy)
 let⟨hU1,hU2⟩:=ae IG _ (aT hy)
 obtain⟨pp,pc,pn,rfl,Nu⟩:=U8.r0.gF;obtain⟨vq,vc,vn,rfl,eVn⟩:=U8.r1.gF;obtain⟨hp,hc,hh,rfl,Vz⟩:=U8.r4.gF;obtain⟨up,uc,un,rfl,Y9⟩:=U8.r7.gF;have YK:pn<=1048576:=by rw[<-ae Nu];exact jg
 have ZS:hh<=1048576:=by rw[<-ae Vz];exact hB4
 have ZN:un<=1048576:=by rw[<-ae Y9];exact hB5
 have aA0:=ag U8;have HY:=ag hy;have HU1:Hid (∀i∈nd.holders,0<=i/\i<2^64):=hU1;have HU2:Hid (∀i∈nd.watchers,0<=i/\i<2^64):=hU2;have hnr:=U8.below aM;obtain⟨c0,c1,c2,c3,c4,c5,c6,c7,-,-,-,-,-⟩:=hnr;obtain⟨ow,mo,ep,ge,e1,e2,e3,e4⟩:∃a b c d,nd.owner=a/\nd.mode=b/\nd.aE=c/\nd.gen=d:=⟨_,_,_,_,rfl,rfl,rfl,rfl⟩
 rw[e1]at c2;rw[e2]at c3;rw[e3]at c5;rw[e4]at c6;have HE:=ag (ai e1 (ai e2 (ai e3 e4)));clear dT hy hA U8 Cl jg hB3 hB4 hB5 hU1 hU2 e1 e2 e3 e4;go_wp2_with fail
 let⟨X,hX⟩:=aB (wr.alloc (.cells #[.S pp pn pc,.S vq vn vc,.U ow,.I mo,.S hp hh hc,.U ep,.U ge,.S up un uc] 133))
 let⟨C,eC⟩:=aB wr.heap.size
 have bX:=dX hX;have zX:X.heap.size=wr.heap.size+1:=by rw[hX];simp
 let⟨i1,i2,i3,i4⟩:=ae jq
 have oF:X.heap[b]?=some (.cells #[.U e,.U g,.U x,.I t,.map (some bs),.map (some bn)] 157):=(bX.block b (aR i3)).trans i3;have rX:Rd X (.S pp pn pc) nd.path:=aA0.r0.below (aj aM bX);have KX:Hid (X.cell? (Ad b 5)=some (.map (some bn))/\X.cell? (Ad C 0)=some (.S pp pn pc)/\X.cell? (Ad C 1)=some (.S vq vn vc)/\X.cell? (Ad C 2)=some (.U ow)/\X.cell? (Ad C 3)=some (.I mo)/\X.cell? (Ad C 4)=some (.S hp hh hc)/\X.cell? (Ad C 5)=some (.U ep)/\X.cell? (Ad C 6)=some (.U ge)/\X.cell? (Ad C 7)=some (.S up un uc)/\Rd X (.S pp pn pc) nd.path):=by refine⟨ao oF 5,?_,?_,?_,?_,?_,?_,?_,?_,rX⟩<;>(rw[hX,eC];simp)
 have uH:oK X (.S hp hh hc) nd.holders:=aA0.r4.below (aj aM bX);have uU:oK X (.S up un uc) nd.watchers:=aA0.r7.below (aj aM bX);rw[<-hX,<-eC];have UH:=ag uH;have UU:=ag uU;have HX:=ag (ai bX (ai zX oF));have nK:=jq;clear hX c0 c1 c2 c3 c4 c5 c6 c7 uH uU rX bX zX oF i1 i2 i3 i4 jq;have HCE:=ag eC;clear eC;have cW:keyOf prog 9 (.string (aP nd.path))=some (cL nd.path):=by rw[WideMaps.keyOf_string_mk underlying9 (by rw[gQ,ae Nu];unfold maxLen;omega),oW]
 have Oc:=ag cW;clear cW;refine du (λw'=>w'.cell? (Ad b 5)=some (.map (some bn))/\w'.cell? (Ad C 0)=some (.S pp pn pc)/\w'.cell? (Ad C 1)=some (.S vq vn vc)/\w'.cell? (Ad C 2)=some (.U ow)/\w'.cell? (Ad C 3)=some (.I mo)/\w'.cell? (Ad C 4)=some (.S hp hh hc)/\w'.cell? (Ad C 5)=some (.U ep)/\w'.cell? (Ad C 6)=some (.U ge)/\w'.cell? (Ad C 7)=some (.S up un uc)/\Rd w' (.S pp pn pc) nd.path) (by exact KX) λhS=>?_;refine lG 0 1 2 3 hS ?_;refine jR 4 5 hS ?_;refine xh (i:=6) (oi:=_) (v:=?_) (by simp only[xU,BM,BK];rfl) bg bg bg (λ_ _ _ h=>h) (Or.inl ⟨aJ,?_⟩) hS ?_;rotate_left;{(intro w' xx;(try dsimp only at xx);(have hcv:=dQ (ae Nu) xx.2.2.2.2.2.2.2.2.2);go_simp;try with_reducible rfl)}
 simp only[Act.put,xa,xb,xc];refine mj 7 8 9 10 11 12 13 14 hS ?_;refine lG 15 16 17 18 hS ?_;refine jR 20 21 hS ?_;refine cX 19 λKK hK=>?_;refine iw (JZ (p:=hp) (c:=hc) (n:=hh) (ids:=nd.holders) Vz (UH.below aA.drew) ZS HU1) ?_;rintro r w2⟨D1,rfl,o1,s1,aK,KT⟩;refine⟨_,rfl,?_⟩;have Ap:Bw X w2:=aj (cQ X.heap.size X).drew aK;have KX2:Hid (w2.cell? (Ad b 5)=some (.map (some bn))/\w2.cell? (Ad C 0)=some (.S pp pn pc)/\w2.cell? (Ad C 1)=some (.S vq vn vc)/\w2.cell? (Ad C 2)=some (.U ow)/\w2.cell? (Ad C 3)=some (.I mo)/\w2.cell? (Ad C 4)=some (.S hp hh hc)/\w2.cell? (Ad C 5)=some (.U ep)/\w2.cell? (Ad C 6)=some (.U ge)/\w2.cell? (Ad C 7)=some (.S up un uc)/\Rd w2 (.S pp pn pc) nd.path):=by
  let⟨k0,k1,k2,k3,k4,k5,k6,k7,k8,k9⟩:=ae KX
  exact⟨ah k0 Ap,ah k1 Ap,ah k2 Ap,ah k3 Ap,ah k4 Ap,ah k5 Ap,ah k6 Ap,ah k7 Ap,ah k8 Ap,k9.below Ap⟩
 refine fh hK (by exact KX2) λhS=>?_;clear hK KK;have zd:X.drew.heap.size=X.heap.size:=rfl;rw[zd]at o1 KT⊢
 let⟨h1,eh1⟩:=aB X.heap.size
 rw[<-eh1]at o1 KT⊢;have HO1:=ag (ai o1 (ai s1 (ai KT eh1)));have AO:=ag Ap;clear o1 s1 aK KT Ap zd eh1;refine cX 22 λKK hK=>?_;refine iw (JZ (p:=up) (c:=uc) (n:=un) (ids:=nd.watchers) Y9 (UU.below AO) ZN HU2) ?_;rintro r w3⟨D2,rfl,o2,s2,br,Oo⟩;refine⟨_,rfl,?_⟩;have KX3:Hid (w3.cell? (Ad b 5)=some (.map (some bn))/\w3.cell? (Ad C 0)=some (.S pp pn pc)/\w3.cell? (Ad C 1)=some (.S vq vn vc)/\w3.cell? (Ad C 2)=some (.U ow)/\w3.cell? (Ad C 3)=some (.I mo)/\w3.cell? (Ad C 4)=some (.S hp hh hc)/\w3.cell? (Ad C 5)=some (.U ep)/\w3.cell? (Ad C 6)=some (.U ge)/\w3.cell? (Ad C 7)=some (.S up un uc)/\Rd w3 (.S pp pn pc) nd.path):=by
  let⟨k0,k1,k2,k3,k4,k5,k6,k7,k8,k9⟩:=ae KX2
  exact⟨ah k0 br,ah k1 br,ah k2 br,ah k3 br,ah k4 br,ah k5 br,ah k6 br,ah k7 br,ah k8 br,k9.below br⟩
 refine fh hK (by exact KX3) λhS=>?_;clear hK KK
 let⟨u1,eu1⟩:=aB w2.heap.size
 rw[<-eu1]at o2 Oo⊢;have HO2:=ag (ai o2 (ai s2 (ai Oo eu1)));have AM:=ag br;clear o2 s2 br Oo eu1;refine tn 23 hS ?_;refine cX 24 λKK hK=>?_;refine ad0 aJ (t:=162) aJ (v:=.agg #[.S vq vn vc,.U ow,.I mo,.map (some h1),.U ep,.U ge,.map (some u1)]) aJ (PI) ?_
 let⟨Z,eZ⟩:=aB (w3.alloc (.cells #[.S vq vn vc,.U ow,.I mo,.map (some h1),.U ep,.U ge,.map (some u1)] 162))
 have bZ:=dX eZ;have hZ:Z.heap[w3.heap.size]?=some (.cells #[.S vq vn vc,.U ow,.I mo,.map (some h1),.U ep,.U ge,.map (some u1)] 162):=by rw[eZ];exact(ai5 w3 _).1
 rw[<-eZ];clear eZ;have KX4:Hid (Z.cell? (Ad b 5)=some (.map (some bn))/\Z.cell? (Ad C 0)=some (.S pp pn pc)/\Z.cell? (Ad C 1)=some (.S vq vn vc)/\Z.cell? (Ad C 2)=some (.U ow)/\Z.cell? (Ad C 3)=some (.I mo)/\Z.cell? (Ad C 4)=some (.S hp hh hc)/\Z.cell? (Ad C 5)=some (.U ep)/\Z.cell? (Ad C 6)=some (.U ge)/\Z.cell? (Ad C 7)=some (.S up un uc)/\Rd Z (.S pp pn pc) nd.path):=by
  let⟨k0,k1,k2,k3,k4,k5,k6,k7,k8,k9⟩:=ae KX3
  exact⟨ah k0 bZ,ah k1 bZ,ah k2 bZ,ah k3 bZ,ah k4 bZ,ah k5 bZ,ah k6 bZ,ah k7 bZ,ah k8 bZ,k9.below bZ⟩
 refine fh hK (by exact KX4) λhS=>?_;clear hK KK
 let⟨g1,eg1⟩:=aB w3.heap.size
 rw[<-eg1]at hZ⊢;have BXZ:Bw X Z:=aj (aj AO AM) bZ
 let⟨i1,i2,i3,i4⟩:=ae nK
 let⟨bX,zX,oF⟩:=ae HX
 let⟨o1,s1,KT,eh1⟩:=ae HO1
 let⟨o2,s2,Oo,eu1⟩:=ae HO2
 have bRZ:Bw wr Z:=aj bX BXZ
 let⟨D0,oD,mD⟩:=i1.own
 have hlen:(ns.take j).length=j:=by rw[pT,ae em];omega
 rw[hlen]at oD;have oZ:Z.ownsMap prog 9 aZ bn j D0:=oD.kept (aC bRZ none) al;have q1:Z.ownsMap prog 27 unitElem h1 hh D1:=(o1.kept (aC (ae AM) none) al).kept (aC bZ none) al;have q2:Z.ownsMap prog 27 unitElem u1 un D2:=o2.kept (aC bZ none) al;have lt3:=AM.size;have lt2:=AO.size;have yG:=oD.lt;have HQ:=ag (ai q1 (ai q2 (ai s1 s2)));have cW1:=ag (ai KT (ai eh1 (ai Oo (ai eu1 (ai eg1 (ai zX (ai lt2 (ai lt3 yG))))))));have HOZ:=ag oZ;have bX9:=ag (ai hZ (ai bRZ (ai oD mD)));clear q1 q2 s1 s2 KT eh1 Oo eu1 eg1 zX lt2 lt3 yG oZ hZ bRZ oD mD i1 i2 i3 i4 bX oF o1 o2 BXZ bZ;refine cX 25 λKK hK=>?_;refine uB aJ (t:=155) aJ (k:=9) ox underlying155 aZ bn j (D:=D0) aJ (by exact HOZ) iB (key:=.string (aP nd.path)) (.pointer (some (Ad g1 0))) (kl:=cL nd.path) aJ aJ Oc (d:=.lit (.I g1)) (ps:=[]) rfl ?_;intro w4 Dx uX
 let⟨hZ,bRZ,oD,mD⟩:=ae bX9
 let⟨i1,i2,i3,i4⟩:=ae nK
 let⟨q1,q2,s1,s2⟩:=ae HQ
 let⟨KT,eh1,Oo,eu1,eg1,zX,lt2,lt3,yG⟩:=ae cW1
 have cw7:=uX.size;have zZ:=aR hZ;have zRZ:=bRZ.size;have cF1:=aM.size
 let⟨eb,Xz,ebs,zW⟩:=ae HEQ
 have hCe:=ae HCE;have aN1:Z.heap[b]?=some (.cells #[.U e,.U g,.U x,.I t,.map (some bs),.map (some bn)] 157):=(bRZ.block b (aR i3)).trans i3;have nb:b≠bn:=af;have nC:C≠bn:=af;have KX5:Hid (w4.cell? (Ad b 5)=some (.map (some bn))/\w4.cell? (Ad C 0)=some (.S pp pn pc)/\w4.cell? (Ad C 1)=some (.S vq vn vc)/\w4.cell? (Ad C 2)=some (.U ow)/\w4.cell? (Ad C 3)=some (.I mo)/\w4.cell? (Ad C 4)=some (.S hp hh hc)/\w4.cell? (Ad C 5)=some (.U ep)/\w4.cell? (Ad C 6)=some (.U ge)/\w4.cell? (Ad C 7)=some (.S up un uc)/\Rd w4 (.S pp pn pc) nd.path):=by
  let⟨k0,k1,k2,k3,k4,k5,k6,k7,k8,k9⟩:=ae KX4
  have hC:=uX.block C af (by simpa using nC);exact⟨(cM (uX.block b (aR aN1) (by simpa using nb))).trans k0,(cM hC).trans k1,(cM hC).trans k2,(cM hC).trans k3,(cM hC).trans k4,(cM hC).trans k5,(cM hC).trans k6,(cM hC).trans k7,(cM hC).trans k8,
   aA0.r0.below (cO (aj aM bRZ) uX af (λj hj=>by cases hj;omega))⟩
 refine fh hK (by exact KX5) λhS=>?_;clear hK KK;refine cY ?_
 let⟨e1,e2,e3,e4⟩:=ae HE
 have db:ui w w4 bn (ns.take (j+1)) (NB++[g1]) (HB++[h1]) (UB++[u1]):=by
  rw[rP (ae HY)];refine i1.step nd g1 h1 u1 (aC bRZ none) af af af af aM.size (.S vq vn vc) aA0.r1 (by rw[e1,e2,e3,e4];exact hZ) (by rw[ae Vz];exact q1) s1 (by rw[ae Y9];exact q2) s2 (λz hz=>?_) mD oD.isMap (by rw[hlen];exact Dx) uX
  let⟨i,hi,Ol⟩:=zy hz
  intro ee;exact bu i j z nd Ol (ae HY) hi (mO (ae gh z (aT Ol)).1 (ae gh nd (aT (ae HY))).1 ee)
 have hse:wC w w4 bs ss SB:=(i2.kept (aC bRZ none) al al).kept uX bq (λy hy=>by
  let⟨i,hi⟩:=uL hy
  obtain⟨s,hs⟩:∃s,ss[i]?=some s:=⟨_,aY (by rw[<-i2.len];exact(aV.1 hi).1)⟩
  let⟨_,u,a2,_⟩:=i2.blk i s y hs hi
  have:=mr oD a2;simpa using this)
 have fy:w4.heap[b]?=some (.cells #[.U e,.U g,.U x,.I t,.map (some bs),.map (some bn)] 157):=(uX.block b (aR aN1) (by simpa using nb)).trans aN1;have hB4:Bw w w4:=cO (aj aM bRZ) uX af (λj hj=>by cases hj;omega);have Xg:W.heap.size<=w4.heap.size:=af;have hd4:∀y∈(HB++[h1])++(UB++[u1]),y≠bs:=by intro y hy;simp only[gu,nE]at hy;rcases hy with(hy|rfl)|(hy|rfl);{exact i4 y (gu.2 (.inl hy))};{omega};{exact i4 y (gu.2 (.inr hy))};{omega}
 have cX0:=ag (ai db (ai hse (ai fy hd4)));clear db hse fy hd4 hS Dx uX i1 i2 i3 i4 q1 q2 s1 s2 KT eh1 Oo eu1 eg1 zX lt2 lt3 yG eb Xz ebs zW hCe hZ bRZ oD mD aN1 e1 e2 e3 e4 cw7 cF1 nb nC zZ zRZ KX KX2 KX3 KX4 KX5;go_wp2;go_roundw;exact⟨j+1,_,_,_,af,by go_num,cX0,hB4,Xg⟩;exact cg};{
 have bL:=dB j m;have ekm:j=m:=af;subst ekm
 let⟨i1,i2,i3,i4⟩:=ae jq
 rw[lD (by rw[ae em];exact iD _)]at i1
 let⟨eb,Xz,ebs,zW⟩:=ae HEQ
 have tj:mE w wr b bs bn e g x t ss ns SB NB HB UB:=⟨i3,i2,i1,af,by rw[zG];refine⟨λiV=>?_,i1.Ny⟩;rcases jv.1 iV with hh|hh;{omega};{exact i4 _ hh rfl}⟩
 have cX5:=ag tj;clear i1 i2 i3 i4 eb Xz ebs zW tj;go_wp2;go_ret;exact⟨b,rfl,⟨bs,bn,SB,NB,HB,UB,cX5⟩,aM⟩}}}}
theorem YE{N:Nat}(en:Le l0 N)(r0:Rd X v0 l0)(hl:N<=4194304):Cp 98 #[.T X.heap.size 1 1] (X.alloc (.cells #[v0] 22)) λe w'=>∃p' c',e=.returned (.S p' N c')/\Own X.heap.size w' (.S p' N c') l0/\Bw X w':=by
 have ba:Bw X (X.alloc (.cells #[v0] 22)):=aA.alloc ay _;refine(fK (vs:=[v0]) [l0] 1 rfl (by show _=_;simp[cat]) en ⟨rfl,λj v x e1 e2=>?_⟩ hl af).mono ?_;{
 match j,e1,e2 with
 |0,e1,e2=>simp at e1 e2;subst e1 e2;exact⟨al,r0.below ba⟩}
 {rintro e w'⟨p',c',rfl,o,hb⟩;exact⟨p',c',rfl,Own.mono o al,aj ba hb⟩}
def VH(I D:Int)(p:OA)(c n:Nat)(Q:List Ev)(en:Le Q n)(w:World)(h:qG w (.S p n c) Q)(hn:Mg n)(hbq:Hid (∀e∈Q,e.2.length<=1048576)):Calls prog 116 #[.agg #[.U I,.I D,.S p n c]] w λr w'=>∃p' c' A,r=.returned (.agg #[.U I,.I D,.S p' n c'])/\qG w' (.S p' n c') Q/\CD w' (.S p' n c') Q A/\jE w.heap.size w' A/\Bw w w':=by
 let⟨ie,hie,qx,jd,jJ⟩:=fD Tryz.infoEv
 have HR:=ag λ(w':World)(hb:Bw w w')=>h.below hb
 let⟨W,hW⟩:=aB (w.alloc (.cells #[.U I,.I D,.S p n c] 132))
 have bW:=dX hW;have zW:W.heap.size=w.heap.size+1:=by rw[hW];simp
 have k0:W.cell? (Ad w.heap.size 0)=some (.U I):=by rw[hW];simp
 have k1:W.cell? (Ad w.heap.size 1)=some (.I D):=by rw[hW];simp
 have k2:W.cell? (Ad w.heap.size 2)=some (.S p n c):=by rw[hW];simp
 go_in
 go_wp2_with fail
 let⟨W2,mu⟩:=aB (W.alloc (.cells #[.U 0,.I 0,aq] 132))
 have bW2:=dX mu;have zW2:W2.heap.size=w.heap.size+2:=by rw[mu];simp;omega
 have uf:ar W2 (w.heap.size+1) [.U 0,.I 0,aq]:=by rw[mu,show w.heap.size+1=W.heap.size by omega];exact ar.alloc W #[.U 0,.I 0,aq] _
 rw[<-hW,<-mu];have b2:=aj bW bW2;have HK:=ag (ai (ah k0 bW2) (ai (ah k1 bW2) (ah k2 bW2)));have JK:=ag uf
 go_loopw[3,9](λov iv wr=>∃(k:Nat)(Ls:List (List Lf)),k<=n/\iv=.I k/\Hid (OwnT Ct 189 2 W2.heap.size wr ov (Q.take k) Ls)/\Bw W2 wr) (λ_ iv _=>n-(intOf iv).toNat)
 exact⟨0,[],gr _,rfl,OwnT.nil _ _ _ _ _,cQ _ _⟩;{
 obtain⟨k,Ls,hk,rfl,ho,aM⟩:=hrel;have BB:=aj b2 aM;by_cases bf:k<n;{
 have bL:=aU k n;have dT:k<Q.length:=ae en▸bf
 let⟨⟨K,P⟩,hy⟩:=lE dT
 obtain⟨b,o,rfl,hcK,u,hcP,YJ,ud⟩:∃b o,p=some (Ad b o)/\wr.cell? (Ad b (o+k*2))=some (.I K)/\∃u,wr.cell? (Ad b (o+k*2+1))=some u/\Rd wr u P/\nR u:=by
  let⟨p',c',ev,hd⟩:=ae HR _ BB
  obtain⟨rfl,-,-⟩:=ir ev;rcases hd with h0|⟨b,o,h1,h2⟩;{rw[h0]at dT;simp at dT};{exact⟨b,o,h1,h2 k _ hy⟩}
 obtain⟨pp,pc,m,rfl,em⟩:=YJ.gF;have hm:m<=1048576:=ae em▸ae hbq _ (aT hy);have HRP:=ag YJ;have HY:=ag hy;go_wp2_with fail
 let⟨X,hX⟩:=aB (wr.alloc (.cells #[.I K,.S pp m pc] 189))
 have II:=dX hX;have e0:X.cell? (Ad wr.heap.size 0)=some (.I K):=by rw[hX];simp
 have e1:X.cell? (Ad wr.heap.size 1)=some (.S pp m pc):=by rw[hX];simp
 let⟨V,hV⟩:=aB X.drew
 have Vk:Bw wr V:=hV▸II.drew;rw[<-hX];refine du (λw'=>w'.cell? (Ad wr.heap.size 0)=some (.I K)/\w'.cell? (Ad wr.heap.size 1)=some (.S pp m pc)) (by exact⟨e0,e1⟩) λhS=>?_;rw[<-hV]at hS⊢;have KV:=ag hS;have zV:wr.heap.size<V.heap.size:=nZ V _ hS.1;have z2r:=aM.size;clear hX II e0 e1 hV hcK hcP;have OV:=ag (ho.below Ct.keep Vk);have HU3:=ag λb hb=>(ho.lt.1 b hb).2;have rV:=ag (HRP.below Vk);refine lG 0 1 2 3 hS ?_;refine tn 4 hS ?_;refine cX 5 λKK hK=>?_;go_simp;have S5:=(cQ V.heap.size V).alloc ay (.cells #[.S pp m pc] 22);refine fh hK (by exact⟨ah KV.1 S5,ah KV.2 S5⟩) λhS=>?_;refine cX 6 λKK hK=>?_;refine iw (YE em rV af) ?_;rintro r v1⟨p6,c6,rfl,o6,ko⟩;refine⟨_,rfl,?_⟩;have K6:=ag (ai (ah KV.1 ko) (ah KV.2 ko));refine fh hK (by exact K6) λhS=>?_;have O6:=ag o6;have B6:=ag ko;refine tn 7 hS ?_;refine cX 8 λKK hK=>?_;go_simp;have A8:=(cQ v1.heap.size v1).alloc ay (.cells #[.I K,.S p6 m c6] 189);refine hK.out _ _ (by exact⟨ah K6.1 A8,ah K6.2 A8⟩) (λhS=>?_)
 let⟨Z,hZ⟩:=aB (v1.alloc (.cells #[.I K,.S p6 m c6] 189))
 have hcZ:∀j u,[Value.I K,.S p6 m c6][j]?=some u->Z.cell? (Ad v1.heap.size j)=some u:=λj u hu=>by have:=(ar.alloc v1 #[.I K,.S p6 m c6] 189).1 j u (by simpa using hu);rw[hZ];exact this
 rw[<-hZ]at A8 hS⊢;have bVZ:Bw V Z:=aj B6 A8;have OZ:=OV.below Ct.keep bVZ
 let⟨lb,q1,q2,q3,q4⟩:=Gc (kd:=.u8) (Own.below O6 A8)
 have elz:Ct Z (K,P) [.I K,.S p6 m c6] lb:=⟨p6,c6,by rw[ae em],by rw[ae em];exact(Own.below (ae O6) A8).rd,by rw[ae em];exact⟨_,_,_,rfl,(Own.below (ae O6) A8).cap,(Own.below (ae O6) A8).qm⟩,by rw[ae em];exact q1⟩
 let⟨cs,g1,g2,g3,g4,g5,g6,g7⟩:=id OZ
 have hlV:=OV.lt;have hle:(Q.take k).length<=1048576:=by rw[pT];omega
 have z9:W2.heap.size<=Z.heap.size:=aI bVZ.size
 (try simp only[Act.put,xa,xb,xc])
 refine cX 9 λKK hK=>?_;refine kF aJ aJ ie 2 underlying125 hie qx jd jJ rfl bj aJ g4 1 1 [.I K,.S p6 m c6] aJ rfl hcZ (λu hu=>by simp at hu;rcases hu with rfl|rfl<;>rfl) iB af z9 ?_;intro v' w9 fo hg qz;have sn:=OwnT.snoc g1 g2 g3 g5 g6 g7 Ct.keep elz rfl q2 af (λa ha=>(hlV.2 a ha).2) (λb hb=>(hlV.1 b hb).2) fo hg qz;rw[<-rP (ae HY)]at sn;have DE:Bw W2 w9:=(aj (aj aM Vk) bVZ).grown hg z9 (λb hb=>(hlV.1 b hb).1);have K9:w9.cell? (Ad wr.heap.size 0)=some (.I K)/\w9.cell? (Ad wr.heap.size 1)=some (.S pp m pc):=by
  have bS:some wr.heap.size≠u3.ownBlock:=λe=>by have:=ae HU3 _ e.symm;omega
  exact⟨hg.cell hS.1 bS,hg.cell hS.2 bS⟩
 refine fh hK (by exact K9) λhS=>?_;refine tn 10 hS ?_;refine cY ?_;have SN:=ag sn;go_wp2;go_roundw;exact⟨k+1,_,af,by go_num,SN,DE⟩;exact cg};{
 have bL:=dB k n;have Cu:k=n:=af;subst Cu;have o2:=ae ho;rw[lD (ae en▸iD _)]at o2
 let⟨rdE,A,lvE,Lk⟩:=o2.ev
 obtain⟨pv,cv,rfl,-⟩:=id rdE;rw[ae en]at rdE lvE⊢
 let⟨q0,q1,q2⟩:=ae HK
 have c0:=ah q0 aM;have c1:=ah q1 aM;have uf:=JK.below af aM;have r0:=uf.1 0 _ rfl;have r1:=uf.1 1 _ rfl;have r2:=uf.1 2 _ rfl;have rf:=uf.2;have bS:¬w.heap.size+1=w.heap.size:=af;have RD:=ag (ai rdE (ai lvE Lk));have ZM:=aM.size;go_wp2
 let⟨rdE,lvE,Lk⟩:=ae RD
 let⟨Z,hZ⟩:=aB (((wr.setCell (Ad (w.heap.size+1) 0) (.U I)).setCell (Ad (w.heap.size+1) 1) (.I D)).setCell (Ad (w.heap.size+1) 2) (.S pv k cv))
 have hk:∀a∈A,Z.heap[a.b]?=wr.heap[a.b]?:=λa ha=>by have:=Lk.lo a ha;rw[hZ];rw[ga _ _ _ _ bq,ga _ _ _ _ bq,ga _ _ _ _ bq]
 have hbZ:Bw w Z:=by rw[hZ];exact((BB.setCell al _).setCell al _).setCell al _
 refine dJ (v:=.agg #[.U I,.I D,.S pv k cv]) (by simp[results,results116,go_sem,r0,r1,r2]) rfl ⟨pv,cv,rfl,?_⟩;rw[<-hZ];exact⟨rdE.dw lvE hk,A,CD.keep lvE hk,(Lk.keep hk).mono af,hbZ⟩}}
namespace Q
open Go.Sort
def CH:SWO ltInt:=swo_ltInt
abbrev Left(a b a1 b1:Nat)(d dk:Array Int):Prop:=∀R,PermIn a1 b1 dk R->SortedIn ltInt a1 b1 R->PermIn a b d R/\SortedIn ltInt a b R
theorem aI0(blk off cap N:Nat)(jl:N<=1048576):∀(n a b:Nat)(QV:Int)(d:Array Int)(w:World),Hid (b-a=n)->Hid (d.size=N)->HU w blk off d->blk<w.heap.size->a<=b->b<=N->0<=QV->QV<=64->Go.Sort.Below ltInt a b d→
  Calls prog 244 #[.S (some (Ad blk off)) N cap,.I a,.I b,.I QV] w λe w'=>
   e=.returned (.tuple #[])/\∃d',HU w' blk off d'/\PermIn a b d d'/\SortedIn ltInt a b d'/\w.grownBy w' (some blk):=by
 intro n
 induction n using Nat.strongRecOn with
 |_ n ih=>
  intro a b QV d w hn hN h jr Tq hb Fa Tm hB;have IH:=ag ih;have H0:=ag h;have B0:=ag hB
  go_in
  go_wp2_with fail
  go_loopw[1,2,3,8,9](λs1 s2 s3 s8 s9 wr=>∃(a1 b1:Nat)(li:Int)(p q:Bool)(dk:Array Int),s1=.I a1/\s2=.I b1/\s3=.I li/\s8=.bool p/\s9=.bool q/\a<=a1/\a1<=b1/\b1<=b/\0<=li/\li<=64/\Hid (dk.size=N)/\Hid (HU wr blk off dk)/\Hid (Go.Sort.Below ltInt a1 b1 dk)/\Hid (Left a b a1 b1 d dk)/\Hid (w.grownBy wr (some blk))) (λs1 s2 _ _ _ _=>(intOf s2-intOf s1).toNat)
  exact⟨a,b,QV,true,true,d,rfl,rfl,rfl,rfl,rfl,iD _,Tq,iD _,Fa,Tm,hN,H0,B0,λR h1 h2=>⟨h1,h2⟩,qQ⟩;{
 obtain⟨a1,b1,li,p,q,dk,rfl,rfl,rfl,rfl,rfl,z1,z2,z3,z4,z5,hD,hH,hB,hF,hG⟩:=hrel;obtain⟨L,eL⟩:∃x:Nat,(b1:Int)-(a1:Int)=(x:Int):=⟨b1-a1,af⟩;have wL:=e8 L;have NU:b1<=N:=af;by_cases h12:L<=12;{have cK0:(L:Int)<=12:=af;go_wp2_with fail;refine(aL2 (blk:=blk) (off:=off) (cap:=cap) (N:=N) (a:=a1) (b:=b1) (d:=dk) hD hH z2 NU jl).mono ?_;rintro e w1⟨rfl,Ck,gp⟩;have HH1:=ag Ck;have HG1:=ag (aX hG gp);go_wp2;refine dJ (uO (h:=rfl) _ _ _) rfl ⟨rfl,_,HH1,?_,?_,HG1⟩;{have:=insertionSort_holds CH dk a1 b1 z2 (ae hD▸NU);exact(ae hF _ this.1 this.2).1};{have:=insertionSort_holds CH dk a1 b1 z2 (ae hD▸NU);exact(ae hF _ this.1 this.2).2}};{
 have cK0:¬(L:Int)<=12:=af;by_cases hli:li=0;{subst hli;go_wp2_with fail;refine(ar9 (blk:=blk) (off:=off) (cap:=cap) (N:=N) (a:=a1) (b:=b1) (d:=dk) hD hH z2 NU jl).mono ?_;rintro e w1⟨rfl,Ck,gp⟩;have HH1:=ag Ck;have HG1:=ag (aX hG gp);go_wp2;refine dJ (uO (h:=rfl) _ _ _) rfl ⟨rfl,_,HH1,?_,?_,HG1⟩;{have:=heapSort_holds CH dk a1 b1 z2 (ae hD▸NU);exact(ae hF _ this.1 this.2).1};{have:=heapSort_holds CH dk a1 b1 z2 (ae hD▸NU);exact(ae hF _ this.1 this.2).2}};{
 have h8:a1+8<=b1:=af
 go_upto_if 35 with fail
 go_cut[3](λs3 wc=>∃(lj:Int)(d1:Array Int),s3=.I lj/\0<=lj/\lj<=64/\Hid (d1.size=N)/\Hid (HU wc blk off d1)/\Hid (PermIn a1 b1 dk d1)/\Hid (w.grownBy wc (some blk)))
 case first=>(
 cases p with
 |true=>
  go_wp2_with fail;go_meet;exact⟨li,dk,rfl,z4,z5,hD,hH,permIn_refl dk a1 b1,hG⟩
 |false=>
  go_wp2_with fail;refine(Zt (blk:=blk) (off:=off) (cap:=cap) (N:=N) (a:=a1) (b:=b1) (d:=dk) hD hH (iq jr hG.size) h8 NU jl).mono ?_;rintro e w1⟨rfl,d1,Ck,hP1,gp⟩;have HH1:=ag Ck;have HP1:=ag hP1;have HG1:=ag (aX hG gp);go_wp2_with fail;go_meet;exact⟨li-1,d1,by first|rfl|go_num,af,af,HP1.1.trans hD,HH1,HP1,HG1⟩)
 obtain⟨lj,d1,rfl,y1,y2,hD1,Ck,hP1,hG1⟩:=hcut
 let⟨Y1,eY1⟩:=aB wc
 subst eY1;go_wp2_with fail;refine(Yn (blk:=blk) (off:=off) (cap:=cap) (N:=N) (a:=a1) (b:=b1) (d:=d1) hD1 Ck (iq jr hG1.size) h8 NU jl).mono ?_;rintro e w2⟨pv,t,rfl,v1,v2,Fe,gI⟩;have HH2:=ag Fe;have HG2:=ag (aX hG1 gI)
 go_upto_if 50 with fail
 go_cut[11,12](λs11 s12 wc=>∃(pw:Nat)(tt:Int)(d2:Array Int),s11=.I pw/\s12=.I tt/\a1<=pw/\pw<b1/\Hid (d2.size=N)/\Hid (HU wc blk off d2)/\Hid (PermIn a1 b1 d1 d2)/\Hid (w.grownBy wc (some blk)))
 case first=>(
 by_cases ht:t=2;{
 subst ht;have q1:IntKind.i64.wrap ((b1:Int)-1)=(b1:Int)-1:=kU _ af;have q2:IntKind.i64.wrap ((pv:Int)-(a1:Int))=(pv:Int)-(a1:Int):=kU _ af;obtain⟨nv,env⟩:∃x:Nat,(b1:Int)-1-((pv:Int)-(a1:Int))=(x:Int):=⟨b1-1-(pv-a1),af⟩;have q3:=e8 nv;have bn:a1<=nv/\nv<b1:=af
 go_wp2_with fail;refine(aH5 (blk:=blk) (off:=off) (cap:=cap) (N:=N) (a:=a1) (b:=b1) (d:=d1) hD1 HH2 z2 NU jl).mono ?_;rintro e w3⟨rfl,Nj,An⟩;have HH3:=ag Nj;have HG3:=ag (aX HG2 An);have HP3:=ag (reverseRange_holds d1 a1 b1 z2 (ae hD1▸NU));go_wp2_with fail;go_meet;exact⟨nv,1,_,rfl,rfl,bn.1,bn.2,HP3.1.trans hD1,HH3,HP3,HG3⟩};{
 have ht':(t==2)=false:=by simp[ht]
 go_wp2_with fail;go_meet;exact⟨pv,t,d1,rfl,rfl,v1,v2,hD1,HH2,permIn_refl d1 a1 b1,HG2⟩})
 obtain⟨pw,tt,d2,rfl,rfl,x1,x2,hD2,Fe,Ov,hG2⟩:=hcut
 let⟨Y2,eY2⟩:=aB wc
 subst eY2
 go_upto_region 15 with fail
 go_cut[68](λs68 wc=>∃Bq:Bool,s68=.bool Bq/\wc=Y2)
 case first=>(
 cases p<;>cases q
 all_goals
  go_wp2_with fail;go_meet;exact⟨_,rfl,rfl⟩)
 obtain⟨Bq,rfl,rfl⟩:=hcut
 go_upto_if 68 with fail
 go_cut[72](λs72 wc=>∃d3:Array Int,Hid (d3.size=N)/\Hid (HU wc blk off d3)/\Hid (PermIn a1 b1 d2 d3)/\Hid (w.grownBy wc (some blk)))
 case first=>(
 cases Bq with
 |false=>
  go_wp2_with fail;go_meet;exact⟨d2,hD2,Fe,permIn_refl d2 a1 b1,hG2⟩
 | true=>
  go_wp2_with fail;refine(Yo (blk:=blk) (off:=off) (cap:=cap) (N:=N) (a:=a1) (b:=b1) (d:=d2) hD2 Fe af NU jl).mono ?_;have jg:Go.Sort.Below ltInt a1 b1 d2:=(hB.perm (ae hD▸NU) (ae hP1)).perm (ae hD1▸NU) (ae Ov);have HPI:=ag (partialInsertionSort_holds CH d2 a1 b1 af (ae hD2▸NU) jg);generalize partialInsertionSort ltInt d2 a1 b1=R at HPI;obtain⟨R1,R2⟩:=R;rintro e w3⟨rfl,Nj,An⟩;have HH3:=ag Nj;have HG3:=ag (aX hG2 An);cases R2 with
  |true=>
   go_wp2;refine dJ (uO (h:=rfl) _ _ _) rfl ⟨rfl,R1,HH3,?_,?_,HG3⟩;{exact(ae hF R1 (permIn_trans _ _ _ a1 b1 (permIn_trans _ _ _ a1 b1 hP1 Ov) HPI.1) (HPI.2 (by first|trivial|rfl))).1};{exact(ae hF R1 (permIn_trans _ _ _ a1 b1 (permIn_trans _ _ _ a1 b1 hP1 Ov) HPI.1) (HPI.2 (by first|trivial|rfl))).2}
  |false=>
   go_wp2_with fail;go_meet;exact⟨R1,HPI.1.1.trans hD2,HH3,HPI.1,HG3⟩)
 obtain⟨d3,hD3,Nj,cH3,hG3⟩:=hcut
 let⟨Y3,eY3⟩:=aB wc
 subst eY3;have hP3:Hid (PermIn a1 b1 dk d3):=permIn_trans _ _ _ a1 b1 (permIn_trans _ _ _ a1 b1 hP1 Ov) cH3;have hB3:Hid (Go.Sort.Below ltInt a1 b1 d3):=hB.perm (ae hD▸NU) (ae hP3)
 go_upto_region 17 with fail
 go_cut[87](λs87 wc=>∃B:Bool,s87=.bool B/\Hid (B=true->0<a1/\ltInt d3[a1-1]! d3[pw]! = false)/\wc=Y3.drew)
 case first=>(
 by_cases ha:0<a1;{
 have Tr:=mW 0 a1;have Aq:(a1:Int)>0:=af;obtain⟨m,em⟩:∃x:Nat,(a1:Int)-1=(x:Int):=⟨a1-1,af⟩;have em0:a1-1=m:=af;have wm:=e8 m;have Ao:=ae hD3;obtain⟨c1,-⟩:=ae Nj m af;obtain⟨c2,-⟩:=ae Nj pw af
 let⟨x,ex⟩:=aL d3[m]!
 let⟨y,ey⟩:=aL d3[pw]!
 rw[ex]at c1;rw[ey]at c2;have k1:=aU m N;have k2:=aU pw N;have k3:=dC 0 m
 let⟨Lt,eLt⟩:=aL (ltInt x y)
 have EL:=ag eLt;have HX:Hid ((!Lt)=true->0<a1/\ltInt d3[a1-1]! d3[pw]! = false):=λbN=>⟨ha,by rw[em0,ex,ey,eLt];simpa using bN⟩;have K0:=ag (ai c1 c2);refine du (λw'=>w'.cell? (Ad blk (off+m))=some (.U x)/\w'.cell? (Ad blk (off+pw))=some (.U y)) (by exact K0) λhS=>?_;refine mj 0 1 2 3 4 5 6 7 hS ?_;refine lG 8 9 10 11 hS ?_;refine cX 12 λKK hK=>?_;refine dh aJ (f:=260) aJ (v1:=.U x) (v2:=.U y) aJ aJ (λ_=>fQ) (fO (x:=x) (y:=y)) ?_;rintro r' w2'⟨rfl,rfl⟩;refine⟨_,rfl,?_⟩;rw[ae EL];refine fh hK (by exact K0) λhS=>?_;refine jR 13 14 hS ?_;refine cY ?_;go_wp2_with fail;go_meet;exact⟨_,rfl,HX,rfl⟩};{have Tr:¬(0:Int)<(a1:Int):=af;refine du (λw'=>True) km λhS=>?_;refine jR 0 1 hS ?_;refine tn 2 hS ?_;refine oQ 3 4 5 6 hS ?_;refine oQ 7 8 9 10 hS ?_;refine sn 11 hS ?_;refine sn 12 hS ?_;refine sn 13 hS ?_;refine tn 14 hS ?_;refine cY ?_;go_wp2_with fail;go_meet;exact⟨false,rfl,(λh=>by cases h),rfl⟩})
 obtain⟨B,rfl,hBB,rfl⟩:=hcut;cases B with
 |true=>
  obtain⟨⟨mid,d4⟩,ePE⟩:∃R,partitionEqual ltInt d3 a1 b1 pw=R:=⟨_,rfl⟩;have hc:=UE (blk:=blk) (off:=off) (cap:=cap) (N:=N) (a:=a1) (b:=b1) (piv:=pw) (d:=d3) hD3 (w:=Y3.drew) Nj x1 x2 NU jl;rw[ePE]at hc
  let⟨m1,m2,m3,m4,m5⟩:=round_eq CH (partitionEqual_holds ltInt) (ae hBB rfl).1 x1 x2 (ae hD3▸NU) (ae hB3) (ae hBB rfl).2 ePE
  have HD4:Hid (d4.size=N):=m3.trans hD3;have Tb:=ag m4;have HL4:Hid (Left a b mid b1 d d4):=λR r1 r2=>by have:=m5 R r1 r2;exact hF R (permIn_trans _ _ _ a1 b1 hP3 this.1) this.2
  go_wp2_with fail;refine hc.mono ?_;rintro e w4⟨rfl,Ry,uX⟩;have HH4:=ag Ry;have HG4:=ag (aX (az hG3) uX);go_wp2;go_roundw;exact⟨mid,b1,lj,p,q,d4,rfl,rfl,rfl,rfl,rfl,af,af,af,af,af,HD4,HH4,Tb,HL4,HG4⟩;exact cg
 |false=>
  obtain⟨⟨mid,ap,d4⟩,ePE⟩:∃R,partition ltInt d3 a1 b1 pw=R:=⟨_,rfl⟩;have hc:=ag6 (blk:=blk) (off:=off) (cap:=cap) (N:=N) (a:=a1) (b:=b1) (piv:=pw) (d:=d3) hD3 (w:=Y3.drew) Nj x1 x2 NU jl;rw[ePE]at hc
  let⟨m1,m2,m3,m4,m5,m6,m7⟩:=round_part CH (partition_holds ltInt) x1 x2 (ae hD3▸NU) (ae hB3) ePE
  have HD4:Hid (d4.size=N):=m3.trans hD3;have Tb:=ag m4;have xG:=ag m5;have HL6:=ag m6;have HL7:=ag m7;obtain⟨lL,elL⟩:∃x:Nat,(mid:Int)-(a1:Int)=(x:Int):=⟨mid-a1,af⟩;obtain⟨rL,erL⟩:∃x:Nat,(b1:Int)-(mid:Int)=(x:Int):=⟨b1-mid,af⟩;have wlL:=e8 lL;have wrL:=e8 rL;obtain⟨th,eth⟩:∃x:Nat,(L:Int) / 8=(x:Int):=⟨L / 8,af⟩;have eb3:Int.tdiv (L:Int) 8=(th:Int):=eth▸Int.tdiv_eq_ediv_of_nonneg af;have wth:=e8 th;go_wp2_with fail;refine hc.mono ?_;rintro e w4⟨rfl,Ry,uX⟩;have HH4:=ag Ry;have HG4:=ag (aX (az hG3) uX);by_cases hlr:lL<rL;{
 have cA1:=aU lL rL;go_wp2_with fail;refine(ae IH (mid-a1) (aI (ae hn)) a1 mid lj d4 _ rfl HD4 HH4 (iq jr HG4.size) m1 af y1 y2 Tb).mono ?_;rintro e w5⟨rfl,d5,JB,hP5,hS5,vZ⟩;have HH5:=ag JB;have HG5:=ag (aX HG4 vZ)
 let⟨o1,o2⟩:=ae HL6 d5 hP5 hS5
 have bs0:=ag o1;have HD5:Hid (d5.size=N):=hP5.1.trans HD4;have HL5:Hid (Left a b (mid+1) b1 d d5):=λR r1 r2=>by have:=o2 R r1 r2;exact hF R (permIn_trans _ _ _ a1 b1 hP3 this.1) this.2
 go_wp2;go_roundw;exact⟨mid+1,b1,lj,_,ap,d5,by first|rfl|go_num,rfl,rfl,rfl,rfl,af,af,af,af,af,HD5,HH5,bs0,HL5,HG5⟩;exact cg};{
 have cA1:=dB lL rL;obtain⟨mp,emp⟩:∃x:Nat,(mid:Int)+1=(x:Int):=⟨mid+1,af⟩;have cL5:mid+1=mp:=af;have wmp:=e8 mp;rw[cL5]at xG HL7;go_wp2_with fail;refine(ae IH (b1-mp) (aI (ae hn)) mp b1 lj d4 _ rfl HD4 HH4 (iq jr HG4.size) af af y1 y2 xG).mono ?_;rintro e w5⟨rfl,d5,JB,hP5,hS5,vZ⟩;have HH5:=ag JB;have HG5:=ag (aX HG4 vZ)
 let⟨o1,o2⟩:=ae HL7 d5 hP5 hS5
 have bs0:=ag o1;have HD5:Hid (d5.size=N):=hP5.1.trans HD4;have HL5:Hid (Left a b a1 mid d d5):=λR r1 r2=>by have:=o2 R r1 r2;exact hF R (permIn_trans _ _ _ a1 b1 hP3 this.1) this.2
 go_wp2;go_roundw;exact⟨a1,mid,lj,_,ap,d5,rfl,rfl,rfl,rfl,rfl,af,af,af,af,af,HD5,HH5,bs0,HL5,HG5⟩
 case measure=>simp[intOf];omega}}}}
end Q
namespace Q
open Go.Sort
def aL1:Calls prog 254 #[.S none 0 cap,.I 0,.I 0] w λe w'=>e=.returned (.tuple #[])/\w'=w:=by
 go_in
 go_wp2_with fail
 go_loopw[6](λs6 wr=>s6=.I 1/\wr=w) (λ_ _=>0)
 exact⟨rfl,rfl⟩;{
 obtain⟨rfl,rfl⟩:=hrel;go_wp2
 go_end0
 exact⟨rfl,rfl⟩}
def aH9:Calls prog 244 #[.S none 0 cap,.I 0,.I 0,.I 0] w λe w'=>e=.returned (.tuple #[])/\w'=w:=by
 go_in
 go_wp2_with fail
 go_loopw[1,2,3,8,9](λs1 s2 s3 s8 s9 wr=>s1=.I 0/\s2=.I 0/\s3=.I 0/\s8=.bool true/\s9=.bool true/\wr=w) (λ_ _ _ _ _ _=>0)
 exact⟨rfl,rfl,rfl,rfl,rfl,rfl⟩;{obtain⟨rfl,rfl,rfl,rfl,rfl,rfl⟩:=hrel;go_wp2_with fail;refine(aL1).mono ?_;rintro e w1⟨rfl,rfl⟩;go_wp2;exact dJ (uO (h:=rfl) _ _ _) rfl ⟨rfl,rfl⟩}
def Pu(cap:Nat)(w:World):Calls prog 215 #[.S none 0 cap] w λe w'=>e=.returned (.tuple #[])/\w'=w:=by
 have hL:=MK (n:=0) af;have e0:Lib.bitLen 0=0:=bj;rw[e0]at hL
 go_in
 go_wp2_with fail;refine(hL _).mono ?_;rintro e w1⟨rfl,rfl⟩;go_wp2_with fail;refine(aH9).mono ?_;rintro e w1⟨rfl,rfl⟩;go_wp2
 go_end0
 exact⟨rfl,rfl⟩
def ad9{blk off cap N:Nat}{d:Array Int}(hN:Hid (d.size=N))(jl:N<=1048576)(h:HU w blk off d)(jr:blk<w.heap.size):Calls prog 215 #[.S (some (Ad blk off)) N cap] w λe w'=>
   e=.returned (.tuple #[])/\∃d',HU w' blk off d'/\PermIn 0 N d d'/\SortedIn ltInt 0 N d'/\w.grownBy w' (some blk):=by
 have hL:=MK jl;have hK:Lib.bitLen N<=21:=Lib.bitLen_le N 21 af af;generalize Lib.bitLen N=K at hL hK;have wU:IntKind.u64.wrap (N:Int)=(N:Int):=by rw[mK];omega
 have H0:=ag h;clear h
 go_in
 go_wp2_with fail;refine(hL _).mono ?_;rintro e w1⟨rfl,rfl⟩;go_wp2_with fail;refine(aI0 blk off cap N jl N 0 N K d _ (by show _=_;omega) hN H0 jr (gr _) ay af af (Or.inl rfl)).mono ?_;rintro e w2⟨rfl,d',hH,hP,hS,hg⟩;have HH:=ag hH;have HP:=ag hP;have HS:=ag hS;have HG:=ag hg;clear hH hP hS hg;go_wp2
 go_end0
 exact⟨rfl,d',HH,HP,HS,HG⟩
def JV(blk off cap:Nat)(l:LI)(jl:Mg l.length)(w:World)(h:HU w blk off l.toArray)(jr:blk<w.heap.size):Cp 215 #[.S (some (Ad blk off)) l.length cap] w λe w'=>
   e=.returned (.tuple #[])/\HU w' blk off (l.mergeSort (λx y=>decide (x<=y))).toArray/\w.grownBy w' (some blk):=by
 refine(ad9 (by show _=_;simp) jl h jr).mono ?_;rintro e w'⟨rfl,d',hH,hP,hS,hg⟩;refine⟨rfl,?_,hg⟩;have e:=sorted_unique_holds CH (λx y h1 h2=>by simp[ltInt]at h1 h2;omega) l.toArray d' (by simpa using hP) (by simpa using hS);have e2:(λx y:Int=>!ltInt y x)=(λx y=>decide (x<=y)):=by
  funext x y
  by_cases hh:x<=y;{rw[BJ hh];simp[ltInt];omega};{rw[tW hh];simp[ltInt];omega}
 rw[e2]at e;have e3:d'=(l.mergeSort (λx y=>decide (x<=y))).toArray:=by rw[<-show d'.toList.toArray=d' from by simp,e]
 rw[<-e3];exact hH
end Q
namespace Q
open Go.Sort
def scE(h:p:=by
    have h1:1<=n:=af;have haf:Fence.wide.fn 243:=km;have hbf:Fence.wide.fn 246:=km
    first|refine mJ func214 rfl km ?_ rfl|refine mJ func217 rfl km ?_ rfl
    simp only[ntmps214,ntmps217,Er,Nat.reduceAdd,Nat.reduceSub]
    gi_wp2_with((first|gi_at_call 243|gi_at_call 246);refine(AG (n-1) af g lb eg S Sp N hN _ Rk).mono ?_;rintro e w'⟨v,ss,rfl,hS,fo,YL,hb⟩)
    go_ret;exact⟨v,ss,rfl,hS,fo,YL,hb⟩):p:=h
def Ir(n:Nat)(hn:3<=n)(g:Nat)(lb:Array Value)(eg:∀args w,(callFunc g args).run prog w=.ok (.enter g args) w)(S Sp:LI->Prop)(N:Nat)(hN:N<=1048576)(w:World)(Rk:SeqStopsK Fence.wide (n-1-1) prog g lb (λx:Int=>#[jT x]) KeepsWalks S Sp N w):CallsIn Fence.wide n prog 214 #[.func (.func g) #[] lb] w λe w'=>∃(v:Value)(ss:LI),e=.returned v/\S ss/\w'.ownsRow (w.heap.size+1) 27 1 v ss.length (ss.map jT)/\(v=aq↔ss=[])/\Bw w w':=scE
def bg4{α:Type}{enc:α->Value}{g:Nat}{e:TypeId}{ss:List α}[Inhabited α](hb:w.heap[g]?=some (.cells cur e (0,0)))(ht:cur.toList.take ss.length=ss.map enc):Holds enc w g 0 ss.toArray:=by
  intro j hj;have hj':j<ss.length:=by simpa using hj
  refine⟨?_,by simp[World.frozen?,hb]⟩;have h1:(cur.toList.take ss.length)[j]?=(ss.map enc)[j]?:=by rw[ht]
  rw[bF2 hj']at h1;simp only[World.cell?,hb,ly];simp only[aV9,MI,Cb];rw[<-am0,h1];simp[hj']
def RdK(B:Nat)(w:World)(v:Value)(ss:LI):Prop:=(v=aq/\ss=[])\/∃g cap,v=.T g ss.length cap/\B<=g/\g<w.heap.size/\HU w g 0 ss.toArray
structure Asc{H:Type}(D0:DataW H)(ss:LI):Prop where
  lt:ss.Pairwise (·<·)
  mem:∀x,x∈ss↔has D0 (.U x)=true
  size:ss.length<=Maps.size D0
def ay9{H:Type}{D0:DataW H}{ss:LI}(h:jQ D0 ss):Asc D0 (ss.mergeSort (λx y=>decide (x<=y))):=by
  have hp:=List.mergeSort_perm ss (λx y=>decide (x<=y));refine⟨?_,λx=>(hp.mem_iff).trans (h.2.1 x),by rw[hp.length_eq];exact h.2.2⟩;have h1:=aV7 (le:=λx y:Int=>decide (x<=y)) (λa b c h1 h2=>by simp at*;omega) (λa b=>by simp;omega) ss;have h2:(ss.mergeSort (λx y=>decide (x<=y))).Pairwise (·≠·):=hp.nodup_iff.2 h.1;exact(h1.and h2).imp (λ{a b}⟨x,y⟩=>by simp at x;omega)
def scG(h:p:=by
    have h1:1<=n:=af;have haf:Fence.wide.fn 214:=km;have hbf:Fence.wide.fn 217:=km;have ua:Fence.wide.fn 215:=km;have hdf:Fence.wide.fn 218:=km
    first|refine mJ func175 rfl km ?_ rfl|refine mJ func177 rfl km ?_ rfl
    simp only[ntmps175,ntmps177,Er,Nat.reduceAdd,Nat.reduceSub]
    gi_wp2_with((first|gi_at_call 214|gi_at_call 217);refine(Ir (n-1) af g lb eg S Sp N hN _ Rk).mono ?_;rintro e w'⟨v,ss,rfl,hSs,fo,YL,hb⟩)
    rcases fo.2 with⟨rfl,_⟩|⟨gb,cap,cur,rfl,DD,hgb,KL,nO,KJ,hr4⟩;{
 have e0:ss=[]:=YL.1 rfl;subst e0
 gi_wp2_with((first|gi_at_call 215|gi_at_call 218);refine(xj.2 (Pu 0 _)).mono ?_;rintro e w2⟨rfl,rfl⟩)
 go_ret;exact⟨_,[],rfl,hSs,.inl ⟨rfl,al⟩,hb⟩};{
 have bf:gb<w'.heap.size:=(Jg.1 hgb).1;have hH:=bg4 hgb (by simpa using hr4)
 gi_wp2_with((first|gi_at_call 215|gi_at_call 218);refine(xj.2 (JV gb 0 cap ss (hS ss hSs) _ hH bf)).mono ?_;rintro e w2⟨rfl,Fe,gI⟩)
 go_ret;refine⟨_,ss,rfl,hSs,.inr ⟨gb,cap,by rw[List.length_mergeSort];rfl,af,iq bf gI.size,Fe⟩,?_⟩;exact hb.grown gI hb.size (λk e=>by cases e;omega)}):p:=h
def JU(n:Nat)(hn:4<=n)(g:Nat)(lb:Array Value)(eg:∀args w,(callFunc g args).run prog w=.ok (.enter g args) w)(S Sp:LI->Prop)(N:Nat)(hN:N<=1048576)(hS:∀ss,S ss->ss.length<=1048576)(w:World)(Rk:SeqStopsK Fence.wide (n-1-1-1) prog g lb (λx:Int=>#[jT x]) KeepsWalks S Sp N w):CallsIn Fence.wide n prog 175 #[.func (.func g) #[] lb] w λe w'=>∃(v:Value)(ss:LI),e=.returned v/\S ss/\RdK w.heap.size w' v (ss.mergeSort (λx y=>decide (x<=y)))/\Bw w w':=scG
theorem scH(h:p:=by
    refine(xj (n:=6)).1 ?_;have haf:Fence.wide.fn 176:=km;have hbf:Fence.wide.fn 220:=km;have ua:Fence.wide.fn 178:=km;have hdf:Fence.wide.fn 175:=km;have hef:Fence.wide.fn 177:=km;have Ru:=bR.lt;have Ai:∀t,(w.alloc (.cells #[.map (some b)] t)).ownsMap prog kT R b nn D0:=by obtain⟨es,clock,hb,Ft,hs,hD⟩:=bR;exactλt=>⟨es,clock,(Yv _ _ b Ru).trans hb,Ft,hs,hD⟩
    first|refine mJ func115 rfl km ?_ rfl|refine mJ func179 rfl km ?_ rfl|refine mJ func117 rfl km ?_ rfl
    simp only[ntmps115,ntmps179,ntmps117,Er,Nat.reduceAdd,Nat.reduceSub]
    gi_wp2_with(first
      | ((first|gi_at_call 176|gi_at_call 220|gi_at_call 178);first|refine(an6 _ _ _).mono ?_|refine(bg0).mono ?_
         rintro e w'⟨rfl,rfl⟩)
      |((first|gi_at_call 175|gi_at_call 177);refine CallsIn.mono (JU 5 af _ _ (λargs w=>bg) (jQ D0) (λ_=>True) _ jl (λss h=>fu h.2.2 jl) _ (by first|exact Wo 2 af w.heap.size b nn D0 _ al al (Ai _)|exact aG2 af al al (Ai _))) ?_;rintro e w'⟨v,ss,rfl,hS,Rm,hb⟩))
    go_ret;refine⟨v,_,rfl,ay9 hS,?_,((cQ _ w).alloc ay _).trans (hb.mono al)⟩;rcases Rm with h|⟨g,cap,h1,h2,h3,h4⟩;{exact .inl h};{exact .inr ⟨g,cap,h1,by simp at h2;omega,h3,h4⟩}):p:=h
def kH{H:Type}(b nn:Nat)(D0:DataW H){R:Value->Option (DataW H×List MemPlace)}(w:World)(bR:w.ownsMap prog 27 R b nn D0)(jl:Maps.size D0<=1048576):Cp 115 #[.map (some b)] w λe w'=>∃(v:Value)(ss:LI),e=.returned v/\Asc D0 ss/\RdK w.heap.size w' v ss/\Bw w w':=scH
def sH{H:Type}(b nn:Nat)(D0:DataW H){R:Value->Option (DataW H×List MemPlace)}(w:World)(bR:w.ownsMap prog 27 R b nn D0)(jl:Maps.size D0<=1048576):Cp 179 #[.map (some b)] w λe w'=>∃(v:Value)(ss:LI),e=.returned v/\Asc D0 ss/\RdK w.heap.size w' v ss/\Bw w w':=scH
end Q
theorem Mp{B:Nat}{ss:LI}(h:Q.RdK B w v ss):∃p c A,v=.S p ss.length c/\oK w (.S p ss.length c) ss/\ZA (.S p ss.length c) ss A/\jE B w A:=by
 rcases h with⟨rfl,rfl⟩|⟨g,cap,rfl,hb,hl,hH⟩;{exact⟨none,0,[],rfl,⟨none,0,rfl,.inl rfl⟩,⟨none,0,[],rfl,rfl,rfl,.inl rfl⟩,jE.nil _ _⟩};{
 have hc:∀i,i<ss.length->w.cell? (Ad g (0+i))=some (.U (ss.getD i 0))/\w.frozen? (Ad g (0+i))=false:=λi hi=>by
  have:=hH i (by simpa using hi);simp only[List.getElem!_toArray]at this;rw[gj,aY hi];have e:ss[i]! = ss[i]:=by simp[hi]
  first|(rw[e]at this;exact this)|simpa[hi]using this
 refine⟨some (Ad g 0),cap,(List.range ss.length).map λi=>⟨g,0+i,.u64⟩,rfl,⟨_,_,rfl,.inr ⟨g,0,rfl,λi hi=>(hc i hi).1⟩⟩,⟨some (Ad g 0),cap,(List.range ss.length).map λi=>[⟨g,0+i,.u64⟩],rfl,al,?_,.inr ⟨g,0,rfl,λi x l' hx hl=>?_⟩⟩,⟨?_,λa ha=>?_,λa ha=>?_⟩⟩;{
 induction(List.range ss.length)with
 |nil=>rfl
 |cons i r ih=>rw[iH,iH,sV,<-ih];rfl}
 {
 let⟨hi,e⟩:=aV.1 hl
 simp at e;rw[<-e,zL,ly]
 rfl}
 {rw[sR,List.Nodup,Ef];exact ak6.imp (λ{i j}ld=>by simpa using ld)};{obtain⟨i,hi,rfl⟩:=iR.1 ha;exact hb};{
 obtain⟨i,hi,rfl⟩:=iR.1 ha
 let⟨h1,h2⟩:=hc i (by simpa using hi)
 exact⟨⟨_,h1⟩,h2⟩}}
theorem tG:∀{l m:LI},l.Pairwise (·<·)->m.Pairwise (·<·)->(∀x,x∈l↔x∈m)->l=m
 |[],[],_,_,_=>rfl
 |[],b::m,_,_,h=>absurd ((h b).2 al) al
 |a::l,[],_,_,h=>absurd ((h a).1 al) al
 |a::l,b::m,h1,h2,h=>by
  rw[zQ]at h1 h2;have Tq:a=b:=by rcases jv.1 ((h a).1 al)with e|e;{exact e};{rcases jv.1 ((h b).2 al)with e'|e';{exact e'.symm};{have:=h2.1 a e;have:=h1.1 b e';omega}}
  subst Tq;rw[tG h1.2 h2.2 (λx=>?_)];constructor;{intro hx;rcases jv.1 ((h x).1 (by simp[hx]))with e|e;{have:=h1.1 x hx;omega};{exact e}};{intro hx;rcases jv.1 ((h x).2 (by simp[hx]))with e|e;{have:=h2.1 x hx;omega};{exact e}}
def FO{s ss:LI}(h:dL D s)(hs:s.Pairwise (·<·))(ha:Q.Asc D ss):ss=s:=by
 refine tG ha.lt hs λx=>?_;rw[ha.mem x,h];constructor;{rintro⟨i,hi,e⟩;simp only[Db,MC]at e;rw[e];exact hi};{intro hx;exact⟨x,hx,rfl⟩}
structure KN(w:World)(g h u:Nat)(V:Value)(nd:aD):Prop where
 blk:w.heap[g]?=some (.cells #[V,.U nd.owner,.I nd.mode,.map (some h),.U nd.aE,.U nd.gen,.map (some u)] 162)
 val:Rd w V nd.value
 Xp:∃D,w.ownsMap Tryz.prog 27 unitElem h nd.holders.length D/\dL D nd.holders
 TF:∃D,w.ownsMap Tryz.prog 27 unitElem u nd.watchers.length D/\dL D nd.watchers
structure PB(w:World)(M N:Nat)(v:Value)(xs:LI)(A:List Lf):Prop where
 rd:Rd w v xs
 cap:nR v
 lv:SQ v xs A
 ap:jE M w A
 hi:∀a∈A,a.b<N
structure PU(w:World)(M N:Nat)(v:Value)(xs:LI)(A:List Lf):Prop where
 rd:oK w v xs
 lv:ZA v xs A
 ap:jE M w A
 hi:∀a∈A,a.b<N
def PB.below{N:Nat}(h:PB w M N v xs A)(hb:Bw w w'):PB w' M N v xs A:=
 ⟨h.rd.below hb,h.cap,h.lv,h.ap.keep (λa ha=>hb.block _ (h.ap.tf.lt ha)),h.hi⟩
def PU.below{N:Nat}(h:PU w M N v xs A)(hb:Bw w w'):PU w' M N v xs A:=
 ⟨h.rd.below hb,h.lv,h.ap.keep (λa ha=>hb.block _ (h.ap.tf.lt ha)),h.hi⟩
variable {p:OA}
def Own.pb{B:Nat}(h:Own B w (.S p n c) l):∃A,PB w B w.heap.size (.S p n c) l A:=by
 let⟨A,q1,q2,q3,q4⟩:=Gc (kd:=.u8) h
 exact⟨A,h.rd,⟨_,_,_,rfl,h.cap,h.qm⟩,q1,q2,λa ha=>q2.tf.lt ha⟩
def jE.bp2{B:Nat}(h:jE B w A)(h2:jE B w A2)(hd:∀a∈A,∀a2∈A2,a.b≠a2.b):jE B w (A++A2):=by
 refine⟨?_,λa ha=>?_,dt.app.2 ⟨h.tf,h2.tf⟩⟩;{rw[l8,BN];refine⟨h.nd,h2.nd,λx hx y hy=>?_⟩;obtain⟨a,ha,rfl⟩:=iR.1 hx;obtain⟨a2,Aq,rfl⟩:=iR.1 hy;intro e;simp only[gy]at e;exact hd a ha a2 Aq e.1};{rcases gu.1 ha with ha|ha;{exact h.lo a ha};{exact h2.lo a ha}}
def Zs(hB:aN l)(hj:j<l.length):(((aP l).data.toList.getD j 0).toNat:Int)=l.getD j 0:=by
 have hj':j<(aP l).size:=by rw[gQ];exact hj
 have h:=Sx hB hj';rw[<-h];have hl:j<(aP l).data.toList.length:=by rw[jU];simpa using hj
 rw[gj,aY hl]
 rfl
theorem aQ1(w:World)(hB:aN l)(hl:Mg l.length):∃p' c' W A,(convert 9 22 (.string (aP l))).run prog w=.ok (.S p' l.length c') W/\PB W w.heap.size W.heap.size (.S p' l.length c') l A/\Bw w W:=by
 have dK:=Lib.run_convert_string_bytes (P:=prog) w 9 22 5 (aP l) underlying9 underlying22 underlying5;rw[gQ]at dK
 let⟨W,hW⟩:=aB (Lib.bytesWorld w 5 (aP l))
 have jl:W.heap.size=w.heap.size+1:=by rw[hW];exact Lib.bytesWorld_size _ _ _
 have cT:∀j,j<l.length->W.cell? (Ad w.heap.size (0+j))=some (.int .u8 (l.getD j 0)):=λj hj=>by rw[hW,ly,Lib.bytesWorld_cell _ _ _ _ (by rw[gQ];exact hj),Zs hB hj]
 have hfz:∀j,j<l.length->W.frozen? (Ad w.heap.size (0+j))=false:=λj hj=>by
  have hn:=Lib.bytesWorld_at_new w 5 (aP l);have hs:j<(Lib.bytesCells w 5 (aP l)).size:=by simp only[Lib.bytesCells,aU1,Array.size_map];have:(aP l).data.size=l.length:=gQ (l:=l);omega
  rw[hW,ly];simp only[World.frozen?,hn];simp;omega
 have hb:Bw w W:=by refine⟨by rw[hW];rfl,by rw[hW];rfl,by rw[hW];rfl,af,λk hk=>by rw[hW];exact Lib.bytesWorld_at_old _ _ _ _ hk⟩
 have ud:nR (.T w.heap.size l.length (grownCap w l.length 0 5)):=⟨_,_,_,rfl,aU4 _ _ _ _,aU3 _ _ _ _ iB⟩;rw[<-hW]at dK;refine⟨_,_,_,(List.range l.length).map λi=>⟨w.heap.size,0+i,.u8⟩,dK,⟨⟨_,_,rfl,.inr ⟨w.heap.size,0,rfl,cT⟩⟩,ud,⟨some (Ad w.heap.size 0),_,(List.range l.length).map λi=>[⟨w.heap.size,0+i,.u8⟩],rfl,al,?_,.inr ⟨w.heap.size,0,rfl,λi x l' hx hl=>?_⟩⟩,⟨?_,λa ha=>?_,λa ha=>?_⟩,λa ha=>?_⟩,hb⟩;{
 induction(List.range l.length)with
 |nil=>rfl
 |cons i r ih=>rw[iH,iH,sV,<-ih];rfl}
 {
 let⟨hi,e⟩:=aV.1 hl
 simp at e;rw[<-e,zL,ly]
 rfl}
 {rw[sR,List.Nodup,Ef];exact ak6.imp (λ{i j}ld=>by simpa using ld)};{obtain⟨i,hi,rfl⟩:=iR.1 ha;exact iD _};{obtain⟨i,hi,rfl⟩:=iR.1 ha;exact⟨⟨_,cT i (by simpa using hi)⟩,hfz i (by simpa using hi)⟩};{obtain⟨i,hi,rfl⟩:=iR.1 ha;simp only;omega}
def Ud{Q:Exit->Act->World->Prop}(ng:o.guard=none){x:Operand}(Jp:o.op=Op.convert 9 22 x)(hx:a.eval x=.string (aP l))(hB:aN l)(hl:Mg l.length)(hK:∀p' c' w' A,PB w' w.heap.size w'.heap.size (.S p' l.length c') l A->Bw w w'->K (a.put o.dst (.S p' l.length c')) w'):if Region.wanted o (yielded ops a.tmps)=true then Oper.wp prog o a w K Q else E:=by
 have hw:Region.wanted o (yielded ops a.tmps)=true:=by simp[Region.wanted,ng]
 rw[bO hw]
 let⟨p',c',W,A,dK,hP,hb⟩:=aQ1 w hB hl
 unfold Oper.wp;simp only[execOp,Jp,hx,ai7,Qy,Result.andThen_ok,dK,Result.andThen];exact hK _ _ _ _ hP hb
def iA.mk4{B:Nat}{p0 p1 p4 p7:OA}{c0 c1 c4 c7 M0 N0 M1 N1 M4 N4 M7 N7:Nat}{l0 l1 l4 l7:List Lf}(h0:PB w M0 N0 (.S p0 nd.path.length c0) nd.path l0)(h1:PB w M1 N1 (.S p1 nd.value.length c1) nd.value l1)(h4:PU w M4 N4 (.S p4 nd.holders.length c4) nd.holders l4)(h7:PU w M7 N7 (.S p7 nd.watchers.length c7) nd.watchers l7)(b0:B<=M0)(b1:B<=M1)(b4:B<=M4)(b7:B<=M7)(d01:N0<=M1\/N1<=M0)(d04:N0<=M4\/N4<=M0)(d07:N0<=M7\/N7<=M0)(d14:N1<=M4)(d17:N1<=M7)(d47:N4<=M7):iA w nd [.S p0 nd.path.length c0,.S p1 nd.value.length c1,.U nd.owner,.I nd.mode,.S p4 nd.holders.length c4,.U nd.aE,.U nd.gen,.S p7 nd.watchers.length c7] (l0++(l1++(l4++l7)))/\jE B w (l0++(l1++(l4++l7))):=by
 refine⟨⟨p0,c0,p1,c1,p4,c4,p7,c7,l0,l1,l4,l7,rfl,rfl,⟨h0.rd,h0.cap,h0.lv⟩,⟨h1.rd,h1.lv⟩,⟨h4.rd,h4.lv⟩,⟨h7.rd,h7.lv⟩⟩,?_⟩;refine(h0.ap.mono b0).bp2 ((h1.ap.mono b1).bp2 ((h4.ap.mono b4).bp2 (h7.ap.mono b7) λa ha a2 Aq e=>?_) λa ha a2 Aq e=>?_) λa ha a2 Aq e=>?_;{have:=h4.hi a ha;have:=h7.ap.lo a2 Aq;omega};{rcases gu.1 Aq with Aq|Aq;{have:=h1.hi a ha;have:=h4.ap.lo a2 Aq;omega};{have:=h1.hi a ha;have:=h7.ap.lo a2 Aq;omega}};{rcases gu.1 Aq with Aq|Aq;{have:=h0.hi a ha;have:=h0.ap.lo a ha;have:=h1.hi a2 Aq;have:=h1.ap.lo a2 Aq;omega};{rcases gu.1 Aq with Aq|Aq;{have:=h0.hi a ha;have:=h0.ap.lo a ha;have:=h4.hi a2 Aq;have:=h4.ap.lo a2 Aq;omega};{have:=h0.hi a ha;have:=h0.ap.lo a ha;have:=h7.hi a2 Aq;have:=h7.ap.lo a2 Aq;omega}}}
theorem ah4{g:Nat}(hk:KN w g h u V nd)(hh:nd.holders.Pairwise (·<·))(hu:nd.watchers.Pairwise (·<·))(l1:nd.path.length<=1048576)(l2:nd.value.length<=1048576)(l3:nd.holders.length<=1048576)(l4:nd.watchers.length<=1048576)(gh:aN nd.path):Calls prog 118 #[.pointer (some (Ad g 0)),.string (aP nd.path)] w λr w'=>∃c l,r=.returned (.agg c)/\iA w' nd c.toList l/\jE w.heap.size w' l/\Bw w w':=by
 obtain⟨jr,Hn,⟨D1,o1,s1⟩,⟨D2,o2,s2⟩⟩:=hk;obtain⟨pv,cv,nv,rfl,ev⟩:=Hn.gF;have hA7:sy w g (.S pv nv cv) (.U nd.owner) (.I nd.mode) (.map (some h)) (.U nd.aE) (.U nd.gen) (.map (some u)):=⟨ao jr 0,ao jr 1,ao jr 2,ao jr 3,ao jr 4,ao jr 5,ao jr 6⟩
 let⟨W0,fL⟩:=aB (w.alloc (.cells #[aq,aq,.U 0,.I 0,aq,.U 0,.U 0,aq] 133))
 have b0:=dX fL;have z0:W0.heap.size=w.heap.size+1:=by rw[fL];simp
 have r0:ar W0 w.heap.size [aq,aq,.U 0,.I 0,aq,.U 0,.U 0,aq]:=by rw[fL];exact ar.alloc w #[aq,aq,.U 0,.I 0,aq,.U 0,.U 0,aq] _
 have SZ1:=ag (fu o1.size_le l3);have SZ2:=ag (fu o2.size_le l4);obtain⟨ow,mo,ep,ge,e1,e2,e3,e4⟩:∃a b c d,nd.owner=a/\nd.mode=b/\nd.aE=c/\nd.gen=d:=⟨_,_,_,_,rfl,rfl,rfl,rfl⟩
 rw[e1,e2,e3,e4]at hA7;have HE:=ag (ai e1 (ai e2 (ai e3 e4)))
 go_in
 go_wp2_with fail;rw[<-fL]
 let⟨v,mY⟩:=aB W0.drew
 have bv:Bw w v:=by rw[mY];exact b0.drew
 have zv:w.heap.size<v.heap.size:=by rw[mY];show w.heap.size<W0.heap.size;omega
 have R:Hid (ar v w.heap.size [aq,aq,.U 0,.I 0,aq,.U 0,.U 0,aq]):=by rw[mY];exact r0
 have S:=ag (hA7.below bv);refine du (λw'=>sy w' g (.S pv nv cv) (.U ow) (.I mo) (.map (some h)) (.U ep) (.U ge) (.map (some u))) (by rw[<-mY];exact ae S) λhS=>?_;rw[<-mY]at hS⊢;have BW:=ag bv;have OH:=ag (o1.kept (aC bv none) al);have OU:=ag (o2.kept (aC bv none) al);have RV:=ag (Hn.below bv);have T1:=ag s1;have T2:=ag s2;have HH:=ag hh;have HU:=ag hu;have HBY:=ag gh;clear mY fL b0 z0 r0 jr Hn o1 o2 hA7 s1 s2 hh hu gh bv;refine mj 0 2 3 4 5 8 9 10 hS ?_;refine mj 11 12 13 14 15 16 17 18 hS ?_;refine mj 19 20 21 22 23 24 25 26 hS ?_;refine lG 27 29 30 31 hS ?_;refine tn 32 hS ?_
 iterate 5 (
  all_goals(first|refine I0 1 (λKK hK=>?_)|refine Tg 1 6 (λKK hK=>?_) (λKK hK=>?_)|refine I0 6 (λKK hK=>?_)|refine Tg 1 7 (λKK hK=>?_) (λKK hK=>?_)|refine I0 7 (λKK hK=>?_)|refine Tg 1 28 (λKK hK=>?_) (λKK hK=>?_)|refine I0 28 (λKK hK=>?_)|refine Tg 1 33 (λKK hK=>?_) (λKK hK=>?_)|refine I0 33 (λKK hK=>?_))
  all_goals(first
   |(
    refine Tag.go 1 ?_;refine Ud aJ aJ (l:=nd.path) aJ HBY l1 ?_;intro pC cC v' lC fC hb;have FC:=ag fC;clear fC)
   | (
    refine Tag.go 6 ?_;go_simp
    let⟨v',hv⟩:=aB (v.alloc (.cells #[.S pv nv cv] 22))
    have hb:=dX hv;have HP:Hid (lh v' v.heap.size [.S pv nv cv] [nd.value]):=⟨rfl,λj y x q1 q2=>by
     match j,q1,q2 with
     |0,q1,q2=>simp at q1 q2;subst q1 q2;exact⟨by rw[hv];simp,RV.below hb⟩⟩
    rw[<-hv]
    let⟨GB,hGB⟩:=aB v.heap.size
    rw[<-hGB]at HP⊢;clear hv hGB)
   |(
    refine Tag.go 7 ?_;refine iw (fK (g:=GB) (vs:=[.S pv nv cv]) [nd.value] (lm:=nd.value) (n:=nd.value.length) 1 rfl (by show _=_;simp[cat]) bD (ae HP) af af) ?_;rintro r v'⟨pJ,cJ,rfl,oJ,hb⟩;refine⟨_,rfl,?_⟩
    let⟨lJ,fJ⟩:=Own.pb oJ
    have FJ:=ag fJ;clear fJ oJ HP)
   |(
    refine Tag.go 28 ?_;refine iw (Q.sH h _ D1 _ OH SZ1) ?_;rintro r v'⟨y,ss,rfl,Tv,Oh,hb⟩;refine⟨_,rfl,?_⟩;rw[FO (ae T1) (ae HH) Tv]at Oh;obtain⟨pH,cH,lH,rfl,q1,q2,q3⟩:=Mp Oh;have FH:Hid (PU v' v.heap.size v'.heap.size (.S pH nd.holders.length cH) nd.holders lH):=⟨q1,q2,q3,λa ha=>q3.tf.lt ha⟩;clear Tv Oh q1 q2 q3)
   |(
    refine Tag.go 33 ?_;refine iw (Q.sH u _ D2 _ OU SZ2) ?_;rintro r v'⟨y,ss,rfl,Tv,Oh,hb⟩;refine⟨_,rfl,?_⟩;rw[FO (ae T2) (ae HU) Tv]at Oh;obtain⟨pU,cU,lU,rfl,q1,q2,q3⟩:=Mp Oh;have FU:Hid (PU v' v.heap.size v'.heap.size (.S pU nd.watchers.length cU) nd.watchers lU):=⟨q1,q2,q3,λa ha=>q3.tf.lt ha⟩;clear Tv Oh q1 q2 q3))
  all_goals(
   have S:=ag (S.below hb);have BW:=ag (aj BW hb);have OH:=ag (OH.kept (aC hb none) al);have OU:=ag (OU.kept (aC hb none) al);have RV:=ag (RV.below hb);have R:=ag (R.below af hb);have z:v.heap.size<=v'.heap.size:=hb.size
   try have HP:=ag (HP.below hb)
   try have FC:=ag (FC.below hb)
   try have FJ:=ag (FJ.below hb)
   try have FH:=ag (FH.below hb)
   try have FU:=ag (FU.below hb)
   refine fh hK (by exact S) λhS=>?_
   rename World=>v
   skip))
 all_goals(
  refine tn 34 hS ?_;have rc0:=R.1 0 _ rfl;have rc1:=R.1 1 _ rfl;have rc2:=R.1 2 _ rfl;have rc3:=R.1 3 _ rfl;have rc4:=R.1 4 _ rfl;have rc5:=R.1 5 _ rfl;have rc6:=R.1 6 _ rfl;have rc7:=R.1 7 _ rfl;have rf:=R.2;refine ry [35] (cn (λKK hK=>?_) eh);go_simp
  let⟨Z,hZ⟩:=aB ((((((((v.setCell (Ad w.heap.size 0) (.S pC nd.path.length cC)).setCell (Ad w.heap.size 1) (.S pJ nd.value.length cJ)).setCell (Ad w.heap.size 2) (.U ow)).setCell (Ad w.heap.size 3) (.I mo)).setCell (Ad w.heap.size 4) (.S pH nd.holders.length cH)).setCell (Ad w.heap.size 5) (.U ep)).setCell (Ad w.heap.size 6) (.U ge)).setCell (Ad w.heap.size 7) (.S pU nd.watchers.length cU))
  have hkz:∀b,b≠w.heap.size->Z.heap[b]?=v.heap[b]?:=λb hb=>by
   rw[hZ]
   iterate 8 rw[ga _ _ _ _ hb]
  have cZ:=(ar.dH (ar.dH (ar.dH (ar.dH (ar.dH (ar.dH (ar.dH (ar.dH (ae R) 0 al (.S pC nd.path.length cC)) 1 al (.S pJ nd.value.length cJ)) 2 al (.U ow)) 3 al (.I mo)) 4 al (.S pH nd.holders.length cH)) 5 al (.U ep)) 6 al (.U ge)) 7 al (.S pU nd.watchers.length cU));rw[<-hZ]at cZ;have hbZ:Bw w Z:=by rw[hZ];exact((((((((BW.setCell ay _).setCell ay _).setCell ay _).setCell ay _).setCell ay _).setCell ay _).setCell ay _).setCell ay _)
  let⟨en,apn⟩:=iA.mk4 (B:=w.heap.size+1) FC FJ FH FU af af af af af af af af af af
  have dT:∀y∈lC++(lJ++(lH++lU)),Z.heap[y.b]?=v.heap[y.b]?:=λy hy=>hkz _ (aI (apn.lo y hy));have EN:=ag (ai (iA.keep _ Z _ _ _ en dT) (ai ((apn.keep dT).mono (B':=w.heap.size) af) hbZ));have SZg:sy Z g (.S pv nv cv) (.U ow) (.I mo) (.map (some h)) (.U ep) (.U ge) (.map (some u)):=by
   have bS:g≠w.heap.size:=λe=>by have h1:=R.1 0 _ rfl;have h2:=S.2.1;rw[e]at h2;have h3:=R.1 1 _ rfl;rw[h2]at h3;simp at h3
   let⟨s0,s1,s2,s3,s4,s5,s6⟩:=ae S
   have hz:=aF (hkz g bS);exact⟨(hz _).trans s0,(hz _).trans s1,(hz _).trans s2,(hz _).trans s3,(hz _).trans s4,(hz _).trans s5,(hz _).trans s6⟩
  rw[<-hZ];refine fh hK (by exact SZg) λhS=>?_;have zc0:=cZ.1 0 _ rfl;have zc1:=cZ.1 1 _ rfl;have zc2:=cZ.1 2 _ rfl;have zc3:=cZ.1 3 _ rfl;have zc4:=cZ.1 4 _ rfl;have zc5:=cZ.1 5 _ rfl;have zc6:=cZ.1 6 _ rfl;have zc7:=cZ.1 7 _ rfl;refine cY ?_
  let⟨e1,e2,e3,e4⟩:=ae HE
  go_wp2;refine dJ (v:=.agg #[.S pC nd.path.length cC,.S pJ nd.value.length cJ,.U ow,.I mo,.S pH nd.holders.length cH,.U ep,.U ge,.S pU nd.watchers.length cU]) (by simp[results,results118,go_sem,zc0,zc1,zc2,zc3,zc4,zc5,zc6,zc7]) rfl ⟨_,lC++(lJ++(lH++lU)),rfl,?_,EN.2.1,EN.2.2⟩;have Jt:=EN.1;rw[e1,e2,e3,e4]at Jt;exact Jt
  skip)
namespace T
open Go.Sort Go.Proofs.YtnhnbpkfpaondaaGreatDoor.Q
def Ir(n:Nat)(hn:3<=n)(g:Nat)(lb:Array Value)(eg:∀args w,(callFunc g args).run prog w=.ok (.enter g args) w)(S Sp:List (List UInt8)->Prop)(N:Nat)(hN:N<=1048576)(w:World)(Rk:SeqStopsK Fence.wide (n-1-1) prog g lb (λx:List UInt8=>#[jT x]) KeepsWalks S Sp N w):CallsIn Fence.wide n prog 217 #[.func (.func g) #[] lb] w λe w'=>∃(v:Value)(ss:List (List UInt8)),e=.returned v/\S ss/\w'.ownsRow (w.heap.size+1) 9 1 v ss.length (ss.map jT)/\(v=aq↔ss=[])/\Bw w w':=Q.scE
def RdK(B:Nat)(w:World)(v:Value)(ss:List (List UInt8)):Prop:=(v=aq/\ss=[])\/∃g cap,v=.T g ss.length cap/\B<=g/\g<w.heap.size/\HT w g 0 ss.toArray
structure Asc{H:Type}(D0:DataW H)(ss:List (List UInt8)):Prop where
 lt:ss.Pairwise (·<·)
 mem:∀x,x∈ss↔has D0 (.string x)=true
 size:ss.length<=Maps.size D0
def ay9{H:Type}{D0:DataW H}{ss:List (List UInt8)}(h:jQ D0 ss):Asc D0 (ss.mergeSort (λx y=>decide (x<=y))):=by
 have hp:=List.mergeSort_perm ss (λx y=>decide (x<=y));refine⟨?_,λx=>(hp.mem_iff).trans (h.2.1 x),by rw[hp.length_eq];exact h.2.2⟩;have h1:=aV7 (le:=λx y:List UInt8=>decide (x<=y)) (λa b c h1 h2=>by simp only[jj]at*;exact List.le_trans h1 h2) (λa b=>by simp only[Kq,jj];exact List.le_total a b) ss;have h2:(ss.mergeSort (λx y=>decide (x<=y))).Pairwise (·≠·):=hp.nodup_iff.2 h.1;refine(h1.and h2).imp (λ{a b}⟨x,y⟩=>?_);simp only[jj]at x;exact aV6 λhh=>y (List.le_antisymm x hh)
def JU(n:Nat)(hn:4<=n)(g:Nat)(lb:Array Value)(eg:∀args w,(callFunc g args).run prog w=.ok (.enter g args) w)(S Sp:List (List UInt8)->Prop)(N:Nat)(hN:N<=1048576)(hS:∀ss,S ss->Mg ss.length)(w:World)(Rk:SeqStopsK Fence.wide (n-1-1-1) prog g lb (λx:List UInt8=>#[jT x]) KeepsWalks S Sp N w):CallsIn Fence.wide n prog 177 #[.func (.func g) #[] lb] w λe w'=>∃(v:Value)(ss:List (List UInt8)),e=.returned v/\S ss/\RdK w.heap.size w' v (ss.mergeSort (λx y=>decide (x<=y)))/\Bw w w':=Q.scG
def kH{H:Type}(b nn:Nat)(D0:DataW H){R:Value->Option (DataW H×List MemPlace)}(w:World)(bR:w.ownsMap prog 9 R b nn D0)(jl:Maps.size D0<=1048576):Cp 117 #[.map (some b)] w λe w'=>∃(v:Value)(ss:List (List UInt8)),e=.returned v/\Asc D0 ss/\RdK w.heap.size w' v ss/\Bw w w':=Q.scH
end T
section
variable {P:Program}(w:World){ops:Array Oper}{rest:List Oper}{o:Oper}{a:Act}{Q:Exit->Act->World->Prop}
def qI(hg:o.guard=none)(m x:Operand)(t:TypeId)(Jp:o.op=Op.lookup t m x true)(k e:TypeId)(K:Keyed P k)(ht:P.underlying t=some (.map k e))(hz:(zeroValue e).run P w=.ok (.pointer none) w)(b n:Nat)(D:DataW Unit)(l:List (Lit×Nat))(hM:gK D l)(hm:a.eval m=.map (some b))(bR:w.ownsMap P k aZ b n D)(key:Value)(p:Lit×Nat)(hp:p∈l)(hx:a.eval x=key)(cW:keyOf P k key=some p.1)(hK:wpList P ops Q rest (a.put o.dst (.tuple #[.pointer (some (Ad p.2 0)),.bool true])) w):wpList P ops Q (o::rest) a w:=
 wpList_lookup_own_ok w hg m x t Jp k e K ht aZ hz .nil [] rfl b n D hm bR key p.1 hx cW (λv ps hv=>by rw[hM.at' p hp]at hv;obtain rfl:=jY hv;rw[(hM.hs p.1).2 ⟨p,hp,rfl⟩];exact hK)
def xH(hg:o.guard=none)(m x:Operand)(t:TypeId)(Jp:o.op=Op.lookup t m x true)(k e:TypeId)(K:Keyed P k)(ht:P.underlying t=some (.map k e))(hz:(zeroValue e).run P w=.ok (.pointer none) w)(b n:Nat)(D:DataW Unit)(l:List (Lit×Nat))(hM:gK D l)(hm:a.eval m=.map (some b))(bR:w.ownsMap P k aZ b n D)(key:Value)(kl:Lit)(me:∀p∈l,p.1≠kl)(hx:a.eval x=key)(cW:keyOf P k key=some kl)(hK:wpList P ops Q rest (a.put o.dst (.tuple #[.pointer none,.bool false])) w):wpList P ops Q (o::rest) a w:=
 wpList_lookup_own_ok w hg m x t Jp k e K ht aZ hz .nil [] rfl b n D hm bR key kl hx cW (λv ps hv=>by
  have hh:Maps.has D kl=false:=by
   rw[Ec];intro h
   let⟨p,hp,e⟩:=(hM.hs kl).1 h
   exact me p hp e
  rw[Maps.atKey_of_not_has hh]at hv;obtain rfl:=uF hv;rw[hh];exact hK)
end
def oO(w:World):(zeroValue 159).run prog w=.ok (.pointer none) w:=by kernel_rfl
def vI(h:gS ns l=some nd):nd.path=l/\∃i:Nat,ns[i]?=some nd:=by
 have h1:=QG h;have h2:=WS h;exact⟨by simpa using h1,uL h2⟩
def Kf(h:gS ns l=none):∀nd∈ns,nd.path≠l:=by
 intro nd bu e;have:=QF.1 h nd bu;simp[e]at this
theorem Su{SB NB HB UB:List Nat}(l:LI)(w:World)(db:Hid (mE w0 w b bs bn e g x t ss ns SB NB HB UB))(hB:Hid (aN l))(yG:Hid (∀nd∈ns,aN nd.path))(hl:l.length<=1048577)(B:Bool)(eB:Hid (dV ns l=B)):Calls prog 158 #[.pointer (some (Ad b 0)),.string (aP l)] w (Rb (.bool B) w):=by
 have DC:w.cell? (Ad b 5)=some (.map (some bn)):=ao db.hd 5
 let⟨D,oD,mD⟩:=db.qw.own
 have cW:keyOf prog 9 (.string (aP l))=some (cL l):=by rw[WideMaps.keyOf_string_mk underlying9 (by rw[gQ];unfold maxLen;omega),oW]
 have OD:=ag oD;have MD:=ag mD;have Oc:=ag cW;have mR:((aP l).toList==(aP [47]).toList)=decide (l=[47]):=qU (ae hB) (by intro y hy;simp at hy;omega);rw[show(aP [47]).toList=[47]from fE [47]]at mR;clear oD mD cW
 let⟨s,es⟩:=aB (aP l)
 rw[<-es]at mR Oc⊢;clear es;by_cases qF:l=[47];{
 have eT:B=true:=by rw[<-ae eB,dV,bO qF]
 subst eT;have hr:(s.toList==[47])=true:=by rw[mR];simp[qF]
 clear mR qF
 go_in
 go_wp2;go_ret;exact⟨rfl,cQ _ _⟩};{
 have hr:(s.toList==[47])=false:=by rw[mR];simp[qF]
 have jg:(match gS ns l with|some nd=>nd.owner==0|none=>false)=B:=by rw[<-ae eB,dV,bH qF];rfl
 clear mR qF;cases hF:gS ns l with
 | none=>
  rw[hF]at jg;have eF:B=false:=jg.symm;subst eF;have me:Hid (∀p∈List.zipWith (λ(nd:aD)g=>(cL nd.path,g)) ns NB,p.1≠cL l):=by intro p hp;obtain⟨i,nd,y,hx,hy,rfl⟩:=il hp;intro ee;have hm:=aT hx;exact Kf hF nd hm (mO (ae yG nd hm) hB ee)
  clear hF jg
  go_in
  go_wp2_with(first
   |(at_lookup;refine xH _ rfl _ _ 155 rfl 9 _ ox underlying155 (oO _) bn _ D _ MD rfl OD _ (cL l) me rfl Oc ?_)
   |go_in)
  go_ret;exact⟨rfl,cQ _ _⟩
 | some nd=>
  rw[hF]at jg;replace jg:(nd.owner==0)=B:=jg
  let⟨hp,i,hi⟩:=vI hF
  let⟨g1,h1,u1,q1,q2,q3⟩:=db.qw.at hi
  let⟨_,_,_,⟨V,a4,_⟩,_,_⟩:=db.qw.blk i nd g1 h1 u1 hi q1 q2 q3
  have hcO:w.cell? (Ad g1 1)=some (.U nd.owner):=ao a4 1;have iV:Hid ((cL l,g1)∈List.zipWith (λ(nd:aD)g=>(cL nd.path,g)) ns NB):=by show _∈_;rw[gH];refine⟨i,?_⟩;rw[oe,hi,q1];show some (cL nd.path,g1)=some (cL l,g1);rw[hp]
  let⟨ow,eow⟩:=aL nd.owner
  rw[eow]at hcO jg;clear hF hp hi q1 q2 q3 a4 eow;cases B with
  | true=>
   have ho:ow=0:=by simpa using jg
   subst ho;clear jg
   go_in
   go_wp2_with(first
    |(at_lookup;refine qI _ rfl _ _ 155 rfl 9 _ ox underlying155 (oO _) bn _ D _ MD rfl OD _ (cL l,g1) iV rfl Oc ?_)
    |go_in)
   go_ret;exact⟨rfl,cQ _ _⟩
  | false=>
   have ho:(ow==0)=false:=jg;clear jg
   go_in
   go_wp2_with(first
    |(at_lookup;refine qI _ rfl _ _ 155 rfl 9 _ ox underlying155 (oO _) bn _ D _ MD rfl OD _ (cL l,g1) iV rfl Oc ?_)
    |go_in)
   go_ret;exact⟨rfl,cQ _ _⟩}
def Dp(e g x t:Int)(n m:Nat):Bool:=decide (e<=2^62/\g<=2^62/\x<=2^62/\0<=t/\t<=1000000/\n<=50/\m<=200)
def UK(hn:Mg n)(hm:Mg m)(eB:Hid (Dp e g x t n m=B)):Calls prog 88 #[dZ e g x t (.S p n c) (.S q m d)] w (Rb (.bool B) w):=by
 go_in
 go_wp2_with fail
 all_goals(
  go_ret;refine⟨?_,aA.alloc ay _⟩;rw[<-ae eB];simp only[Dp,ai9,al3])
 all_goals first|(simp_all;done)|(simp_all;omega)|(show Value.bool (decide ((m:Int)<=200))=Value.bool _;congr 1;rw[GO,pO,pO];omega)|skip
def IT{P V U:Value}(hn:Mg n)(eB:Hid (ew e g mo n ep ge=B)):Calls prog 198 #[Yt P V ow mo (.S p n c) ep ge U,.U e,.U g] w (Rb (.bool B) w):=by
 go_in
 go_wp2_with fail
 all_goals(
  go_ret;refine⟨?_,aA.alloc ay _⟩;rw[<-ae eB];simp only[ew,ai9,al3])
 all_goals first|(simp_all;done)|(simp_all;omega)|skip
def SC(l:LI):Bool:=ke l.length (λi j=>decide (l.getD i 0<l.getD j 0))
def vV(e g:Int)(nd:aD):Bool:=vp nd.path&&(decide (nd.value.length<=40)&&(ew e g nd.mode nd.holders.length nd.aE nd.gen&&(SC nd.holders&&SC nd.watchers)))
theorem ON{pp vq hp up:OA}{pc pn vc vn hc hh uc un:Nat}(Nu:Le nd.path pn)(eVn:Le nd.value vn)(Vz:Le nd.holders hh)(Y9:Le nd.watchers un) (h0:Rd w (.S pp pn pc) nd.path)(h4:oK w (.S hp hh hc) nd.holders)(h7:oK w (.S up un uc) nd.watchers)(hBP:Hid (aN nd.path))(YK:pn<=1048576)(hvn:vn<=1048576)(ZS:hh<=1048576)(ZN:un<=1048576)(ud:nR (.S pp pn pc))(IK:ML w)(eB:Hid (vV e g nd=B)):Calls prog 154 #[Yt (.S pp pn pc) (.S vq vn vc) nd.owner nd.mode (.S hp hh hc) nd.aE nd.gen (.S up un uc),dZ e g x t S N] w (Rb (.bool B) w):=by
 let⟨jt,ku⟩:=ud.of
 obtain⟨ow,mo,ep,ge,e1,e2,e3,e4⟩:∃a b c d,nd.owner=a/\nd.mode=b/\nd.aE=c/\nd.gen=d:=⟨_,_,_,_,rfl,rfl,rfl,rfl⟩
 rw[e1,e2,e3,e4];have HR:=ag λ(w':World)(hb:Bw w w')=>ai (h0.below hb) (ai (h4.below hb) (ai (h7.below hb) (IK.below hb)));obtain⟨T1,E1⟩:∃T,Hid (vp nd.path=T):=⟨_,bD⟩;obtain⟨T3,E3⟩:∃T,Hid (ew e g mo hh ep ge=T):=⟨_,bD⟩;obtain⟨T4,E4⟩:∃T,Hid (ke hh (λi j=>decide (nd.holders.getD i 0<nd.holders.getD j 0))=T):=⟨_,bD⟩;obtain⟨T5,E5⟩:∃T,Hid (ke un (λi j=>decide (nd.watchers.getD i 0<nd.watchers.getD j 0))=T):=⟨_,bD⟩;have hB:B=(T1&&(decide (vn<=40)&&(T3&&(T4&&T5)))):=by rw[<-ae eB,vV,SC,SC,e2,e3,e4,ae eVn,ae Vz,ae Y9,ae E1,ae E3,ae E4,ae E5]
 have HB:=ag hB;clear h0 h4 h7 IK hB eB e1 e2 e3 e4 ud
 let⟨W,hW⟩:=aB ((w.alloc (.cells #[.S pp pn pc,.S vq vn vc,.U ow,.I mo,.S hp hh hc,.U ep,.U ge,.S up un uc] 133)).alloc (.cells #[.U e,.U g,.U x,.I t,S,N] 41))
 have bW:Bw w W:=hW▸(aA.alloc ay _).alloc al _;have k0:W.cell? (Ad w.heap.size 0)=some (.S pp pn pc):=by rw[hW];simp
 have k1:W.cell? (Ad w.heap.size 1)=some (.S vq vn vc):=by rw[hW];simp
 have k2:W.cell? (Ad w.heap.size 2)=some (.U ow):=by rw[hW];simp
 have k3:W.cell? (Ad w.heap.size 3)=some (.I mo):=by rw[hW];simp
 have k4:W.cell? (Ad w.heap.size 4)=some (.S hp hh hc):=by rw[hW];simp
 have k5:W.cell? (Ad w.heap.size 5)=some (.U ep):=by rw[hW];simp
 have k6:W.cell? (Ad w.heap.size 6)=some (.U ge):=by rw[hW];simp
 have k7:W.cell? (Ad w.heap.size 7)=some (.S up un uc):=by rw[hW];simp
 have k8:W.cell? (Ad (w.heap.size+1) 0)=some (.U e):=by rw[hW];simp
 have k9:W.cell? (Ad (w.heap.size+1) 1)=some (.U g):=by rw[hW];simp
 go_in
 go_wp2_with fail;rw[<-hW];refine(UR Nu (ae HR _ bW).1 hBP YK jt ku (ae HR _ bW).2.2.2 E1).mono ?_;rintro r w1⟨rfl,aG⟩;have b1:=aj bW aG;cases T1 with
 |false=>
  have eF:B=false:=by rw[ae HB];rfl
  subst eF;go_wp2;go_ret;exact⟨rfl,b1⟩
 |true=>
  replace k0:=ah k0 aG;replace k1:=ah k1 aG;replace k2:=ah k2 aG;replace k3:=ah k3 aG;replace k4:=ah k4 aG;replace k5:=ah k5 aG;replace k6:=ah k6 aG;replace k7:=ah k7 aG;replace k8:=ah k8 aG;replace k9:=ah k9 aG;by_cases hv:(vn:Int)<=40;{
 have AO:Hid (B=(T3&&(T4&&T5))):=by
  show _=_;rw[ae HB,show decide (vn<=40)=true by(rw[pO];omega)]
  rfl
 go_wp2_with fail;refine(IT ZS E3).mono ?_;rintro r w2⟨rfl,aK⟩;have b2:=aj b1 aK;cases T3 with
 |false=>
  have eF:B=false:=by rw[ae AO];rfl
  subst eF;go_wp2;go_ret;exact⟨rfl,b2⟩
 | true=>
  replace k4:=ah k4 aK;replace k7:=ah k7 aK;go_wp2_with fail;refine(Sz Vz (ae HR _ b2).2.1 ZS E4).mono ?_;rintro r w3⟨rfl,br⟩;have b3:=aj b2 br;cases T4 with
  |false=>
   have eF:B=false:=by rw[ae AO];rfl
   subst eF;go_wp2;go_ret;exact⟨rfl,b3⟩
  |true=>
   have eT:B=T5:=by rw[ae AO];rfl
   subst eT;replace k7:=ah k7 br;go_wp2_with fail;refine(Sz Y9 (ae HR _ b3).2.2.1 ZN E5).mono ?_;rintro r w4⟨rfl,fy⟩;have b4:=aj b3 fy;go_wp2;go_ret;exact⟨rfl,b4⟩};{
 have eF:B=false:=by rw[ae HB,show decide (vn<=40)=false by(rw[xS];omega)];rfl
 subst eF;go_wp2;go_ret;exact⟨rfl,b1⟩}
def lW(x:Int)(ss:List aQ):Bool:=(List.range ss.length).all (λi=>FR x (ss.getD i (0,0,[])))&&ke ss.length (λi j=>decide ((ss.getD i (0,0,[])).1<(ss.getD j (0,0,[])).1))
def kO(e g:Int)(ns:List aD):Bool:=(List.range ns.length).all (λi=>vV e g (ns.getD i fU))&&ke ns.length (λi j=>!leB (ns.getD j fU).path (ns.getD i fU).path)
theorem yM(en:Le ss n)(h:kr w (.S p n c) ss)(hn:Mg n)(qg:Hid (∀s∈ss,s.2.2.length<=1048576/\∀e∈s.2.2,aN e.2/\e.2.length<=1048576))(IK:ML w)(eB:Hid (lW x ss=B)):Calls prog 89 #[dZ e g x t (.S p n c) N] w (Rb (.bool B) w):=by
 have HR:=ag λ(w':World)(hb:Bw w w')=>ai (h.below hb) (IK.below hb);obtain⟨T2,E2⟩:∃T,Hid (ke n (λi j=>decide ((ss.getD i (0,0,[])).1<(ss.getD j (0,0,[])).1))=T):=⟨_,bD⟩;have HB:Hid (B=((List.range n).all (λi=>FR x (ss.getD i (0,0,[])))&&T2)):=by show _=_;rw[<-ae eB,lW,ae en,ae E2]
 go_in
 go_wp2_with fail
 let⟨W,hW⟩:=aB (w.alloc (.cells #[.U e,.U g,.U x,.I t,.S p n c,N] 41))
 have bW:=dX hW;have ku:W.cell? (Ad w.heap.size 2)=some (.U x):=by rw[hW];simp
 have Ou:W.cell? (Ad w.heap.size 4)=some (.S p n c):=by rw[hW];simp
 rw[<-hW];have BW:=ag bW;have Wh:=ag (ai ku Ou)
 go_loopw[8](λiv wr=>∃k:Nat,k<=n/\iv=.I k/\Hid ((List.range k).all (λi=>FR x (ss.getD i (0,0,[])))=true)/\Bw W wr) (λiv _=>n-(intOf iv).toNat)
 exact⟨0,gr _,rfl,bD,cQ _ _⟩;{
 obtain⟨k,hk,rfl,iI,aM⟩:=hrel;have BB:=aj BW aM;have i2:=ah Wh.1 aM;have i4:=ah Wh.2 aM;by_cases bf:k<n;{
 have bL:=aU k n;have dT:k<ss.length:=ae en▸bf
 let⟨⟨I,D,Q⟩,hy⟩:=lE dT
 have Ri:ss.getD k (0,0,[])=(I,D,Q):=by rw[gj,hy];rfl
 obtain⟨b,o,rfl,hcI,hcD,u,hcQ,hrQ⟩:∃b o,p=some (Ad b o)/\wr.cell? (Ad b (o+k*3))=some (.U I)/\wr.cell? (Ad b (o+k*3+1))=some (.I D)/\∃u,wr.cell? (Ad b (o+k*3+2))=some u/\qG wr u Q:=by
  let⟨p',c',ev,hd⟩:=(ae HR _ BB).1
  obtain⟨rfl,-,-⟩:=ir ev;rcases hd with h0|⟨b,o,h1,h2⟩;{rw[h0]at dT;simp at dT};{exact⟨b,o,h1,h2 k _ hy⟩}
 let⟨hQl,hQb⟩:=ae qg _ (aT hy)
 obtain⟨pq,cq,rfl,-⟩:=id hrQ
 let⟨m,em⟩:=aL Q.length
 rw[em]at hrQ hcQ;have hm:m<=1048576:=em▸hQl;have EM:=ag em;have HBQ:Hid (∀e∈Q,aN e.2/\e.2.length<=1048576):=hQb
 let⟨V,eV⟩:=aL (FR x (I,D,Q))
 have EV:=ag eV;have HF:Hid (V=false->B=false):=λh=>by rw[ae HB,ft bf (by rw[Ri,eV];exact h)];rfl
 have HT:Hid (V=true->Hid ((List.range (k+1)).all (λi=>FR x (ss.getD i (0,0,[])))=true)):=λh=>dz (ae iI) (by rw[Ri,eV];exact h);have b2:Bw wr ((wr.alloc (.cells #[.U I,.I D,.S pq m cq] 132))):=aA.alloc ay _;have HRQ:=ag (hrQ.below b2);have HML:=ag ((ae HR _ BB).2.below b2);have j2:=ah i2 b2;go_wp2_with fail;refine(Mb EM (by exact HRQ) hm HBQ (by exact HML) EV).mono ?_;rintro r w2⟨rfl,aK⟩;have b3:=aj aM (aj b2 aK);have B3:=aj BW b3;cases V with
 |false=>
  have eF:=ae HF rfl;subst eF;go_wp2;go_ret;exact⟨rfl,B3⟩
 |true=>
  have tQ:=ae HT rfl;go_wp2;go_roundw;exact⟨k+1,af,by go_num,tQ,b3⟩;exact cg};{
 have bL:=dB k n;have Cu:k=n:=af;have eT:B=T2:=by rw[ae HB,show(List.range n).all (λi=>FR x (ss.getD i (0,0,[])))=true from Cu▸ae iI,pQ]
 subst eT;go_wp2_with fail;refine(az0 en (ae HR _ BB).1.rd hn E2).mono ?_;rintro r w2⟨rfl,aK⟩;have b3:=aj BB aK;go_wp2;go_ret;exact⟨rfl,b3⟩}}
theorem Fv(em:Le ns m)(h:lM w (.S q m d) ns)(hm:Mg m)(gh:Hid (∀nd∈ns,aN nd.path/\nd.path.length<=1048576/\nd.value.length<=1048576/\nd.holders.length<=1048576/\nd.watchers.length<=1048576))(IK:ML w)(eB:Hid (kO e g ns=B)):Calls prog 90 #[dZ e g x t S (.S q m d)] w (Rb (.bool B) w):=by
 have HR:=ag λ(w':World)(hb:Bw w w')=>ai (h.below hb) (IK.below hb);obtain⟨T2,E2⟩:∃T,Hid (ke m (λi j=>!leB (ns.getD j fU).path (ns.getD i fU).path)=T):=⟨_,bD⟩;have HB:Hid (B=((List.range m).all (λi=>vV e g (ns.getD i fU))&&T2)):=by show _=_;rw[<-ae eB,kO,ae em,ae E2]
 go_in
 go_wp2_with fail
 let⟨W,hW⟩:=aB (w.alloc (.cells #[.U e,.U g,.U x,.I t,S,.S q m d] 41))
 have bW:=dX hW;have yF:jD W w.heap.size e g x t S (.S q m d):=by rw[hW];simp[jD]
 rw[<-hW];have BW:=ag bW;have HC6:=ag yF
 go_loopw[8](λiv wr=>∃k:Nat,k<=m/\iv=.I k/\Hid ((List.range k).all (λi=>vV e g (ns.getD i fU))=true)/\Bw W wr) (λiv _=>m-(intOf iv).toNat)
 exact⟨0,gr _,rfl,bD,cQ _ _⟩;{
 obtain⟨k,hk,rfl,iI,aM⟩:=hrel;have BB:=aj BW aM
 let⟨i0,i1,i2,i3,i4,i5⟩:=HC6.below aM
 by_cases bf:k<m;{
 have bL:=aU k m;have dT:k<ns.length:=ae em▸bf
 let⟨nd,hy⟩:=lE dT
 have Ri:ns.getD k fU=nd:=by rw[gj,hy];rfl
 obtain⟨b,o,rfl,hA⟩:=(ae HR _ BB).1.at af
 let⟨P,V,H,U,bu⟩:=hA k nd hy
 let⟨Cl,jg,hB3,hB4,hB5⟩:=ae gh _ (aT hy)
 obtain⟨pp,pc,pn,rfl,Nu⟩:=bu.r0.gF;obtain⟨vp',vc,vn,rfl,eVn⟩:=bu.r1.gF;obtain⟨hp,hc,hh,rfl,Vz⟩:=bu.r4.gF;obtain⟨up,uc,un,rfl,Y9⟩:=bu.r7.gF;have YK:pn<=1048576:=ae Nu▸jg;have hvn:vn<=1048576:=ae eVn▸hB3;have ZS:hh<=1048576:=ae Vz▸hB4;have ZN:un<=1048576:=ae Y9▸hB5;have HBP:Hid (aN nd.path):=Cl
 let⟨T,eV⟩:=aL (vV e g nd)
 have EV:=ag eV;have HF:Hid (T=false->B=false):=λh=>by rw[ae HB,ft bf (by rw[Ri,eV];exact h)];rfl
 have HT:Hid (T=true->Hid ((List.range (k+1)).all (λi=>vV e g (ns.getD i fU))=true)):=λh=>dz (ae iI) (by rw[Ri,eV];exact h);have b2:Bw wr (wr.alloc (.cells #[.S pp pn pc,.S vp' vn vc,.U nd.owner,.I nd.mode,.S hp hh hc,.U nd.aE,.U nd.gen,.S up un uc] 133)):=aA.alloc ay _;have HND:=ag (bu.below b2);have HML:=ag ((ae HR _ BB).2.below b2);obtain⟨c0,c1,c2,c3,c4,c5,c6,c7,-,-,-,-,-⟩:=bu;have j0:=ah i0 b2;have j1:=ah i1 b2;have j2:=ah i2 b2;have j3:=ah i3 b2;have j4:=ah i4 b2;have j5:=ah i5 b2;go_wp2_with fail;refine(ON Nu eVn Vz Y9 (by exact HND.r0) (by exact HND.r4) (by exact HND.r7) HBP YK hvn ZS ZN HND.k0 (by exact HML) EV).mono ?_;rintro r w2⟨rfl,aK⟩;have b3:=aj aM (aj b2 aK);have B3:=aj BW b3;cases T with
 |false=>
  have eF:=ae HF rfl;subst eF;go_wp2;go_ret;exact⟨rfl,B3⟩
 |true=>
  have tQ:=ae HT rfl;go_wp2;go_roundw;exact⟨k+1,af,by go_num,tQ,b3⟩;exact cg};{
 have bL:=dB k m;have Cu:k=m:=af;have eT:B=T2:=by rw[ae HB,show(List.range m).all (λi=>vV e g (ns.getD i fU))=true from Cu▸ae iI,pQ]
 subst eT;go_wp2_with fail;refine(az1 em (ae HR _ BB).1 hm E2).mono ?_;rintro r w2⟨rfl,aK⟩;have b3:=aj BB aK;go_wp2;go_ret;exact⟨rfl,b3⟩}}
def aL0:∀(key:Value)(kl:Lit),keyOf prog 9 key=some kl->∃s:ByteArray,key=.string s:=by
 intro key kl hk;cases key<;>simp[keyOf,underlying9,mapKey]at hk
 exact⟨_,rfl⟩
def Ra(h:keyOf prog 9 (.string s)=some (cL l)):s=aP l:=by
 simp[keyOf,underlying9,mapKey]at h;exact am8 h.2
def si{m:LI}(hl:aN l)(hm:aN m):(cL l).sameKey (cL m)=decide (l=m):=by
 rw[GO,WJ (by trivial),pO];exact⟨λh=>mO hl hm h,λh=>by rw[h]⟩
theorem Vl{SB NB HB UB:List Nat}(db:Hid (mE w0 w b bs bn e g x t ss ns SB NB HB UB))(yG:Hid (∀nd∈ns,aN nd.path/\nd.path.length<=1048576))(eB:Hid (ns.all (λnd=>dV ns (eG nd.path))=B)):Calls prog 91 #[.pointer (some (Ad b 0))] w (Rb (.bool B) w):=by
 have DC:w.cell? (Ad b 5)=some (.map (some bn)):=ao db.hd 5
 let⟨D,oD,mD⟩:=db.qw.own
 let⟨m,em⟩:=aL ns.length
 rw[em]at oD;have cF3:Hid (∀nd∈ns,aN nd.path):=λnd h=>(ae yG nd h).1;have MD:=ag mD
 go_in
 go_wp2_with(first
  |(at_range;refine wpList_range_own _ rfl _ 155 rfl 9 _ ox underlying155 _ bn m _ rfl oD ?_;intro w1 vY Rt U0)
  |go_in)
 go_frame
 go_loopw[3](λ_ wr=>∃(left:Lit->Bool)(kx:Nat),wr.ranges prog 9 aZ bn w.heap.size m D left kx/\Hid (∀nd∈ns,left (cL nd.path)=false->dV ns (eG nd.path)=true)/\Bw w wr) (λ_ wr=>wr.rangeLeft bn w.heap.size)
 case atStart=>(
 refine⟨_,_,vY,λnd bu hl=>?_,mU Rt⟩;exfalso
 let⟨i,hi⟩:=uL bu
 let⟨g1,h1,u1,q1,q2,q3⟩:=db.qw.at hi
 have:Maps.has D (cL nd.path)=true:=(MD.hs _).2 ⟨(cL nd.path,g1),by rw[gH];refine⟨i,?_⟩;rw[oe,hi,q1],rfl⟩
 rw[this]at hl;cases hl)
 case round=>(
 obtain⟨left,kx,mZ,iI,aM⟩:=hrel;have qV:=ag (db.below aM);go_wp2_with(first
  |(at_next;refine gv _ rfl _ rfl 9 ox (λs:ByteArray=>.string s) aL0 bn w.heap.size m _ _ MD _ _ rfl mZ ?_ ?_)
  |go_in)
 {
 intro _ Fa;have eT:B=true:=by rw[<-ae eB,jw];exactλnd bu=>ae iI nd bu (Fa _)
 subst eT;go_wp2;go_ret;exact⟨rfl,aM⟩};{
 intro s pl g1 w2 wu cW hp hlp uT bf gp ik Jt
 let⟨i,nd,g1',hi,Jr,ee⟩:=il hp
 simp only[gy]at ee;obtain⟨rfl,rfl⟩:=ee;have aK:Bw w w2:=cO aM gp aM.size (λj hj=>by cases hj;exact iD _);obtain rfl:=Ra cW;have bu:=aT hi
 let⟨Cl,jg⟩:=ae yG nd bu
 let⟨T,eT⟩:=aL (dV ns (eG nd.path))
 have ET:=ag eT;have HF:Hid (T=false->B=false):=λh=>by rw[<-ae eB,QN];exact⟨nd,bu,by rw[eT,h];simp⟩
 have HT:Hid (T=true->Hid (∀nd'∈ns,(λz=>left z&&!z.sameKey (cL nd.path)) (cL nd'.path)=false->dV ns (eG nd'.path)=true)):=λh nd' aM1 hl=>by simp only[si (ae yG nd' aM1).1 Cl]at hl;by_cases ep:nd'.path=nd.path;{rw[ep,eT,h]};{simp[ep]at hl;exact iI nd' aM1 hl}
 have qW:Hid (aN nd.path):=Cl;have AM:=ag (rW Cl);have rz:(eG nd.path).length<=1048577:=by unfold eG;split;{simp};{rw[pT];omega}
 have aS3:=ag (db.below aK);have ar8:(Instr.entry (.pointer (some (Ad w.heap.size 0)))).run prog w2=.ok (.tuple #[.string (aP nd.path),.pointer (some (Ad g1 0))]) w2:=Jt;go_wp2_with fail;refine(sO bD qW jg).mono ?_;rintro r w3⟨rfl,rfl⟩;go_wp2_with fail;refine(Su (eG nd.path) _ aS3 AM cF3 rz T ET).mono ?_;rintro r w4⟨rfl,fy⟩;have b4:=aj aK fy;cases T with
 |false=>
  have eF:=ae HF rfl;subst eF;go_wp2;go_ret;exact⟨rfl,b4⟩
 |true=>
  have tQ:=ae HT rfl;have U6:=uT.kept (aC fy none) al al;go_wp2;go_roundw;exact⟨_,wu,U6,tQ,b4⟩
  case measure=>rw[U6.left_eq,mZ.left_eq];exact bf})
def xF(nd:aD)(i:Int):Prop:=(nd.owner≠0/\i=nd.owner)\/i∈nd.holders\/i∈nd.watchers
def dL.del{s:LI}(h:dL D s)(i:Int):dL (D.del (.U i)) (s.filter λj=>decide (j≠i)):=by
 intro k';by_cases e:k'=.U i;{subst e;rw[Maps.has_del_same];simp};{rw[Maps.has_del_other e,h k'];constructor;{rintro⟨j,hj,rfl⟩;refine⟨j,?_,rfl⟩;rw[Ko];exact⟨hj,by simpa using λhh=>e (by rw[hh])⟩};{rintro⟨j,hj,rfl⟩;exact⟨j,(Ko.1 hj).1,rfl⟩}}
def bG7:∀(key:Value)(kl:Lit),keyOf prog 27 key=some kl->∃i:Int,key=.U i:=by
 intro key kl hk;obtain⟨x,rfl,_⟩:=keyOf_int_inv underlying27 hk;exact⟨x,rfl⟩
def ui.uniq{NB HB UB:List Nat}(h:ui w0 w bn ns NB HB UB){nd':aD}(hi:ns[i]?=some nd)(hj:ns[j]?=some nd')(hp:nd.path=nd'.path):nd=nd':=by
 let⟨D,_,mD⟩:=h.own
 let⟨g1,_,_,q1,_,_⟩:=h.at hi
 let⟨g2,_,_,q2,_,_⟩:=h.at hj
 have m1:(cL nd.path,g1)∈List.zipWith (λ(nd:aD)g=>(cL nd.path,g)) ns NB:=by rw[gH];exact⟨i,by rw[oe,hi,q1]⟩
 have m2:(cL nd'.path,g2)∈List.zipWith (λ(nd:aD)g=>(cL nd.path,g)) ns NB:=by rw[gH];exact⟨j,by rw[oe,hj,q2]⟩
 have e1:=mD.at' _ m1 .nil;have e2:=mD.at' _ m2 .nil;simp only[hp]at e1;simp only at e2;rw[e1]at e2;simp only[DataW.lit.injEq,Db,MC,Int.natCast_inj]at e2;subst e2;have l1:=(aV.1 q1).1;have l2:=(aV.1 q2).1;have KM:=Jf.1 h.qw;have v1:=(aV.1 q1).2;have v2:=(aV.1 q2).2;have:i=j:=by rcases GZ i j with hh|hh|hh;{exact absurd (v1.trans v2.symm) (KM i j l1 l2 hh)};{exact hh};{exact absurd (v2.trans v1.symm) (KM j i l2 l1 hh)}
 subst this;rw[hi]at hj;cases hj
 rfl
theorem IW{SB NB HB UB:List Nat}(db:Hid (mE w0 w b bs bn e g x t ss ns SB NB HB UB))(yG:Hid (∀nd∈ns,aN nd.path/\nd.holders.length<=1048576/\nd.watchers.length<=1048576))(Xm:Hid (∀nd∈ns,0<=nd.owner/\nd.owner<2^64))(em:Le ns m)(hm:Mg m)(en:Le ss n):Calls prog 92 #[.pointer (some (Ad b 0))] w λr w'=>∃nb k D s,r=.returned (.map (some nb))/\w'.ownsMap prog 27 unitElem nb k D/\dL D s/\(∀i,i∈s↔(∃nd∈ns,xF nd i)/\¬∃z∈ss,z.1=i)/\Bw w w':=by
 have DC:w.cell? (Ad b 5)=some (.map (some bn)):=ao db.hd 5;have Ou:w.cell? (Ad b 4)=some (.map (some bs)):=ao db.hd 4;have Ru:b<w.heap.size:=aR db.hd
 let⟨D,oD,mD⟩:=db.qw.own
 let⟨Ds,oS,mS⟩:=db.Ut.own
 rw[ae em]at oD;rw[ae en]at oS;have MD:=ag mD;have MS:=ag mS;have OS:=ag oS;have HC4:=ag Ou;have hmm:=@WK prog;have b1:Bw w (w.alloc (.map #[] 0)):=aA.alloc ay _;have dV4:=ah DC b1;have oD1:=oD.alloc (.map #[] 0)
 go_in
 go_wp2_with(first
  |(at_range;refine wpList_range_own _ rfl _ 155 rfl 9 _ ox underlying155 _ bn m _ rfl oD1 ?_;intro w1 vY Rt U0)
  |go_in)
 go_frame
 have jd:(w.alloc (.map #[] 0)).heap.size=w.heap.size+1:=al;have aG:Bw w w1:=aj b1 (mU Rt);have o0:w1.ownsMap prog 27 (unitElem (H:=Unit)) w.heap.size 0 (.map []):=(World.ownsMap_made w _ _ _).kept Rt al;rw[jd]at vY⊢;have HZ1:=ag jd
 go_loopw[5](λ_ wr=>∃(left:Lit->Bool)(kx k:Nat)(E:DataW Unit)(s:LI),wr.ranges prog 9 aZ bn (w.heap.size+1) m D left kx/\k+kx*2097153<=m*2097153/\wr.ownsMap prog 27 unitElem w.heap.size k E/\Hid (dL E s/\∀i,i∈s↔∃nd∈ns,left (cL nd.path)=false/\xF nd i)/\Bw w wr) (λ_ wr=>wr.rangeLeft bn (w.heap.size+1))
 case atStart=>(
 refine⟨_,_,0,_,[],vY,?_,o0,⟨dL.nil,λi=>?_⟩,aG⟩;{have:=oD.size_le;omega};{
 constructor;{intro h;cases h};{
 rintro⟨nd,bu,hl,_⟩;exfalso
 let⟨i,hi⟩:=uL bu
 let⟨g1,h1,u1,q1,q2,q3⟩:=db.qw.at hi
 have:Maps.has D (cL nd.path)=true:=(MD.hs _).2 ⟨(cL nd.path,g1),by rw[gH];refine⟨i,?_⟩;rw[oe,hi,q1],rfl⟩
 rw[this]at hl;cases hl}})
 case round=>(
 obtain⟨left,kx,k,E,s,mZ,hkc,bR,yh,aM⟩:=hrel;go_wp2_with(first
  |(at_next;refine gv _ rfl _ rfl 9 ox (λs:ByteArray=>.string s) aL0 bn (w.heap.size+1) m _ _ (ae MD) _ _ (by first|rfl|(rw[<-ae HZ1];rfl)) mZ ?_ ?_)
  |go_in)
 {
 intro _ Fa;have ik:Hid (∀i,i∈s↔∃nd∈ns,xF nd i):=λi=>by rw[yh.2 i];constructor;{rintro⟨nd,h1,_,h2⟩;exact⟨nd,h1,h2⟩};{rintro⟨nd,h1,h2⟩;exact⟨nd,h1,Fa _,h2⟩}
 have Om:=ag yh.1;have Ou:=ah HC4 aM;have oS1:=OS.kept (aC aM none) al
 let⟨Y,eY⟩:=aB wr
 subst eY;go_wp2_with(first
  |(at_range;refine wpList_range_own _ rfl _ 154 rfl 27 _ jI underlying154 _ bs n _ rfl oS1 ?_;intro w3 Ek An hs3)
  |go_in)
 go_frame
 have KP:=bR.kept An al;have br:Bw w w3:=cO aM An aM.size (λj hj=>by cases hj);have nO:w.heap.size<Y.heap.size:=bR.lt
 go_loopw[6](λ_ wr=>∃(left:Lit->Bool)(kx:Nat)(E:DataW Unit)(s':LI),wr.ranges prog 27 aZ bs Y.heap.size n Ds left kx/\wr.ownsMap prog 27 unitElem w.heap.size k E/\Hid (dL E s'/\∀i,i∈s'↔i∈s/\¬∃z∈ss,z.1=i/\left (.U i)=false)/\Bw w wr) (λ_ wr=>wr.rangeLeft bs Y.heap.size)
 case atStart=>(
 refine⟨_,_,E,s,Ek,KP,⟨Om,λi=>?_⟩,br⟩;constructor;{
 intro hi;refine⟨hi,?_⟩;rintro⟨z,hz,rfl,hl⟩
 let⟨j,hj⟩:=uL hz
 obtain⟨gz,hgz⟩:∃gz,SB[j]?=some gz:=⟨_,aY (db.Ut.len▸(aV.1 hj).1)⟩;have:Maps.has Ds (.U z.1)=true:=(MS.hs _).2 ⟨(.U z.1,gz),by rw[gH];exact⟨j,by rw[oe,hj,hgz]⟩,rfl⟩
 rw[this]at hl;cases hl};{exactλh=>h.1})
 case round=>(
 obtain⟨left,kx,E1,s',mZ,Ai,yh,aM⟩:=hrel;go_wp2_with(first
  |(at_next;refine gv _ rfl _ rfl 27 jI (λi:Int=>.int .u64 i) bG7 bs Y.heap.size n _ _ MS _ _ rfl mZ ?_ ?_)
  |go_in)
 {intro _ Fa;have HS:=ae yh;go_wp2;go_ret;refine⟨w.heap.size,k,E1,s',rfl,Ai,HS.1,λi=>?_,aM⟩;rw[HS.2 i,ae ik i];constructor;{rintro⟨h1,h2⟩;exact⟨h1,λ⟨z,hz,e⟩=>h2 ⟨z,hz,e,Fa _⟩⟩};{rintro⟨h1,h2⟩;exact⟨h1,λ⟨z,hz,e,_⟩=>h2 ⟨z,hz,e⟩⟩}};{
 intro i0 pl g1 w4 wu cW hp hlp uT bf gp aM0 Jt
 let⟨j,z,g1',hj,hgj,ee⟩:=il hp
 simp only[gy]at ee;obtain⟨rfl,rfl⟩:=ee
 let⟨i1,e1,e2,hwx⟩:=keyOf_int_inv underlying27 cW
 simp only[ak8,MC]at e1;simp only[Db,MC]at e2;subst e1;subst e2;have fy:Bw w w4:=cO aM gp aM.size (λj hj=>by cases hj;omega);have Dx:=Ai.kept gp bq;have ar8:(Instr.entry (.pointer (some (Ad Y.heap.size 0)))).run prog w4=.ok (.tuple #[.U z.1,.pointer (some (Ad g1 0))]) w4:=Jt;have We:Hid (dL (E1.del (.U z.1)) (s'.filter λj=>decide (j≠z.1))/\∀i,i∈(s'.filter λj=>decide (j≠z.1))↔i∈s/\¬∃y∈ss,y.1=i/\(λq=>left q&&!q.sameKey (.U z.1)) (.U i)=false):=by
  refine⟨yh.1.del z.1,λi=>?_⟩;rw[Ko,yh.2 i];have hk:((Lit.U i).sameKey (.U z.1)=true)↔i=z.1:=by rw[WJ (by trivial)];simp
  by_cases ei:i=z.1;{subst ei;simp only[ne_eq,ak1,WX,MI,and_false,false_iff];rintro⟨_,h2⟩;exact h2 ⟨z,aT hj,rfl,by simp[hk.2 rfl]⟩};{simp[ei,show(Lit.U i).sameKey (.U z.1)=false by(rw[Ec];exactλh=>ei (hk.1 h))]}
 go_wp2_with(first
  |(at_delete;refine wpList_delete_own _ rfl _ _ 141 27 rfl _ jI underlying141 unitElem w.heap.size k _ rfl Dx _ _ rfl (keyOf_int_mk underlying27 hwx) ?_;intro w5 Hp bg6;go_frame)
  |go_in)
 have vZ:=bg6.grown;have fT:Bw w w5:=cO fy vZ fy.size (λj hj=>by cases hj;exact iD _);have tg:=uT.kept vZ (by have:=OS.lt;simp;omega) bq;go_roundw;exact⟨_,wu,_,_,tg,Hp,We,fT⟩
 case measure=>rw[tg.left_eq,mZ.left_eq];exact bf})}
 {
 intro sb pl g1 w2 wu cW hp hlp uT bf gp ik Jt
 let⟨i,nd,g1',hi,Jr,ee⟩:=il hp
 simp only[gy]at ee;obtain⟨rfl,rfl⟩:=ee;have aK:Bw w w2:=cO aM gp aM.size (λj hj=>by cases hj;omega);obtain rfl:=Ra cW;have bu:=aT hi
 let⟨Cl,Tm,KT⟩:=ae yG nd bu
 let⟨g2,h1,u1,q1,q2,q3⟩:=db.qw.at hi
 rw[Jr]at q1;cases q1
 let⟨_,_,_,⟨V,a4,_⟩,⟨Dh,oh,sh⟩,⟨Du,ou,su⟩⟩:=db.qw.blk i nd g1 h1 u1 hi Jr q2 q3
 have Rr:g1<w.heap.size:=aR a4;have k1:w.cell? (Ad g1 1)=some (.U nd.owner):=ao a4 1;have k3:w.cell? (Ad g1 3)=some (.map (some h1)):=ao a4 3;have k6:w.cell? (Ad g1 6)=some (.map (some u1)):=ao a4 6;have SH:=ag sh;have SU:=ag su;have Hq:=bR.kept gp (by first|(simp;done)|(simp;omega));have ar8:(Instr.entry (.pointer (some (Ad (w.heap.size+1) 0)))).run prog w2=.ok (.tuple #[.string (aP nd.path),.pointer (some (Ad g1 0))]) w2:=Jt;have FIN:∀i:Int,((i∈s\/(nd.owner≠0/\i=nd.owner))\/i∈nd.holders)\/i∈nd.watchers↔∃nd'∈ns,(λz=>left z&&!z.sameKey (cL nd.path)) (cL nd'.path)=false/\xF nd' i:=by
  intro i0;rw[yh.2 i0];constructor;{rintro(((⟨nd',h1,h2,h3⟩|h)|h)|h);{exact⟨nd',h1,by simp[h2],h3⟩};{exact⟨nd,bu,by simp[si Cl Cl],.inl h⟩};{exact⟨nd,bu,by simp[si Cl Cl],.inr (.inl h)⟩};{exact⟨nd,bu,by simp[si Cl Cl],.inr (.inr h)⟩}};{
 rintro⟨nd',h1,h2,h3⟩;by_cases ep:nd'.path=nd.path;{
 let⟨j,hj⟩:=uL h1
 have:=db.qw.uniq hj hi ep;subst this;rcases h3 with h3|h3|h3;{exact .inl (.inl (.inr h3))};{exact .inl (.inr h3)};{exact .inr h3}};{refine .inl (.inl (.inl ⟨nd',h1,?_,h3⟩));simpa[si (ae yG nd' h1).1 Cl,ep]using h2}}
 have hO:=ae Xm nd bu;by_cases ho:nd.owner=0;{
 have d1:=(cM (aK.block g1 Rr) (o:=1)).trans k1;have d3:=(cM (aK.block g1 Rr) (o:=3)).trans k3;have d6:=(cM (aK.block g1 Rr) (o:=6)).trans k6;rw[ho]at d1;have M3:∀i,i∈s↔i∈s\/(nd.owner≠0/\i=nd.owner):=λi=>by simp[ho]
 have S3:=ag yh.1;have br:=aK;have KP:=Hq;have Ek:=uT
 let⟨w3,e3⟩:=aB w2
 let⟨K3,eK⟩:=aB k
 let⟨E3,eE⟩:=aB E
 let⟨s3,eS⟩:=aB s
 have Z9:K3<=k+1:=af;subst e3 eK eE eS;go_wp2_with fail;refine(vN KP (oh.kept (aC br none) al) S3 SH (aI oh.lt) af Tm).mono ?_;rintro r w4⟨E4,s4,rfl,Dx,ap3,aq1,uX⟩;have fy:Bw w w4:=cO br uX br.size (λj hj=>by cases hj;exact iD _);have f6:=(cM (fy.block g1 Rr) (o:=6)).trans k6;have S4:=ag ap3;go_wp2_with fail;refine(vN Dx (ou.kept (aC fy none) al) S4 SU (aI ou.lt) af KT).mono ?_;rintro r w5⟨E5,s5,rfl,Hp,ap2,aq0,vZ⟩;have fT:Bw w w5:=cO fy vZ fy.size (λj hj=>by cases hj;exact iD _);have tg:=(Ek.kept uX (by have:=oD.lt;simp;omega) (by first|(simp;done)|(simp;omega))).kept vZ (by have:=oD.lt;simp;omega) (by first|(simp;done)|(simp;omega));have We:Hid (dL E5 s5/\∀i,i∈s5↔∃nd'∈ns,(λz=>left z&&!z.sameKey (cL nd.path)) (cL nd'.path)=false/\xF nd' i):=⟨ap2,λi=>by rw[aq0,aq1,M3,FIN]⟩
 go_wp2;go_roundw
 case rel=>first|exact⟨_,wu,tg,_,af,E5,Hp,s5,We,fT⟩|exact⟨_,wu,_,E5,s5,tg,af,Hp,We,fT⟩
 case measure=>rw[tg.left_eq,mZ.left_eq];exact bf}
 {
 have Xn:(nd.owner != 0)=true:=by simp[ho]
 have d1:=(cM (aK.block g1 Rr) (o:=1)).trans k1;have bJ9:keyOf prog 27 (.U nd.owner)=some (.U nd.owner):=keyOf_int_mk underlying27 (ni hO);have M3:∀i,i∈s++[nd.owner]↔i∈s\/(nd.owner≠0/\i=nd.owner):=λi=>by simp[ho]
 have S3:=ag (yh.1.put bR.isMap nd.owner (.agg []));go_wp2_with(first
  |(at_mapUpdate;refine wpList_mapUpdate_own _ rfl _ _ _ 141 rfl 27 _ jI underlying141 unitElem w.heap.size k _ rfl Hq iB _ _ _ rfl rfl bJ9 (.agg []) [] unitElem_mk ?_;intro w3 KP ar4;have br:Below w.heap.size w w3:=cO aK ar4 aK.size (λj hj=>by cases hj;exact iD _);have d3:=(cM (br.block g1 Rr) (o:=3)).trans k3;have d6:=(cM (br.block g1 Rr) (o:=6)).trans k6)
  |fail)
 have Ek:=uT.kept ar4 (by have:=oD.lt;simp;omega) (by first|(simp;done)|(simp;omega))
 let⟨K3,eK⟩:=aB (k+1)
 let⟨E3,eE⟩:=aB (E.put (.U nd.owner) (.agg []))
 let⟨s3,eS⟩:=aB (s++[nd.owner])
 have Z9:K3<=k+1:=af;rw[<-eK,<-eE]at KP;rw[<-eE,<-eS]at S3;rw[<-eS]at M3;refine(vN KP (oh.kept (aC br none) al) S3 SH (aI oh.lt) af Tm).mono ?_;rintro r w4⟨E4,s4,rfl,Dx,ap3,aq1,uX⟩;have fy:Bw w w4:=cO br uX br.size (λj hj=>by cases hj;exact iD _);have f6:=(cM (fy.block g1 Rr) (o:=6)).trans k6;have S4:=ag ap3;go_wp2_with fail;refine(vN Dx (ou.kept (aC fy none) al) S4 SU (aI ou.lt) af KT).mono ?_;rintro r w5⟨E5,s5,rfl,Hp,ap2,aq0,vZ⟩;have fT:Bw w w5:=cO fy vZ fy.size (λj hj=>by cases hj;exact iD _);have tg:=(Ek.kept uX (by have:=oD.lt;simp;omega) (by first|(simp;done)|(simp;omega))).kept vZ (by have:=oD.lt;simp;omega) (by first|(simp;done)|(simp;omega));have We:Hid (dL E5 s5/\∀i,i∈s5↔∃nd'∈ns,(λz=>left z&&!z.sameKey (cL nd.path)) (cL nd'.path)=false/\xF nd' i):=⟨ap2,λi=>by rw[aq0,aq1,M3,FIN]⟩
 go_wp2;go_roundw
 case rel=>first|exact⟨_,wu,tg,_,af,E5,Hp,s5,We,fT⟩|exact⟨_,wu,_,E5,s5,tg,af,Hp,We,fT⟩
 case measure=>rw[tg.left_eq,mZ.left_eq];exact bf}})
def aL6(ss:List aQ)(ids:LI):iK ss ids=true↔SC ids=true/\∀i∈ids,live ss i=true:=by
 simp only[iK,SC,ke,jw,Cc,Jo,fk];constructor;{intro h;refine⟨λi hi=>(h i hi).2,λy hy=>?_⟩;obtain⟨i,hi,rfl⟩:=Dm hy;have:=(h i hi).1;rwa [gj,aY hi]at this};{rintro⟨h1,h2⟩i hi;refine⟨h2 _ ?_,h1 i hi⟩;rw[gj,aY hi];exact zF hi}
def mB{α:Type}(l:List α)(d:α)(f:α->Bool):(∀i,i<l.length->f (l.getD i d)=true)↔∀y∈l,f y=true:=by
 constructor;{intro h y hy;obtain⟨i,hi,rfl⟩:=Dm hy;have:=h i hi;rwa [gj,aY hi]at this};{intro h i hi;rw[gj,aY hi];exact h _ (zF hi)}
def aG9(x:Int)(ss:List aQ):(List.range ss.length).all (mF x ss)=true↔lW x ss=true:=by
 simp only[lW,ke,jw,Cc,mF,FR,fk];constructor;{intro h;exact⟨λi hi=>⟨(h i hi).1,(h i hi).2.1,(h i hi).2.2.2⟩,λi hi=>(h i hi).2.2.1⟩};{rintro⟨h1,h2⟩i hi;exact⟨(h1 i hi).1,(h1 i hi).2.1,h2 i hi,(h1 i hi).2.2⟩}
def aI8(e g:Int)(ss:List aQ)(ns:List aD):(List.range ns.length).all (lI e g ss ns)=true↔kO e g ns=true/\ns.all (λnd=>dV ns (eG nd.path))=true/\∀nd∈ns,∀i,xF nd i->live ss i=true:=by
 have key:∀k,lI e g ss ns k=true↔(vV e g (ns.getD k fU)=true/\(k==0||!leB (ns.getD k fU).path (ns.getD (k-1) fU).path)=true)/\dV ns (eG (ns.getD k fU).path)=true/\(λnd=>decide (nd.owner=0)||live ss nd.owner) (ns.getD k fU)=true/\(λnd:aD=>nd.holders.all (live ss)) (ns.getD k fU)=true/\(λnd:aD=>nd.watchers.all (live ss)) (ns.getD k fU)=true:=by
  intro k;simp only[lI,vV,fk,aL6,jw];have:((ns.getD k fU).owner==0||live ss (ns.getD k fU).owner)=(decide ((ns.getD k fU).owner=0)||live ss (ns.getD k fU).owner):=by
   congr 1
  rw[this];constructor;{rintro⟨⟨a1,a2⟩,a3,a4,a5,⟨a6,a7⟩,⟨a8,a9⟩,a10⟩;exact⟨⟨⟨a1,a4,a10,a6,a8⟩,a2⟩,a3,a5,a7,a9⟩};{rintro⟨⟨⟨a1,a4,a10,a6,a8⟩,a2⟩,a3,a5,a7,a9⟩;exact⟨⟨a1,a2⟩,a3,a4,a5,⟨a6,a7⟩,⟨a8,a9⟩,a10⟩}
 simp only[kO,ke,jw,Cc,fk,key];rw[<-mB ns fU];constructor;{intro h;refine⟨⟨λi hi=>(h i hi).1.1,λi hi=>(h i hi).1.2⟩,λi hi=>(h i hi).2.1,?_⟩;have h3:=(mB ns fU (λnd=>decide (nd.owner=0)||live ss nd.owner)).1 (λi hi=>(h i hi).2.2.1);have h4:=(mB ns fU (λnd:aD=>nd.holders.all (live ss))).1 (λi hi=>jw.2 (h i hi).2.2.2.1);have h5:=(mB ns fU (λnd:aD=>nd.watchers.all (live ss))).1 (λi hi=>jw.2 (h i hi).2.2.2.2);rintro nd bu i(⟨h1,rfl⟩|h1|h1);{have:=h3 nd bu;simpa[h1]using this};{exact jw.1 (h4 nd bu) i h1};{exact jw.1 (h5 nd bu) i h1}};{rintro⟨⟨h1,h2⟩,h3,h4⟩i hi;refine⟨⟨h1 i hi,h2 i hi⟩,h3 i hi,?_,?_,?_⟩;{refine(mB ns fU (λnd=>decide (nd.owner=0)||live ss nd.owner)).2 (λnd bu=>?_) i hi;by_cases ho:nd.owner=0;{simp[ho]};{simp[ho,h4 nd bu nd.owner (.inl ⟨ho,rfl⟩)]}};{exact jw.1 ((mB ns fU (λnd:aD=>nd.holders.all (live ss))).2 (λnd bu=>jw.2 λj hj=>h4 nd bu j (.inr (.inl hj))) i hi)};{exact jw.1 ((mB ns fU (λnd:aD=>nd.watchers.all (live ss))).2 (λnd bu=>jw.2 λj hj=>h4 nd bu j (.inr (.inr hj))) i hi)}}
def FL(e g x t:Int)(ss:List aQ)(ns:List aD):kG e g x t ss ns=true↔Dp e g x t ss.length ns.length=true/\lW x ss=true/\kO e g ns=true/\ns.all (λnd=>dV ns (eG nd.path))=true/\∀nd∈ns,∀i,xF nd i->live ss i=true:=by
 rw[kG,fk,fk,aG9,aI8];exact Iff.rfl
def Hc{i:Int}:live ss i=true↔∃z∈ss,z.1=i:=by
 rw[live,Kt];simp
theorem vP:∀a:List UInt8,Op.bytesLess a a=false
 |[]=>rfl
 |x::a=>by simp[Op.bytesLess,vP a,al0]
theorem AE:∀{a b c:List UInt8},Op.bytesLess a b=true->Op.bytesLess b c=true->Op.bytesLess a c=true
 |_,[],_,h,_=>by simp[Op.bytesLess]at h
 |_,_::_,[],_,h=>by simp[Op.bytesLess]at h
 |[],_::_,_::_,_,_=>rfl
 |x::a,y::b,z::c,h,k=>by simp only[Op.bytesLess,Kq,jj,fk,MF]at h k⊢;rcases h with h|⟨rfl,h⟩;{rcases k with k|⟨rfl,k⟩;{exact .inl (UInt8.lt_trans h k)};{exact .inl h}};{rcases k with k|⟨rfl,k⟩;{exact .inl k};{exact .inr ⟨rfl,AE h k⟩}}
theorem Sy:∀{a b:List UInt8},Op.bytesLess a b=false->a≠b->Op.bytesLess b a=true
 |[],[],_,h=>absurd rfl h
 |[],_::_,h,_=>by simp[Op.bytesLess]at h
 |_::_,[],_,_=>rfl
 |x::a,y::b,h,bS=>by
  simp only[Op.bytesLess,Bool.or_eq_false_iff,xS]at h;simp only[Op.bytesLess,Kq,jj,fk,MF];by_cases hxy:x=y;{
 subst hxy
 right
 refine⟨rfl,Sy ?_ (λe=>bS (by rw[e]))⟩;simpa using h.2};{exact .inl (UInt8.lt_of_le_of_ne (ak9.1 h.1) (aU6 hxy))}
theorem AF{lt:Nat->Nat->Bool}(h:ke n lt=true)(tr:∀i j k,lt i j=true->lt j k=true->lt i k=true):∀(j i:Nat),j<n->i<j->lt i j=true:=by
 have hs:∀j,j+1<n->lt j (j+1)=true:=λj hj=>by have:=jw.1 h (j+1) (Cc.2 hj);simpa using this
 intro j
 induction j with
 |zero=>intro i _ hi;omega
 |succ j ih=>
  intro i hj hi;by_cases e:i=j;{subst e;exact hs i hj};{exact tr i j (j+1) (ih i af af) (hs j hj)}
def J1(h:lW x ss=true):∀(i j:Nat)(s s':aQ),ss[i]?=some s->ss[j]?=some s'->i<j->s.1≠s'.1:=by
 intro i j s s' hi hj ld;rw[lW,fk]at h;have:=AF h.2 (λi j k h1 h2=>by simp at h1 h2⊢;omega) j i (aV.1 hj).1 ld;simp only[gj,hi,hj,sa,jj]at this;omega
def nY{m:LI}:(!leB l m)=true↔Op.bytesLess (aP m).toList (aP l).toList=true:=by
 simp only[leB,Bool.not_eq_true',Bool.or_eq_false_iff,WW];constructor;{rintro⟨h1,h2⟩;exact Sy h1 h2};{intro h;refine⟨?_,λe=>?_⟩;{rw[Ec];intro h2;have:=AE h h2;rw[vP]at this;cases this};{rw[e,vP]at h;cases h}}
def Ke(h:kO e g ns=true):∀(i j:Nat)(z z':aD),ns[i]?=some z->ns[j]?=some z'->i<j->z.path≠z'.path:=by
 intro i j z z' hi hj ld;rw[kO,fk]at h;have:=AF h.2 (λi j k h1 h2=>nY.2 (AE (nY.1 h1) (nY.1 h2))) j i (aV.1 hj).1 ld;simp only[gj,hi,hj,sa]at this;intro e;rw[e,nY,vP]at this;cases this
def Ma(h:lW x ss=true)(hx:x<=2^62):∀s∈ss,0<=s.1/\s.1<2^64:=by
 rw[lW,fk,jw]at h;have H:=(mB ss (0,0,[]) (FR x)).1 λi hi=>h.1 i (Cc.2 hi);intro s hs;have:=H s hs;simp only[FR,fk,jj]at this;omega
theorem ao2(en:Le ss n)(em:Le ns m)(h:kr w (.S p n c) ss)(hN:lM w (.S q m d) ns)(hn:Mg n)(hm:Mg m)(qg:Hid (∀s∈ss,s.2.2.length<=1048576/\∀e∈s.2.2,aN e.2/\e.2.length<=1048576))(gh:Hid (∀nd∈ns,aN nd.path/\nd.path.length<=1048576/\nd.value.length<=1048576/\nd.holders.length<=1048576/\nd.watchers.length<=1048576))(IG:Hid (∀nd∈ns,(∀i∈nd.holders,0<=i/\i<2^64)/\∀i∈nd.watchers,0<=i/\i<2^64))(Xm:Hid (∀nd∈ns,0<=nd.owner/\nd.owner<2^64))(IK:ML w)(eB:Hid (kG e g x t ss ns=B)):Calls prog 44 #[dZ e g x t (.S p n c) (.S q m d)] w (Rb (.bool B) w):=by
 have HR:=ag λ(w':World)(hb:Bw w w')=>ai (h.below hb) (ai (hN.below hb) (IK.below hb));have HI:Hid (B=true↔Dp e g x t n m=true/\lW x ss=true/\kO e g ns=true/\ns.all (λnd=>dV ns (eG nd.path))=true/\∀nd∈ns,∀i,xF nd i->live ss i=true):=by show _↔_;rw[<-ae eB,FL,ae en,ae em]
 obtain⟨T1,E1⟩:∃T,Hid (Dp e g x t n m=T):=⟨_,bD⟩;obtain⟨T2,E2⟩:∃T,Hid (lW x ss=T):=⟨_,bD⟩;obtain⟨T3,E3⟩:∃T,Hid (kO e g ns=T):=⟨_,bD⟩;obtain⟨T4,E4⟩:∃T,Hid (ns.all (λnd=>dV ns (eG nd.path))=T):=⟨_,bD⟩
 let⟨W,hW⟩:=aB (w.alloc (.cells #[.U e,.U g,.U x,.I t,.S p n c,.S q m d] 41))
 have bW:=dX hW;have yF:jD W w.heap.size e g x t (.S p n c) (.S q m d):=by rw[hW];simp[jD]
 have HC6:=ag yF
 go_in
 go_wp2_with fail;rw[<-hW];refine(UK hn hm E1).mono ?_;rintro r w1⟨rfl,aG⟩;have b1:=aj bW aG;cases T1 with
 |false=>
  have eF:B=false:=by rw[Ec];intro hB;have:=(HI.1 hB).1;rw[ae E1]at this;cases this
  subst eF;go_wp2;go_ret;exact⟨rfl,b1⟩
 | true=>
  let⟨i0,i1,i2,i3,i4,i5⟩:=HC6.below aG
  go_wp2_with fail;refine(yM en (ae HR _ b1).1 hn qg (ae HR _ b1).2.2 E2).mono ?_;rintro r w2⟨rfl,aK⟩;have b2:=aj b1 aK;cases T2 with
  |false=>
   have eF:B=false:=by rw[Ec];intro hB;have:=(HI.1 hB).2.1;rw[ae E2]at this;cases this
   subst eF;go_wp2;go_ret;exact⟨rfl,b2⟩
  | true=>
   replace i0:=ah i0 aK;replace i1:=ah i1 aK;replace i2:=ah i2 aK;replace i3:=ah i3 aK;replace i4:=ah i4 aK;replace i5:=ah i5 aK;go_wp2_with fail;refine(Fv em (ae HR _ b2).2.1 hm gh (ae HR _ b2).2.2 E3).mono ?_;rintro r w3⟨rfl,br⟩;have b3:=aj b2 br;cases T3 with
   |false=>
    have eF:B=false:=by rw[Ec];intro hB;have:=(HI.1 hB).2.2.1;rw[ae E3]at this;cases this
    subst eF;go_wp2;go_ret;exact⟨rfl,b3⟩
   | true=>
    replace i0:=ah i0 br;replace i1:=ah i1 br;replace i2:=ah i2 br;replace i3:=ah i3 br;replace i4:=ah i4 br;replace i5:=ah i5 br;have hx:x<=2^62:=by have:=ae E1;simp only[Dp,jj]at this;exact this.2.2.1
    have H1:=ag (Ma E2 hx);have H2:=ag (J1 E2);have H3:=ag (Ke E3);go_wp2_with fail;refine(qK en em (ae HR _ b3).1 (ae HR _ b3).2.1 hn hm H1 H2 gh IG H3).mono ?_;rintro r w4⟨b,bs,bn,SB,NB,HB,UB,rfl,db,fy⟩;have b4:=aj b3 fy;have qV:=ag db;go_wp2_with fail;refine(Vl qV (λnd bu=>⟨(ae gh nd bu).1,(ae gh nd bu).2.1⟩) E4).mono ?_;rintro r w5⟨rfl,fT⟩;have b5:=aj b4 fT;cases T4 with
    |false=>
     have eF:B=false:=by rw[Ec];intro hB;have:=(HI.1 hB).2.2.2.1;rw[ae E4]at this;cases this
     subst eF;go_wp2;go_ret;exact⟨rfl,b5⟩
    | true=>
     have bq9:=ag (qV.below fT);go_wp2_with fail;refine(IW bq9 (λnd bu=>⟨(ae gh nd bu).1,(ae gh nd bu).2.2.2⟩) Xm em hm en).mono ?_;rintro r w6⟨nb,k,D,s,rfl,oD,sD,hs,ko⟩;have b6:=aj b5 ko;have hlen:∀ty,(Builtin.len_ #[141] ty #[.map (some nb)]).run prog w6=.ok (.I (Maps.size D)) w6:=λty=>oD.len underlying141 ty;have jl:Maps.size D=0↔s=[]:=sD.bC6 oD.isMap (λes ee p hp=>by
      let⟨es',e',_,hk⟩:=oD.entries jI
      rw[ee]at e';cases e';exact hk p hp)
     have hB:B=true↔s=[]:=by
      rw[ae HI];constructor;{
 rintro⟨_,_,_,_,h5⟩;apply List.eq_nil_iff_forall_not_mem.2;intro i hi
 let⟨⟨nd,bu,hN⟩,me⟩:=(hs i).1 hi
 exact me ((Hc).1 (h5 nd bu i hN))};{intro U0;refine⟨E1,E2,E3,E4,λnd bu i hN=>?_⟩;rw[Hc];by_cases hh:∃z∈ss,z.1=i;{exact hh};{have:=(hs i).2 ⟨⟨nd,bu,hN⟩,hh⟩;rw[U0]at this;cases this}}
     have hb:((Maps.size D:Int)==0)=B:=by rw[GO,hB,<-jl];simp
     go_wp2;go_ret;exact⟨rfl,b6⟩
def kh(s:aQ):aQ:=(s.1,0,[])
def lx(nd:aD):aD:={nd with watchers:=[]}
def uG{R:Value->Option (DataW Unit×List MemPlace)}(h:w.ownsMap Tryz.prog k R b n D)(K:∀es c,w.heap[b]?=some (.map es c)->w'.heap[b]?=some (.map es c)):w'.ownsMap Tryz.prog k R b n D:=by
 obtain⟨es,clock,h1,h2⟩:=h;exact⟨es,clock,K _ _ h1,h2⟩
def Da{R:Value->Option (DataW Unit×List MemPlace)}{r:Nat}(h:w.ranges P k R b r n D left kx)(h1:w'.heap[b]?=w.heap[b]?)(h2:w'.heap[r]?=w.heap[r]?):w'.ranges P k R b r n D left kx:=by
 obtain⟨es,clock,since,seen,c0,hb,F,hs,hD,hr,rest⟩:=h;exact⟨es,clock,since,seen,c0,h1.trans hb,F,hs,hD,h2.trans hr,rest⟩
def Yp{l:List Nat}(h:l.Nodup){a:Nat}(hi:l[i]?=some a)(hj:l[j]?=some a):i=j:=by
 have l1:=(aV.1 hi).1;have l2:=(aV.1 hj).1;have KM:=Jf.1 h;have v1:=(aV.1 hi).2;have v2:=(aV.1 hj).2;rcases GZ i j with hh|hh|hh;{exact absurd (v1.trans v2.symm) (KM i j l1 l2 hh)};{exact hh};{exact absurd (v2.trans v1.symm) (KM j i l2 l1 hh)}
def rO(f:aQ->aQ)(left:Lit->Bool)(ss:List aQ):List aQ:=ss.map λs=>if left (.U s.1)then s else f s
def OY(h:∀s∈ss,left (.U s.1)=true):rO f left ss=ss:=by
 unfold rO;rw[GY (g:=id) (λs hs=>by rw[bO (h s hs)];rfl),al9]
def XX(h:∀k,left k=false):rO f left ss=ss.map f:=by
 unfold rO;exact GY λs _=>by rw[bH (by rw[h];simp)]
def ac4{s:aQ}(hs:ss[i]?=some s)(hl:left (.U s.1)=true):(rO f left ss)[i]?=some s:=by
 unfold rO;rw[nG,hs,Jh,bO hl]
theorem TG(hd:∀(i j:Nat)(s s':aQ),ss[i]?=some s->ss[j]?=some s'->i<j->s.1≠s'.1){s:aQ}(hs:ss[i]?=some s):(rO f left ss).set i (f s)=rO f (λz=>left z&&!z.sameKey (.U s.1)) ss:=by
 have KU:=(aV.1 hs).1;refine QS λj=>?_;rw[vX];unfold rO;by_cases ej:i=j;{subst ej;have hkk:(Lit.U s.1).sameKey (.U s.1)=true:=WL (by trivial);rw[bO rfl,bO (by simpa using KU),nG,hs,Jh,bH (by simp[hkk])]};{
 simp only[ej,Cb];rw[nG,nG];cases hj:ss[j]? with
 |none=>rfl
 | some s'=>
  have bS:s'.1≠s.1:=by rcases GZ i j with hh|hh|hh;{exactλe=>hd i j s s' hs hj hh e.symm};{exact absurd hh ej};{exact hd j i s' s hj hs hh}
  have:(Lit.U s'.1).sameKey (.U s.1)=false:=by
   cases hq:(Lit.U s'.1).sameKey (.U s.1)with
   |false=>rfl
   |true=>rw[WJ (by trivial)]at hq;simp at hq;exact absurd hq bS
  simp[this]}
def J3{mty kt et:TypeId}{R:Value->Option (DataW Unit×List MemPlace)}(hm:P.underlying mty=some (.map kt et))(h:w.ownsMap P k R b n D)(ty:TypeId):∃v w',(Builtin.clear_ #[mty] ty #[.map (some b)]).run P w=.ok v w'/\w'.ownsMap P k R b 0 (.map [])/\w.grownBy w' (some b)/\w'.heap.size=w.heap.size:=by
 obtain⟨es,clock,hb,F,hs,hD⟩:=h;have dK:∃v,(Builtin.clear_ #[mty] ty #[.map (some b)]).run P w=.ok v {w with heap:=w.heap.setIfInBounds b (.map #[] clock)}:=by simp[Builtin.clear_,aj1 hm,MapKept.run_getObj_map hb,MapKept.run_setObj_map _ hb,Result.andThen]
 obtain⟨v,hv⟩:=dK;refine⟨v,_,hv,?_,⟨rfl,rfl,rfl,al,λi _ bS=>(MapKept.heap_set hb).2 i (λe=>bS (by rw[e]))⟩,al⟩;exact⟨#[],clock,(MapKept.heap_set hb).1,⟨al,MapKept.stamped_empty _,al⟩,iD _,rfl⟩
end Go.Proofs.YtnhnbpkfpaondaaGreatDoor
