import Derived.Test.YtjjnidignljppaaGreatDoorK7
import Derived.Test.YtjjnidignljppaaGreatDoorQTs
import Derived.RangeFuncGives
import Derived.RangeFuncSeq
import Derived.Sort.MapsRangeIn
import Derived.OwnWalkIn
import Derived.TacticsInMore
import Derived.RegionIn
import Derived.LoopNIn
import Derived.LoopIn
import Derived.Maps.AppendAt
import Derived.RangeFuncKeeps
import Derived.RangeFuncFrom
import Derived.RangeFuncNested
import Derived.RangeFuncBound
import Derived.RangeFuncCalls
import Derived.RangeFuncLeaves
import Derived.Sort.KeysCollected
import Derived.Test.YtjjnidignljppaaGreatDoorRows
import Derived.ShutString
import Derived.ChangeOld
import Derived.HandedShaped
import Derived.Shelf.Vars
import Derived.LaidMore
import Derived.Lay
import Derived.Stop.Joined
import Derived.OpenVars
namespace Go.Proofs.YtjjnidignljppaaGreatDoor
set_option maxHeartbeats 4000000
set_option linter.all false
set_option maxRecDepth 100000
set_option linter.unusedVariables false
open Go.ChangeShapes Go.WideShapes Go.ChangeAt Go.RowKit Go.Proofs.Tryz
variable {B Bm N b base c c0 c1 c2 g i j k n0 n1 n2 nn:Nat}{K:Act->World->Prop}{W W':World}{a a':Act}{cs xs:List Value}{e:TypeId}{l l0 l1 l2:LI}{left:Lit->Bool}{o:Obj}{oi:Oper}{p p0 p1 p2:OA}{row:Option Nat}{s s0 s1 s2 z:Int}{ss:List (List UInt8)}{v v0 v1 v2:Value}
def fM{vs:List Value}(ls:List LI){lm:LI}{n:Nat}(k:Nat)(ek:Hid (k=ls.length))(e:Hid (lm=cat ls))(en:Hid (lm.length=n)){w:World}(h:mU w g vs ls)(hl:n<=4194304)(hk:k<=10):Cp 62 #[.T g k k] w fun e w'=>∃p' c',e=.returned (.S p' n c')/\Own w.heap.size w' (.S p' n c') lm/\Bw w w':=by
 have e1:=aa ek;have e2:=aa e;have e3:=aa en;subst e1 e3 e2;go_enter func62,ntmps62;go_wp2_with fail;refine(SO h hl ae).mono ?_;rintro e w1⟨p1,c1,rfl,o1,aA⟩;go_wp2;go_ret;exact⟨p1,c1,rfl,o1,aA⟩
theorem Yu{w:World}(c0:w.cell? ⟨g,0,none⟩=some v0)(c1:w.cell? ⟨g,1,none⟩=some v1)(r0:Rd w v0 l0)(r1:Rd w v1 l1):mU w g [v0,v1] [l0,l1]:=by
 refine⟨rfl,fun j v x e1 e2=>?_⟩
 match j,e1,e2 with
 |0,e1,e2=>simp at e1 e2;subst e1 e2;exact⟨c0,r0⟩
 |1,e1,e2=>simp at e1 e2;subst e1 e2;exact⟨c1,r1⟩
theorem Yt{w:World}{v3 v4:Value}{l3 l4:LI}(c0:w.cell? ⟨g,0,none⟩=some v0)(c1:w.cell? ⟨g,1,none⟩=some v1)(c2:w.cell? ⟨g,2,none⟩=some v2)(c3:w.cell? ⟨g,3,none⟩=some v3)(c4:w.cell? ⟨g,4,none⟩=some v4)(r0:Rd w v0 l0)(r1:Rd w v1 l1)(r2:Rd w v2 l2)(r3:Rd w v3 l3)(r4:Rd w v4 l4):mU w g [v0,v1,v2,v3,v4] [l0,l1,l2,l3,l4]:=by
 refine⟨rfl,fun j v x e1 e2=>?_⟩
 match j,e1,e2 with
 |0,e1,e2=>simp at e1 e2;subst e1 e2;exact⟨c0,r0⟩
 |1,e1,e2=>simp at e1 e2;subst e1 e2;exact⟨c1,r1⟩
 |2,e1,e2=>simp at e1 e2;subst e1 e2;exact⟨c2,r2⟩
 |3,e1,e2=>simp at e1 e2;subst e1 e2;exact⟨c3,r3⟩
 |4,e1,e2=>simp at e1 e2;subst e1 e2;exact⟨c4,r4⟩
def cr5(a b:LI):cat [a,b]=a++b:=by simp[cat]
def cr2(a b c d e:LI):cat [a,b,c,d,e]=a++(b++(c++(d++e))):=by simp[cat]
def tx(l:LI):LI:=vi l.length++l
def tS(l:LI):l.length+1<=(tx l).length/\(tx l).length<=l.length+10:=by
 have:=ew l.length;rw[tx,ig];omega
def sw{c n:Nat}(en:Hid (l.length=n)){w:World}(h:Rd w (.S p n c) l)(hl:n<=1048576)(eN:Hid ((tx l).length=N)):Cp 83 #[.S p n c] w fun e w'=>∃p' c',e=.returned (.S p' N c')/\Own w.heap.size w' (.S p' N c') (tx l)/\Bw w w':=by
 obtain⟨M,eM⟩:=aI ((vi n).length);have hM:=ew n;rw[eM]at hM;have EM:=af eM;clear eM;have hN:M+n=N:=by rw[<-aa eN,tx,ig,aa en,aa EM]
 have wn:IntKind.u64.wrap (n:Int)=(n:Int):=by rw[IntKind.wrap_u64];omega
 have EE:Hid (tx l=vi n++l):=by show _=_;rw[tx,aa en]
 go_enter func83,ntmps83;go_wp2_with fail;refine(Ay 9 n _ ae ae ae M EM).mono ?_;rintro e w1⟨p1,c1,rfl,o1,b1⟩;have r1:=h.below b1;have z1:=b1.size;have Vx:Own w.heap.size w1 (.S p1 M c1) (vi n):=o1;clear o1 h;go_wp2_with(at_builtin;refine bS rfl rfl (.S p1 M c1) EE p c n en rfl rfl Vx r1 (by rw[aa EM,aa en];omega) ae ?_);intro p2 c2 w2 o2 ga;have b2:=dt b1 ga Vx ao ae;rw[aa eN]at o2⊢;clear ga Vx r1 b1;go_wp2;go_ret;exact⟨p2,c2,rfl,o2,b2⟩
def lK{c n:Nat}(en:Hid (l.length=n)){w:World}(h:Rd w (.S p n c) l)(hl:n<=1048576)(eN:Hid ((tx l).length=N)):Cp 172 #[.S p n c] w fun e w'=>∃p' c',e=.returned (.S p' N c')/\Own w.heap.size w' (.S p' N c') (tx l)/\Bw w w':=by
 obtain⟨M,eM⟩:=aI ((vi n).length);have hM:=ew n;rw[eM]at hM;have EM:=af eM;clear eM;have hN:M+n=N:=by rw[<-aa eN,tx,ig,aa en,aa EM]
 have wn:IntKind.u64.wrap (n:Int)=(n:Int):=by rw[IntKind.wrap_u64];omega
 have EE:Hid (tx l=cat [vi n,l]):=by show _=_;rw[cr5,tx,aa en]
 go_enter func172,ntmps172;go_wp2_with fail;refine(iQ ae).mono ?_;rintro e w1⟨p1,c1,rfl,o1,b1⟩;rw[aa EM]at o1⊢;have r1:=h.below b1;have z1:=b1.size;have rv:=o1.rd;clear o1 h;go_wp2_with fail;refine(fM (g:=w1.heap.size) (vs:=[.S p1 M c1,.S p n c]) [vi n,l] (lm:=tx l) (n:=N) 2 rfl EE eN (Yu ai ai (rv.below (ay.alloc ao _)) (r1.below (ay.alloc ao _))) ae ae).mono ?_;rintro e w2⟨p2,c2,rfl,o2,aF⟩;have b2:Bw w w2:=aj (aj b1 (ay.alloc ao _)) aF;have o3:Own w.heap.size w2 (.S p2 N c2) (tx l):=Own.mono o2 bj;clear o2 aF r1 rv b1;go_wp2;go_ret;exact⟨p2,c2,rfl,o3,b2⟩
namespace Q
open Go.Maps
def iI:Keyed prog 28:=int_keyed underlying28
abbrev fv(x:Int):Value:=.U x
def qW{H:Type}(D0:DataW H)(left:Lit->Bool)(ss:LI):Prop:=ss.Nodup/\∀x,x∈ss↔(has D0 (.U x)=true/\left (.U x)=false)
def qW.start{H:Type}(D0:DataW H):qW D0 (has D0) []:=⟨Uf,fun x=>by cases has D0 (.U x)<;>simp⟩
def qW.step{H:Type}{D0:DataW H}{ss:LI}(h:qW D0 left ss){x:Int}{y:DataW H}(hlk:left (.U x)=true)(fD:∀zd,D0.atKey (.U x) zd=y):qW D0 (fun z=>left z&&!z.sameKey (.U x)) (ss++[x]):=by
 have Sc:has D0 (.U x)=true:=has_true_of_atKey fD;have wY:x∉ss:=fun hx=>by have:=((h.2 x).1 hx).2;rw[hlk]at this;cases this
 refine⟨yk.2 ⟨h.1,ai,fun a ha b hb=>by simp at hb;subst hb;exact fun e=>wY (e▸ha)⟩,fun y=>?_⟩;by_cases hy:y=x;{subst hy;simp[Sc,Lit.sameKey]};{simp[h.2 y,hy,Lit.sameKey]}
def kO{H:Type}(D0:DataW H)(ss:LI):Prop:=ss.Nodup/\(∀x,x∈ss↔has D0 (.U x)=true)/\ss.length<=Maps.size D0
def qW.all{H:Type}{D0:DataW H}{ss:LI}(h:qW D0 left ss)(hl:∀kl,left kl=false)(hs:ss.length<=Maps.size D0):kO D0 ss:=⟨h.1,(fun x=>by rw[h.2 x,hl];simp),hs⟩
theorem KL{H:Type}(n:Nat)(hn:1<=n)(l Bm b nn:Nat)(D0:DataW H){R:Value->Option (DataW H×List MemPlace)}(J Jx:LI->World->Prop)(hY:∀pre x W,J pre W->pre.length<Maps.size D0->YieldAt Fence.wide (n-1) prog l #[fv x] W fun e W'=>(e=.returned (.bool true)/\J (pre++[x]) W'/\KeepsWalks W W')\/(e=.returned (.bool false)/\Jx (pre++[x]) W'))(W:World)(hJ:AbidesFrom W.heap.size J)(hm:W.cell? ⟨Bm,0,none⟩=some (.map (some b)))(bO:W.ownsMap prog 28 R b nn D0)(h0:J [] W):CallsIn Fence.wide n prog 157 #[.func (.yield l) #[] #[],.pointer (some ⟨Bm,0,none⟩)] W fun e W'=>(∃v,e=.returned v)/\((∃ss:LI,kO D0 ss/\J ss W')\/(∃pre,Jx pre W')):=by
 refine callsIn_of_wp func157 rfl jW ?_ rfl;simp only[ntmps157,qR,Nat.reduceAdd,Nat.reduceSub]
 gi_wp2_with(first
  |(gi_at_range;refine wpListIn_range_own _ rfl _ 111 rfl 28 _ iI underlying111 _ b nn _ rfl bO ?_;intro w0 nw CN Ml)
  |gi_in)
 go_frame
 gi_loopw [3] (fun _ wr=>∃(left:Lit->Bool)(iM:Nat)(ss:LI),wr.ranges prog 28 R b W.heap.size nn D0 left iM/\ss.length+iM<=Maps.size D0/\qW D0 left ss/\J ss wr)
  (fun _ wr=>wr.rangeLeft b W.heap.size)
 case atStart=>exact⟨_,_,[],nw,ai,qW.start D0,hJ [] W w0 none h0 CN (fun r e=>by cases e)⟩
 case round=>(
 obtain⟨left,iM,ss,jb,hcs,hC,hJs⟩:=hrel
 gi_wp2_with(first
  |(gi_at_next;refine wpListIn_next_ranges _ rfl _ rfl 28 iI R fv id (fun key kl hk=>by obtain⟨x,hx,_⟩:=Maps.keyOf_int_inv underlying28 hk;exact⟨x,hx⟩) (fun v _ _=>⟨v,rfl⟩) b W.heap.size nn _ _ _ rfl jb ?_ ?_)
  |gi_in)
 {
 intro qL uz
 gi_wp2
 go_end0
 exact⟨⟨_,rfl⟩,.inl ⟨ss,hC.all uz ae,hJs⟩⟩};{
 intro x c kl yd yp w2 ag3 cL hlk hv fD Fy aX ga GI AF;obtain⟨x',ex,rfl,_⟩:=Maps.keyOf_int_inv underlying28 cL;obtain rfl:x=x':=by simpa[fv]using ex
 have UI:J ss w2:=hJ ss wr w2 (some W.heap.size) hJs ga (fun r e=>by cases e;exact⟨jS _,jb.iter_walk⟩);obtain⟨fn,tmps,assign,body,hy,hR⟩:=hY ss x w2 UI ae;clear GI
 gi_wp2
 refine hR.mono ?_;rintro e W3(⟨rfl,Qo,qZ⟩|⟨rfl,AH⟩);{
 gi_wp2
 have rO:=Fy.of_walks qZ;go_roundw;exact⟨_,ag3,ss++[x],rO,bj,hC.step hlk fD,Qo⟩
 case measure=>rw[rO.left_eq,jb.left_eq];exact aX}
 {
 gi_wp2
 refine fL (wD rfl _ _ _) rfl ?_;exact⟨⟨_,rfl⟩,.inr ⟨_,AH⟩⟩}})
def Rr(n:Nat)(mb:Option Nat)(w:World):CallsIn Fence.wide n prog 113 #[.map mb] w fun e w'=>e=.returned (.func (.func 157) #[] #[.pointer (some ⟨w.heap.size,0,none⟩)])/\w'=w.alloc (.cells #[.map mb] 111):=by
 refine callsIn_of_wp func113 rfl jW ?_ rfl;simp only[ntmps113,qR,Nat.reduceAdd,Nat.reduceSub]
 gi_wp2
 go_ret;exact⟨rfl,rfl⟩
def JO{H:Type}(n:Nat)(hn:1<=n)(Bm b nn:Nat)(D0:DataW H){R:Value->Option (DataW H×List MemPlace)}(w:World)(hBm:Bm<w.heap.size)(hm:w.cell? ⟨Bm,0,none⟩=some (.map (some b)))(bO:w.ownsMap prog 28 R b nn D0):SeqStopsK Fence.wide n prog 157 #[.pointer (some ⟨Bm,0,none⟩)] (fun x:Int=>#[fv x]) KeepsWalks (kO D0) (fun _=>True) (Maps.size D0) w:=fun l J Jx W hW hJ _ hY h0=>by
 have rP:W.ownsMap prog 28 R b nn D0:=by have CQ:=bO.lt;obtain⟨es,clock,hb,Ft,hs,hD⟩:=bO;exact⟨es,clock,(hW.block b CQ).trans hb,Ft,hs,hD⟩
 refine(KL n hn l Bm b nn D0 J Jx hY W hJ ((hW.cell (p:=⟨Bm,0,none⟩) hBm).trans hm) rP h0).mono ?_;rintro e W'⟨he,⟨ss,hs,hj⟩|⟨pre,hj⟩⟩;{exact⟨he,.inl ⟨ss,hs,hj⟩⟩};{exact⟨he,.inr ⟨pre,jW,hj⟩⟩}
theorem as0{H:Type}{n:Nat}(hn:1<=n){l:Nat}{D0:DataW H}{R:Value->Option (DataW H×List MemPlace)}(J Jx:LI->World->Prop)(hY:∀pre x W,J pre W->pre.length<Maps.size D0->YieldAt Fence.wide (n-1) prog l #[fv x] W fun e W'=>(e=.returned (.bool true)/\J (pre++[x]) W'/\KeepsWalks W W')\/(e=.returned (.bool false)/\Jx (pre++[x]) W'))(hJ:AbidesFrom W.heap.size J)(hm:W.cell? ⟨Bm,0,none⟩=some (.map (some b)))(bO:W.ownsMap prog 28 R b nn D0)(h0:J [] W):CallsIn Fence.wide n prog 181 #[.func (.yield l) #[] #[],.pointer (some ⟨Bm,0,none⟩)] W fun e W'=>(∃v,e=.returned v)/\((∃ss:LI,kO D0 ss/\J ss W')\/(∃pre,Jx pre W')):=by
 refine callsIn_of_wp func181 rfl jW ?_ rfl;simp only[ntmps181,qR,Nat.reduceAdd,Nat.reduceSub]
 gi_wp2_with(first
  |(gi_at_range;refine wpListIn_range_own _ rfl _ 117 rfl 28 _ iI underlying117 _ b nn _ rfl bO ?_;intro w0 nw CN Ml)
  |gi_in)
 go_frame
 gi_loopw [3] (fun _ wr=>∃(left:Lit->Bool)(iM:Nat)(ss:LI),wr.ranges prog 28 R b W.heap.size nn D0 left iM/\ss.length+iM<=Maps.size D0/\qW D0 left ss/\J ss wr)
  (fun _ wr=>wr.rangeLeft b W.heap.size)
 case atStart=>exact⟨_,_,[],nw,ai,qW.start D0,hJ [] W w0 none h0 CN (fun r e=>by cases e)⟩
 case round=>(
 obtain⟨left,iM,ss,jb,hcs,hC,hJs⟩:=hrel
 gi_wp2_with(first
  |(gi_at_next;refine wpListIn_next_ranges _ rfl _ rfl 28 iI R fv id (fun key kl hk=>by obtain⟨x,hx,_⟩:=Maps.keyOf_int_inv underlying28 hk;exact⟨x,hx⟩) (fun v _ _=>⟨v,rfl⟩) b W.heap.size nn _ _ _ rfl jb ?_ ?_)
  |gi_in)
 {
 intro qL uz
 gi_wp2
 go_end0
 exact⟨⟨_,rfl⟩,.inl ⟨ss,hC.all uz ae,hJs⟩⟩};{
 intro x c kl yd yp w2 ag3 cL hlk hv fD Fy aX ga GI AF;obtain⟨x',ex,rfl,_⟩:=Maps.keyOf_int_inv underlying28 cL;obtain rfl:x=x':=by simpa[fv]using ex
 have UI:J ss w2:=hJ ss wr w2 (some W.heap.size) hJs ga (fun r e=>by cases e;exact⟨jS _,jb.iter_walk⟩);obtain⟨fn,tmps,assign,body,hy,hR⟩:=hY ss x w2 UI ae;clear GI
 gi_wp2
 refine hR.mono ?_;rintro e W3(⟨rfl,Qo,qZ⟩|⟨rfl,AH⟩);{
 gi_wp2
 have rO:=Fy.of_walks qZ;go_roundw;exact⟨_,ag3,ss++[x],rO,bj,hC.step hlk fD,Qo⟩
 case measure=>rw[rO.left_eq,jb.left_eq];exact aX}
 {
 gi_wp2
 refine fL (wD rfl _ _ _) rfl ?_;exact⟨⟨_,rfl⟩,.inr ⟨_,AH⟩⟩}})
def aO2{n:Nat}{mb:Option Nat}{w:World}:CallsIn Fence.wide n prog 161 #[.map mb] w fun e w'=>e=.returned (.func (.func 181) #[] #[.pointer (some ⟨w.heap.size,0,none⟩)])/\w'=w.alloc (.cells #[.map mb] 117):=by
 refine callsIn_of_wp func161 rfl jW ?_ rfl;simp only[ntmps161,qR,Nat.reduceAdd,Nat.reduceSub]
 gi_wp2
 go_ret;exact⟨rfl,rfl⟩
def an4{H:Type}{n:Nat}(hn:1<=n){D0:DataW H}{R:Value->Option (DataW H×List MemPlace)}{w:World}(hBm:Bm<w.heap.size)(hm:w.cell? ⟨Bm,0,none⟩=some (.map (some b)))(bO:w.ownsMap prog 28 R b nn D0):SeqStopsK Fence.wide n prog 181 #[.pointer (some ⟨Bm,0,none⟩)] (fun x:Int=>#[fv x]) KeepsWalks (kO D0) (fun _=>True) (Maps.size D0) w:=fun l J Jx W hW hJ _ hY h0=>by
 have rP:W.ownsMap prog 28 R b nn D0:=by have CQ:=bO.lt;obtain⟨es,clock,hb,Ft,hs,hD⟩:=bO;exact⟨es,clock,(hW.block b CQ).trans hb,Ft,hs,hD⟩
 refine(as0 hn J Jx hY hJ ((hW.cell (p:=⟨Bm,0,none⟩) hBm).trans hm) rP h0).mono ?_;rintro e W'⟨he,⟨ss,hs,hj⟩|⟨pre,hj⟩⟩;{exact⟨he,.inl ⟨ss,hs,hj⟩⟩};{exact⟨he,.inr ⟨pre,jW,hj⟩⟩}
end Q
namespace Q
open Go.Maps
def Hid.wS{p:Prop}(h:p):Hid p:=h
def tQ{p:Prop}(h:Hid p):p:=h
def kI(W:World)(l:Nat)(o:Obj):W.grownBy (W.putObj l o) (some l):=⟨rfl,rfl,rfl,by simp,fun k _ hk=>World.putObj_heap_other (fun e=>hk (by rw[e]))⟩
def uC(W:World)(b:Nat)(v:Value):W.grownBy (W.setCell ⟨b,0,none⟩ v) (some b):=⟨rfl,rfl,rfl,by simp,fun k _ hk=>Ue _ _ _ k (fun e=>hk (by rw[e]))⟩
def rC{size:Nat}(h:W.ownsRow base e size v k xs)(hj:W.heap[j]?=some o)(ho:o.isCells=false):v.ownBlock=none\/v.ownBlock≠some j:=by
  rcases h.2 with⟨rfl,_⟩|⟨g,cap,cur,rfl,_,hgb,_⟩;{exact .inl rfl};{
 refine .inr fun e'=>?_;have:g=j:=by simpa[Value.ownBlock]using e'
 subst this;rw[hgb]at hj;cases hj;cases ho}
theorem xU{size:Nat}(h:W.ownsRow base e size v k xs)(hg:W.grownBy W' row)(hr:∀r,row=some r->∃o:Obj,W.heap[r]?=some o/\o.isCells=false):W'.ownsRow base e size v k xs:=by
  refine h.kept hg ?_;cases hv:v.ownBlock with
  |none=>exact .inl rfl
  | some j=>
    refine .inr fun e'=>?_;obtain⟨o,ho,hc⟩:=hr j e'.symm;rcases rC h ho hc with e1|e1;{rw[hv]at e1;cases e1};{exact e1 hv}
def vW{size:Nat}(h:W.ownsRow base e size v k xs)(hg:W.grownBy W' v.ownBlock):KeepsOthers W W':=
  ⟨hg.size,fun j o hj ho=>(hg.block j (EF.1 hj).1 (fun e1=>by rcases rC h hj ho with e2|e2;{rw[e2]at e1;cases e1};{exact e2 e1.symm})).trans hj⟩
structure Got(w0:World)(Bs:Nat)(pre:LI)(v:Value)(W:World):Prop where
  cell:W.cell? ⟨Bs,0,none⟩=some v
  fr:W.frozen? ⟨Bs,0,none⟩=false
  row:W.ownsRow (Bs+1) 28 1 v pre.length (pre.map fv)
  nil:v=.S none 0 0↔pre=[]
theorem sL(n:Nat)(hn:2<=n)(g:Nat)(lb:Array Value)(eg:∀args w,(callFunc g args).run prog w=.ok (.enter g args) w)(S Sp:LI->Prop)(N:Nat)(hN:N<=1048576)(w:World)(uv:SeqStopsK Fence.wide (n-1) prog g lb (fun x:Int=>#[fv x]) KeepsWalks S Sp N w):CallsIn Fence.wide n prog 176 #[.S none 0 0,.func (.func g) #[] lb] w fun e w'=>∃(v:Value)(ss:LI),e=.returned v/\S ss/\w'.ownsRow (w.heap.size+1) 28 1 v ss.length (ss.map fv)/\(v=.S none 0 0↔ss=[])/\Bw w w':=by
  have h1:1<=n:=ae;obtain⟨i0,hi,nO,iL,ju⟩:=info_parts (P:=prog) (e:=28) (z:=.U 0) (size:=1) (bytes:=8) bg;refine callsIn_of_wp_marks func176 rfl jW ?_ rfl;simp only[ntmps176,qR,Nat.reduceAdd,Nat.reduceSub]
  gi_wp2
  obtain⟨W0,dV⟩:=au (w.alloc (.cells #[.S none 0 0] 91));have z0:W0.heap.size=w.heap.size+1:=by rw[dV];simp
  have k0:W0.cell? ⟨w.heap.size,0,none⟩=some (.S none 0 0):=by rw[dV];simp
  have f0:W0.frozen? ⟨w.heap.size,0,none⟩=false:=by rw[dV];simp
  have hB0:=dO dV;rw[<-dV];clear dV;refine wpIn_rangeFunc_ownF (F:=Fence.wide) rfl h1 (gf:=g) (lb:=lb) rfl jW eg uv (fun h k=>h.trans k) (fun W l o o' _ hl _ hw=>KeepsWalks.putObj _ hl hw) hB0 (fun _=>rfl)
    (fun pre W=>(∃v,Got w w.heap.size pre v W)/\Bw w W)
    (fun _ _ _=>False)
    (OwnFrom.and (Own.from (fun s A B row hs hg hr=>by obtain⟨v,hv⟩:=hs;exact⟨v,cell_kept hv.cell hg hr,(frozen_kept hv.cell hg hr).trans hv.fr,xU hv.row hg hr,hv.nil⟩) _) (ownFrom_below ao ae))
    (fun _ _ _ _ _ hs _ _=>hs)
    ⟨⟨_,k0,f0,⟨rfl,.inl ⟨rfl,rfl⟩⟩,ai⟩,hB0⟩
    (fun x=>{tmps:=#[.S none 0 0,.func (.func g) #[] lb,.pointer (some ⟨w.heap.size,0,none⟩),undef,.S none 0 0,fv x,.func (.func g) #[] lb,fv x,undef,undef,undef,undef,undef],defers:=[]}) ?assign ?body ?done ?stop
  case assign=>(
 intro l x W K hK
 gi_wp2_with(rw[Oper.semAt_eq _ _ _ (fun c h=>by cases h)];go_simp;try go_bits)
 exact hK)
  case body=>(
 rintro L pre x W⟨⟨v,hv⟩,nF⟩qY;have hc:=hv.cell;have hf:=hv.fr;have dh:=hv.row;have aX:w.heap.size<W.heap.size:=pI W _ hc;have OI:=dh.alloc (.cells #[fv x] 28)
 gi_wp2_with(first
   | (gi_at_builtin;refine wpListIn_append_own _ rfl _ _ 91 rfl (w.heap.size+1) 28 i0 (.int .u64 0) 1 8 underlying91 hi nO iL ju rfl aU _ _ _ rfl OI ⟨W.heap.size,0,none⟩ 1 1 [fv x] rfl rfl (cell_one_new _ _ _) (by simp[Value.oneCell',fv]) ic ae bj ?_;intro v' w3 rP tz ZO
      have Lb:(W.alloc (.cells #[fv x] 28)).grownBy w3 v.ownBlock:=tz;have aQ0:some w.heap.size≠v.ownBlock:=fun e=>by have:=(dh.lt _ e.symm).1;omega
      have We:(W.alloc (.cells #[fv x] 28)).cell? ⟨w.heap.size,0,none⟩=some v:=(World.cell?_of_block (a:=⟨w.heap.size,0,none⟩) (Ks _ _ _ aX)).trans hc;have hfA:(W.alloc (.cells #[fv x] 28)).frozen? ⟨w.heap.size,0,none⟩=false:=(World.frozen?_of_block (a:=⟨w.heap.size,0,none⟩) (Ks _ _ _ aX)).trans hf;have bf:w3.heap[w.heap.size]?=(W.alloc (.cells #[fv x] 28)).heap[w.heap.size]?:=Lb.block _ bj aQ0;have Cb:w3.cell? ⟨w.heap.size,0,none⟩=some v:=(World.cell?_of_block (a:=⟨w.heap.size,0,none⟩) bf).trans We;have xe:w3.frozen? ⟨w.heap.size,0,none⟩=false:=(World.frozen?_of_block (a:=⟨w.heap.size,0,none⟩) bf).trans hfA;obtain⟨g',xq,rfl⟩:∃g' xq,v'=.T g' (pre.length+1) xq:=by rcases rP.2 with⟨_,h0⟩|⟨g',xq,_,h',_⟩;{exact absurd h0 ae};{exact⟨g',xq,h'⟩}
      have HO3:=Hid.wS ((KeepsOthers.alloc W (.cells #[fv x] 28)).trans (vW OI Lb));have tG:=Hid.wS (((nF.alloc nF.size (.cells #[fv x] 28)).grown Lb (by have:=nF.size;simp;omega) (fun k e=>by have:=(dh.lt k e).1;omega)));have zI:=Hid.wS rP;clear rP ZO tz Lb We hfA bf
      go_frame)
   |(rw[Oper.semAt_eq _ _ _ (fun c h=>by cases h)];go_simp;try go_bits))
 refine⟨(tQ HO3).trans (KeepsOthers.setCell _ _ _),((tQ HO3).trans (KeepsOthers.setCell _ _ _)).walks,⟨_,Bx _ _ _ Cb,by rw[CF];exact xe,?_,ai⟩,(tQ tG).setCell (p:=⟨w.heap.size,0,none⟩) ao _⟩;have hr:=(tQ zI).kept (uC w3 w.heap.size (.T g' (pre.length+1) xq)) (.inr (fun e=>by have:=((tQ zI).lt _ e).1;omega));simpa using hr)
  case done=>(
 rintro D ys W hD hS⟨⟨v,hv⟩,nF⟩hK;have hc:=hv.cell
 gi_wp2
 refine⟨ai,.inl ⟨_,_,rfl,run_takeDeferred hK,?_⟩⟩;exact⟨_,results_tmp rfl _ _ _,v,ys,rfl,hS,xU hv.row (kI _ _ _) (fun r e=>by cases e;exact⟨_,hK,rfl⟩),hv.nil,nF.grown (kI _ _ _) nF.size (fun k e=>by cases e;omega)⟩)
  case stop=>(
 rintro D c pre W _ _ h _;exact h.elim)
end Q
namespace T
open Go.Sort
abbrev HT(w:World)(blk off:Nat)(d:Array (List UInt8)):Prop:=Holds (fun x:List UInt8=>Value.string ⟨x.toArray⟩) w blk off d
def D5(cap:Nat)(w:World):Cp 159 #[.S none 0 cap] w fun e w'=>e=.returned (.tuple #[])/\w'=w:=Tryz.slices_Sort_string_none none cap w
def Ag(blk off cap:Nat)(l:List (List UInt8))(iO:l.length<=1048576)(w:World)(h:HT w blk off l.toArray)(ji:blk<w.heap.size):Cp 159 #[.S (some ⟨blk,off,none⟩) l.length cap] w fun e w'=>
   e=.returned (.tuple #[])/\HT w' blk off (l.mergeSort (fun x y=>decide (x<=y))).toArray/\w.grownBy w' (some blk):=by
 refine(Tryz.slices_Sort_string blk off cap l w h ji ae).mono ?_;rintro e w'⟨rfl,n,os,rfl⟩;have hz:(putRow encStr (Sort.ahead w n) blk off (l.mergeSort fun x y=>decide (x<=y)).toArray).heap.size=w.heap.size:=by simp[putRow,mapBlock,Sort.ahead]
 have hb:∀i,i<w.heap.size->(grow (putRow encStr (Sort.ahead w n) blk off (l.mergeSort fun x y=>decide (x<=y)).toArray) os).heap[i]?=(putRow encStr (Sort.ahead w n) blk off (l.mergeSort fun x y=>decide (x<=y)).toArray).heap[i]?:=fun i hi=>Array.getElem?_append_left (by rw[hz];exact hi);have hH:=holds_putRow encStr (Sort.ahead w n) blk off l.toArray (l.mergeSort fun x y=>decide (x<=y)).toArray h ai;refine⟨rfl,fun j hj=>⟨(World.cell?_of_block (a:=⟨blk,off+j,none⟩) (hb blk ji)).trans (hH j hj).1,(World.frozen?_of_block (a:=⟨blk,off+j,none⟩) (hb blk ji)).trans (hH j hj).2⟩,rfl,rfl,rfl,by simp[grow,hz],fun i hi cg=>(hb i hi).trans ?_⟩;have:blk≠i:=fun e=>cg (by rw[e]);simp[putRow,mapBlock,Sort.ahead,we,this]
theorem nG:∀x y:List UInt8,Op.bytesLess x y=decide (x<y)
 |[],[]=>by simp[Op.bytesLess]
 |[],b::y=>by simp[Op.bytesLess]
 |a::x,[]=>by simp[Op.bytesLess]
 |a::x,b::y=>by have ih:=nG x y;simp only[Op.bytesLess,ih,List.cons_lt_cons_iff];by_cases h1:a<b;{simp[h1]};{by_cases h2:a=b;{subst h2;simp};{simp[h1,h2]}}
end T
namespace T
open Go.Maps
def iI:Keyed prog 9:=string_keyed underlying9
abbrev fv(x:List UInt8):Value:=.string ⟨x.toArray⟩
def qW{H:Type}(D0:DataW H)(left:Lit->Bool)(ss:List (List UInt8)):Prop:=ss.Nodup/\∀x,x∈ss↔(has D0 (.string x)=true/\left (.string x)=false)
def qW.start{H:Type}(D0:DataW H):qW D0 (has D0) []:=⟨Uf,fun x=>by cases has D0 (.string x)<;>simp⟩
def qW.step{H:Type}{D0:DataW H}(h:qW D0 left ss){x:List UInt8}{y:DataW H}(hlk:left (.string x)=true)(fD:∀zd,D0.atKey (.string x) zd=y):qW D0 (fun z=>left z&&!z.sameKey (.string x)) (ss++[x]):=by
 have Sc:has D0 (.string x)=true:=has_true_of_atKey fD;have wY:x∉ss:=fun hx=>by have:=((h.2 x).1 hx).2;rw[hlk]at this;cases this
 refine⟨yk.2 ⟨h.1,ai,fun a ha b hb=>by simp at hb;subst hb;exact fun e=>wY (e▸ha)⟩,fun y=>?_⟩;by_cases hy:y=x;{subst hy;simp[Sc,Lit.sameKey]};{simp[h.2 y,hy,Lit.sameKey]}
def kO{H:Type}(D0:DataW H)(ss:List (List UInt8)):Prop:=ss.Nodup/\(∀x,x∈ss↔has D0 (.string x)=true)/\ss.length<=Maps.size D0
def qW.all{H:Type}{D0:DataW H}(h:qW D0 left ss)(hl:∀kl,left kl=false)(hs:ss.length<=Maps.size D0):kO D0 ss:=⟨h.1,(fun x=>by rw[h.2 x,hl];simp),hs⟩
theorem KL{H:Type}(n:Nat)(hn:1<=n)(l Bm b nn:Nat)(D0:DataW H){R:Value->Option (DataW H×List MemPlace)}(J Jx:List (List UInt8)->World->Prop)(hY:∀pre x W,J pre W->pre.length<Maps.size D0->YieldAt Fence.wide (n-1) prog l #[fv x] W fun e W'=>(e=.returned (.bool true)/\J (pre++[x]) W'/\KeepsWalks W W')\/(e=.returned (.bool false)/\Jx (pre++[x]) W'))(W:World)(hJ:AbidesFrom W.heap.size J)(hm:W.cell? ⟨Bm,0,none⟩=some (.map (some b)))(bO:W.ownsMap prog 9 R b nn D0)(h0:J [] W):CallsIn Fence.wide n prog 160 #[.func (.yield l) #[] #[],.pointer (some ⟨Bm,0,none⟩)] W fun e W'=>(∃v,e=.returned v)/\((∃ss:List (List UInt8),kO D0 ss/\J ss W')\/(∃pre,Jx pre W')):=by
 refine callsIn_of_wp func160 rfl jW ?_ rfl;simp only[ntmps160,qR,Nat.reduceAdd,Nat.reduceSub]
 gi_wp2_with(first
  |(gi_at_range;refine wpListIn_range_own _ rfl _ 112 rfl 9 _ iI underlying112 _ b nn _ rfl bO ?_;intro w0 nw CN Ml)
  |gi_in)
 go_frame
 gi_loopw [3] (fun _ wr=>∃(left:Lit->Bool)(iM:Nat)(ss:List (List UInt8)),wr.ranges prog 9 R b W.heap.size nn D0 left iM/\ss.length+iM<=Maps.size D0/\qW D0 left ss/\J ss wr)
  (fun _ wr=>wr.rangeLeft b W.heap.size)
 case atStart=>exact⟨_,_,[],nw,ai,qW.start D0,hJ [] W w0 none h0 CN (fun r e=>by cases e)⟩
 case round=>(
 obtain⟨left,iM,ss,jb,hcs,hC,hJs⟩:=hrel
 gi_wp2_with(first
  |(gi_at_next;refine wpListIn_next_ranges _ rfl _ rfl 9 iI R fv id (fun key kl hk=>by obtain⟨x,hx,_⟩:=Maps.keyOf_str underlying9 hk;exact⟨x,hx⟩) (fun v _ _=>⟨v,rfl⟩) b W.heap.size nn _ _ _ rfl jb ?_ ?_)
  |gi_in)
 {
 intro qL uz
 gi_wp2
 go_end0
 exact⟨⟨_,rfl⟩,.inl ⟨ss,hC.all uz ae,hJs⟩⟩};{
 intro x c kl yd yp w2 ag3 cL hlk hv fD Fy aX ga GI AF;obtain⟨x',ex,rfl,_⟩:=Maps.keyOf_str underlying9 cL;obtain rfl:x=x':=by simpa[fv]using ex
 have UI:J ss w2:=hJ ss wr w2 (some W.heap.size) hJs ga (fun r e=>by cases e;exact⟨jS _,jb.iter_walk⟩);obtain⟨fn,tmps,assign,body,hy,hR⟩:=hY ss x w2 UI ae;clear GI
 gi_wp2
 refine hR.mono ?_;rintro e W3(⟨rfl,Qo,qZ⟩|⟨rfl,AH⟩);{
 gi_wp2
 have rO:=Fy.of_walks qZ;go_roundw;exact⟨_,ag3,ss++[x],rO,bj,hC.step hlk fD,Qo⟩
 case measure=>rw[rO.left_eq,jb.left_eq];exact aX}
 {
 gi_wp2
 refine fL (wD rfl _ _ _) rfl ?_;exact⟨⟨_,rfl⟩,.inr ⟨_,AH⟩⟩}})
def Rr(n:Nat)(mb:Option Nat)(w:World):CallsIn Fence.wide n prog 115 #[.map mb] w fun e w'=>e=.returned (.func (.func 160) #[] #[.pointer (some ⟨w.heap.size,0,none⟩)])/\w'=w.alloc (.cells #[.map mb] 112):=by
 refine callsIn_of_wp func115 rfl jW ?_ rfl;simp only[ntmps115,qR,Nat.reduceAdd,Nat.reduceSub]
 gi_wp2
 go_ret;exact⟨rfl,rfl⟩
def JO{H:Type}(n:Nat)(hn:1<=n)(Bm b nn:Nat)(D0:DataW H){R:Value->Option (DataW H×List MemPlace)}(w:World)(hBm:Bm<w.heap.size)(hm:w.cell? ⟨Bm,0,none⟩=some (.map (some b)))(bO:w.ownsMap prog 9 R b nn D0):SeqStopsK Fence.wide n prog 160 #[.pointer (some ⟨Bm,0,none⟩)] (fun x:List UInt8=>#[fv x]) KeepsWalks (kO D0) (fun _=>True) (Maps.size D0) w:=fun l J Jx W hW hJ _ hY h0=>by
 have rP:W.ownsMap prog 9 R b nn D0:=by have CQ:=bO.lt;obtain⟨es,clock,hb,Ft,hs,hD⟩:=bO;exact⟨es,clock,(hW.block b CQ).trans hb,Ft,hs,hD⟩
 refine(KL n hn l Bm b nn D0 J Jx hY W hJ ((hW.cell (p:=⟨Bm,0,none⟩) hBm).trans hm) rP h0).mono ?_;rintro e W'⟨he,⟨ss,hs,hj⟩|⟨pre,hj⟩⟩;{exact⟨he,.inl ⟨ss,hs,hj⟩⟩};{exact⟨he,.inr ⟨pre,jW,hj⟩⟩}
end T
namespace T
open Go.Maps
def Hid.wS{p:Prop}(h:p):Hid p:=h
def tQ{p:Prop}(h:Hid p):p:=h
def kI(W:World)(l:Nat)(o:Obj):W.grownBy (W.putObj l o) (some l):=⟨rfl,rfl,rfl,by simp,fun k _ hk=>World.putObj_heap_other (fun e=>hk (by rw[e]))⟩
def uC(W:World)(b:Nat)(v:Value):W.grownBy (W.setCell ⟨b,0,none⟩ v) (some b):=⟨rfl,rfl,rfl,by simp,fun k _ hk=>Ue _ _ _ k (fun e=>hk (by rw[e]))⟩
def rC{size:Nat}(h:W.ownsRow base e size v k xs)(hj:W.heap[j]?=some o)(ho:o.isCells=false):v.ownBlock=none\/v.ownBlock≠some j:=by
  rcases h.2 with⟨rfl,_⟩|⟨g,cap,cur,rfl,_,hgb,_⟩;{exact .inl rfl};{
 refine .inr fun e'=>?_;have:g=j:=by simpa[Value.ownBlock]using e'
 subst this;rw[hgb]at hj;cases hj;cases ho}
theorem xU{size:Nat}(h:W.ownsRow base e size v k xs)(hg:W.grownBy W' row)(hr:∀r,row=some r->∃o:Obj,W.heap[r]?=some o/\o.isCells=false):W'.ownsRow base e size v k xs:=by
  refine h.kept hg ?_;cases hv:v.ownBlock with
  |none=>exact .inl rfl
  | some j=>
    refine .inr fun e'=>?_;obtain⟨o,ho,hc⟩:=hr j e'.symm;rcases rC h ho hc with e1|e1;{rw[hv]at e1;cases e1};{exact e1 hv}
def vW{size:Nat}(h:W.ownsRow base e size v k xs)(hg:W.grownBy W' v.ownBlock):KeepsOthers W W':=
  ⟨hg.size,fun j o hj ho=>(hg.block j (EF.1 hj).1 (fun e1=>by rcases rC h hj ho with e2|e2;{rw[e2]at e1;cases e1};{exact e2 e1.symm})).trans hj⟩
structure Got(w0:World)(Bs:Nat)(pre:List (List UInt8))(v:Value)(W:World):Prop where
  cell:W.cell? ⟨Bs,0,none⟩=some v
  fr:W.frozen? ⟨Bs,0,none⟩=false
  row:W.ownsRow (Bs+1) 9 1 v pre.length (pre.map fv)
  nil:v=.S none 0 0↔pre=[]
theorem sL(n:Nat)(hn:2<=n)(g:Nat)(lb:Array Value)(eg:∀args w,(callFunc g args).run prog w=.ok (.enter g args) w)(S Sp:List (List UInt8)->Prop)(N:Nat)(hN:N<=1048576)(w:World)(uv:SeqStopsK Fence.wide (n-1) prog g lb (fun x:List UInt8=>#[fv x]) KeepsWalks S Sp N w):CallsIn Fence.wide n prog 179 #[.S none 0 0,.func (.func g) #[] lb] w fun e w'=>∃(v:Value)(ss:List (List UInt8)),e=.returned v/\S ss/\w'.ownsRow (w.heap.size+1) 9 1 v ss.length (ss.map fv)/\(v=.S none 0 0↔ss=[])/\Bw w w':=by
  have h1:1<=n:=ae;obtain⟨i0,hi,nO,iL,ju⟩:=info_parts (P:=prog) (e:=9) (z:=.string ⟨#[]⟩) (size:=1) (bytes:=16) bg;refine callsIn_of_wp_marks func179 rfl jW ?_ rfl;simp only[ntmps179,qR,Nat.reduceAdd,Nat.reduceSub]
  gi_wp2
  obtain⟨W0,dV⟩:=au (w.alloc (.cells #[.S none 0 0] 125));have z0:W0.heap.size=w.heap.size+1:=by rw[dV];simp
  have k0:W0.cell? ⟨w.heap.size,0,none⟩=some (.S none 0 0):=by rw[dV];simp
  have f0:W0.frozen? ⟨w.heap.size,0,none⟩=false:=by rw[dV];simp
  have hB0:=dO dV;rw[<-dV];clear dV;refine wpIn_rangeFunc_ownF (F:=Fence.wide) rfl h1 (gf:=g) (lb:=lb) rfl jW eg uv (fun h k=>h.trans k) (fun W l o o' _ hl _ hw=>KeepsWalks.putObj _ hl hw) hB0 (fun _=>rfl)
    (fun pre W=>(∃v,Got w w.heap.size pre v W)/\Bw w W)
    (fun _ _ _=>False)
    (OwnFrom.and (Own.from (fun s A B row hs hg hr=>by obtain⟨v,hv⟩:=hs;exact⟨v,cell_kept hv.cell hg hr,(frozen_kept hv.cell hg hr).trans hv.fr,xU hv.row hg hr,hv.nil⟩) _) (ownFrom_below ao ae))
    (fun _ _ _ _ _ hs _ _=>hs)
    ⟨⟨_,k0,f0,⟨rfl,.inl ⟨rfl,rfl⟩⟩,ai⟩,hB0⟩
    (fun x=>{tmps:=#[.S none 0 0,.func (.func g) #[] lb,.pointer (some ⟨w.heap.size,0,none⟩),undef,.S none 0 0,fv x,.func (.func g) #[] lb,fv x,undef,undef,undef,undef,undef],defers:=[]}) ?assign ?body ?done ?stop
  case assign=>(
 intro l x W K hK
 gi_wp2_with(rw[Oper.semAt_eq _ _ _ (fun c h=>by cases h)];go_simp;try go_bits)
 exact hK)
  case body=>(
 rintro L pre x W⟨⟨v,hv⟩,nF⟩qY;have hc:=hv.cell;have hf:=hv.fr;have dh:=hv.row;have aX:w.heap.size<W.heap.size:=pI W _ hc;have OI:=dh.alloc (.cells #[fv x] 9)
 gi_wp2_with(first
   | (gi_at_builtin;refine wpListIn_append_own _ rfl _ _ 125 rfl (w.heap.size+1) 9 i0 (.string ⟨#[]⟩) 1 16 underlying125 hi nO iL ju rfl aU _ _ _ rfl OI ⟨W.heap.size,0,none⟩ 1 1 [fv x] rfl rfl (cell_one_new _ _ _) (by simp[Value.oneCell',fv]) ic ae bj ?_;intro v' w3 rP tz ZO
      have Lb:(W.alloc (.cells #[fv x] 9)).grownBy w3 v.ownBlock:=tz;have aQ0:some w.heap.size≠v.ownBlock:=fun e=>by have:=(dh.lt _ e.symm).1;omega
      have We:(W.alloc (.cells #[fv x] 9)).cell? ⟨w.heap.size,0,none⟩=some v:=(World.cell?_of_block (a:=⟨w.heap.size,0,none⟩) (Ks _ _ _ aX)).trans hc;have hfA:(W.alloc (.cells #[fv x] 9)).frozen? ⟨w.heap.size,0,none⟩=false:=(World.frozen?_of_block (a:=⟨w.heap.size,0,none⟩) (Ks _ _ _ aX)).trans hf;have bf:w3.heap[w.heap.size]?=(W.alloc (.cells #[fv x] 9)).heap[w.heap.size]?:=Lb.block _ bj aQ0;have Cb:w3.cell? ⟨w.heap.size,0,none⟩=some v:=(World.cell?_of_block (a:=⟨w.heap.size,0,none⟩) bf).trans We;have xe:w3.frozen? ⟨w.heap.size,0,none⟩=false:=(World.frozen?_of_block (a:=⟨w.heap.size,0,none⟩) bf).trans hfA;obtain⟨g',xq,rfl⟩:∃g' xq,v'=.T g' (pre.length+1) xq:=by rcases rP.2 with⟨_,h0⟩|⟨g',xq,_,h',_⟩;{exact absurd h0 ae};{exact⟨g',xq,h'⟩}
      have HO3:=Hid.wS ((KeepsOthers.alloc W (.cells #[fv x] 9)).trans (vW OI Lb));have tG:=Hid.wS (((nF.alloc nF.size (.cells #[fv x] 9)).grown Lb (by have:=nF.size;simp;omega) (fun k e=>by have:=(dh.lt k e).1;omega)));have zI:=Hid.wS rP;clear rP ZO tz Lb We hfA bf
      go_frame)
   |(rw[Oper.semAt_eq _ _ _ (fun c h=>by cases h)];go_simp;try go_bits))
 refine⟨(tQ HO3).trans (KeepsOthers.setCell _ _ _),((tQ HO3).trans (KeepsOthers.setCell _ _ _)).walks,⟨_,Bx _ _ _ Cb,by rw[CF];exact xe,?_,ai⟩,(tQ tG).setCell (p:=⟨w.heap.size,0,none⟩) ao _⟩;have hr:=(tQ zI).kept (uC w3 w.heap.size (.T g' (pre.length+1) xq)) (.inr (fun e=>by have:=((tQ zI).lt _ e).1;omega));simpa using hr)
  case done=>(
 rintro D ys W hD hS⟨⟨v,hv⟩,nF⟩hK;have hc:=hv.cell
 gi_wp2
 refine⟨ai,.inl ⟨_,_,rfl,run_takeDeferred hK,?_⟩⟩;exact⟨_,results_tmp rfl _ _ _,v,ys,rfl,hS,xU hv.row (kI _ _ _) (fun r e=>by cases e;exact⟨_,hK,rfl⟩),hv.nil,nF.grown (kI _ _ _) nF.size (fun k e=>by cases e;omega)⟩)
  case stop=>(
 rintro D c pre W _ _ h _;exact h.elim)
end T
namespace T
open Go.Maps Go.Sort
def xn(n:Nat)(hn:3<=n)(g:Nat)(lb:Array Value)(eg:∀args w,(callFunc g args).run prog w=.ok (.enter g args) w)(S Sp:List (List UInt8)->Prop)(N:Nat)(hN:N<=1048576)(w:World)(uv:SeqStopsK Fence.wide (n-1-1) prog g lb (fun x:List UInt8=>#[fv x]) KeepsWalks S Sp N w):CallsIn Fence.wide n prog 158 #[.func (.func g) #[] lb] w fun e w'=>∃(v:Value)(ss:List (List UInt8)),e=.returned v/\S ss/\w'.ownsRow (w.heap.size+1) 9 1 v ss.length (ss.map fv)/\(v=.S none 0 0↔ss=[])/\Bw w w':=by
 have h1:1<=n:=ae;have hfS:Fence.wide.fn 179:=jW;refine callsIn_of_wp func158 rfl jW ?_ rfl;simp only[ntmps158,qR,Nat.reduceAdd,Nat.reduceSub]
 gi_wp2_with(gi_at_call 179;refine(sL (n-1) ae g lb eg S Sp N hN _ uv).mono ?_;rintro e w'⟨v,ss,rfl,hS,dh,Hz,hb⟩)
 go_ret;exact⟨v,ss,rfl,hS,dh,Hz,hb⟩
def RG{w:World}{cur:Array Value}(hb:w.heap[g]?=some (.cells cur e (0,0)))(ht:cur.toList.take ss.length=ss.map fv):HT w g 0 ss.toArray:=by
 intro j hj;have hj':j<ss.length:=by simpa using hj
 refine⟨?_,by simp[World.frozen?,hb]⟩;have h1:(cur.toList.take ss.length)[j]?=(ss.map fv)[j]?:=by rw[ht]
 rw[aD7 hj']at h1;simp only[World.cell?,hb,lu];simp only[YX,Hj,wu];rw[<-Ug,h1];simp[hj',fv]
def RdK(B:Nat)(w:World)(v:Value)(ss:List (List UInt8)):Prop:=(v=.S none 0 0/\ss=[])\/∃g cap,v=.T g ss.length cap/\B<=g/\g<w.heap.size/\HT w g 0 ss.toArray
structure Asc{H:Type}(D0:DataW H)(ss:List (List UInt8)):Prop where
 lt:ss.Pairwise (·<·)
 mem:∀x,x∈ss↔has D0 (.string x)=true
 size:ss.length<=Maps.size D0
def L9{H:Type}{D0:DataW H}(h:kO D0 ss):Asc D0 (ss.mergeSort (fun x y=>decide (x<=y))):=by
 have hp:=List.mergeSort_perm ss (fun x y=>decide (x<=y));refine⟨?_,fun x=>(hp.mem_iff).trans (h.2.1 x),by rw[hp.length_eq];exact h.2.2⟩;have h1:=aD6 (le:=fun x y:List UInt8=>decide (x<=y)) (fun a b c h1 h2=>by simp only[jg]at*;exact List.le_trans h1 h2) (fun a b=>by simp only[Jc,jg];exact List.le_total a b) ss;have h2:(ss.mergeSort (fun x y=>decide (x<=y))).Pairwise (·≠·):=hp.nodup_iff.2 h.1;refine(h1.and h2).imp (fun{a b}⟨x,y⟩=>?_);simp only[jg]at x;exact aD5 fun hh=>y (List.le_antisymm x hh)
def uQ(n:Nat)(hn:4<=n)(g:Nat)(lb:Array Value)(eg:∀args w,(callFunc g args).run prog w=.ok (.enter g args) w)(S Sp:List (List UInt8)->Prop)(N:Nat)(hN:N<=1048576)(hS:∀ss,S ss->ss.length<=1048576)(w:World)(uv:SeqStopsK Fence.wide (n-1-1-1) prog g lb (fun x:List UInt8=>#[fv x]) KeepsWalks S Sp N w):CallsIn Fence.wide n prog 114 #[.func (.func g) #[] lb] w fun e w'=>∃(v:Value)(ss:List (List UInt8)),e=.returned v/\S ss/\RdK w.heap.size w' v (ss.mergeSort (fun x y=>decide (x<=y)))/\Bw w w':=by
 have h1:1<=n:=ae;have hfC:Fence.wide.fn 158:=jW;have hfS:Fence.wide.fn 159:=jW;refine callsIn_of_wp func114 rfl jW ?_ rfl;simp only[ntmps114,qR,Nat.reduceAdd,Nat.reduceSub]
 gi_wp2_with(gi_at_call 158;refine(xn (n-1) ae g lb eg S Sp N hN _ uv).mono ?_;rintro e w'⟨v,ss,rfl,hSs,dh,Hz,hb⟩)
 rcases dh.2 with⟨rfl,_⟩|⟨gb,cap,cur,rfl,yL,hgb,Hw,kY,GJ,VW⟩;{
 have e0:ss=[]:=Hz.1 rfl;subst e0
 gi_wp2_with(gi_at_call 159;refine(callsIn_wide.2 (D5 0 _)).mono ?_;rintro e w2⟨rfl,rfl⟩)
 go_ret;exact⟨_,[],rfl,hSs,.inl ⟨rfl,ai⟩,hb⟩};{
 have aX:gb<w'.heap.size:=(EF.1 hgb).1;have hH:=RG hgb (by simpa using VW)
 gi_wp2_with(gi_at_call 159;refine(callsIn_wide.2 (Ag gb 0 cap ss (hS ss hSs) _ hH aX)).mono ?_;rintro e w2⟨rfl,zF,ga⟩)
 go_ret;refine⟨_,ss,rfl,hSs,.inr ⟨gb,cap,by rw[List.length_mergeSort];rfl,ae,kV aX ga.size,zF⟩,?_⟩;exact hb.grown ga hb.size (fun k e=>by cases e;omega)}
theorem ka{H:Type}(b nn:Nat)(D0:DataW H){R:Value->Option (DataW H×List MemPlace)}(w:World)(bO:w.ownsMap prog 9 R b nn D0)(iO:Maps.size D0<=1048576):Cp 67 #[.map (some b)] w fun e w'=>∃(v:Value)(ss:List (List UInt8)),e=.returned v/\Asc D0 ss/\RdK w.heap.size w' v ss/\Bw w w':=by
 refine(callsIn_wide (n:=6)).1 ?_;have hfK:Fence.wide.fn 115:=jW;have hfS:Fence.wide.fn 114:=jW;have CQ:=bO.lt;have sR:(w.alloc (.cells #[.map (some b)] 112)).ownsMap prog 9 R b nn D0:=by obtain⟨es,clock,hb,Ft,hs,hD⟩:=bO;exact⟨es,clock,(Ks _ _ b CQ).trans hb,Ft,hs,hD⟩
 have uv:=JO 2 ae w.heap.size b nn D0 (w.alloc (.cells #[.map (some b)] 112)) ai ai sR;refine callsIn_of_wp func67 rfl jW ?_ rfl;simp only[ntmps67,qR,Nat.reduceAdd,Nat.reduceSub]
 gi_wp2_with(first
  |(gi_at_call 115;refine(Rr _ _ _).mono ?_;rintro e w'⟨rfl,rfl⟩)
  |(gi_at_call 114;refine(uQ 5 ae _ _ (fun args w=>(by kernel_rfl:(callFunc 160 args).run prog w=.ok (.enter 160 args) w)) _ _ _ iO (fun ss h=>fW h.2.2 iO) _ uv).mono ?_;rintro e w'⟨v,ss,rfl,hS,yI,hb⟩))
 go_ret;refine⟨v,_,rfl,L9 hS,?_,((cW _ w).alloc ao _).trans (hb.mono ai)⟩;rcases yI with h|⟨g,cap,h1,h2,h3,h4⟩;{exact .inl h};{exact .inr ⟨g,cap,h1,by simp at h2;omega,h3,h4⟩}
end T
theorem Dr:∀(l m:LI),l.Nodup->(∀x∈l,x∈m)->l.length<=m.length
 |[],m,_,_=>gq _
 |x::l,m,hd,hs=>by rw[vg]at hd;have hx:=hs x ai;have h:=Dr l (m.erase x) hd.2 fun y hy=>(List.mem_erase_of_ne (fun e=>hd.1 (by rw[<-e];exact hy))).2 (hs y (by simp[hy]));rw[List.length_erase_of_mem hx]at h;have:=aC8 hx;rw[iU];omega
theorem af5{α:Type}[DecidableEq α](c:α)(s:List α):((dP c s).map fun n=>n.length+1).sum=s.length+1:=by
 induction s with
 |nil=>rfl
 |cons x l ih=>
  rw[dP];split;{rw[iH,IZ,ih,iU,yr];omega};{
 cases h:dP c l with
 |nil=>have:=af3 c (s:=l);rw[h]at this;simp at this
 |cons n ns=>
  rw[h]at ih;simp only[iH,IZ,iU]at ih⊢;omega}
theorem QL(C:Nat):∀l:List Nat,(∀x∈l,x<=C)->l.sum<=C*l.length
 |[],_=>gq _
 |x::l,h=>by have h1:=QL C l fun y hy=>h y (by simp[hy]);have h2:=h x ai;rw[IZ,iU,YP];omega
theorem Aa{p:LI}(h:vp p=true):p.length<=136:=by
 cases p with
 |nil=>simp
 |cons c t=>
  rw[vp,st,fu,fu,jg,iT]at h;obtain⟨-,h1,h2⟩:=h;have h3:=QL 17 ((dP 47 t).map fun n=>n.length+1) (fun x hx=>by obtain⟨n,hn,rfl⟩:=iJ.1 hx;have:=h2 n hn;simp only[kn,fu,jg]at this;omega)
  rw[af5,fe]at h3;rw[iU];omega
def GY(P:Program)(md:Region.Mode)(ops:Array Oper)(Q:Exit->Act->World->Prop)(S:World->Prop)(x:Nat):Nat->Array Bool->Act->World->Prop
 |0,l,a,w=>Region.ready md ops l=[]/\Q .normal a w
 |n+1,l,a,w=>(Region.ready md ops l=[]->Q .normal a w)/\∀i∈Region.ready md ops l,wpOp P ops Q i (fun a' w'=>(i=x\/S w')/\GY P md ops Q S x n (l.setIfInBounds i true) a' w') a w
section
variable {P:Program}{md:Region.Mode}{ops:Array Oper}{Q:Exit->Act->World->Prop}{S:World->Prop}{x:Nat}
theorem JF:∀(n:Nat)(l:Array Bool)(a:Act)(w:World),GY P md ops Q S x n l a w->wpAny P md ops Q n l a w
 |0,_,_,_,h=>h
 |n+1,_,_,_,h=>⟨h.1,fun i hi=>wpOp_mono (fun a' w' k=>JF n _ a' w' k.2) (h.2 i hi)⟩
theorem Va(hi:ops[i]?=some oi)(hs:∀(j:Nat)(o:Oper)cs b,ops[j]?=some o->o.op≠.select cs b)(hQ:∀c a w,Q (.panic c) (a.put oi.dst v) w->Q (.panic c) a w)(hx:∀o,ops[x]?=some o->∃e∈o.after,Region.binds md e=true/\e.on=i):∀(n:Nat)(l:Array Bool)(a:Act)(w:World),(∀j oj,ops[j]?=some oj->j≠i->l.getD j true=false->(∀e∈oj.after,Region.binds md e=true->e.on≠i)->oi.apart ops oj=true)->i∈Region.ready md ops l->YieldsIf P ops S oi v a->S w->GY P md ops Q S x n (l.setIfInBounds i true) (a.put oi.dst v) w->GY P md ops Q S x (n+1) l a w:=by
 intro n
 induction n with
 |zero=>
  intro l a w _ hr hy hS H;refine⟨fun e=>(by rw[e]at hr;cases hr),fun j hj=>?_⟩;by_cases e:j=i;{rw[e];exact hy.wpOp hi hS ⟨.inr hS,H⟩};{have k:=ready_mono hj e;rw[H.1]at k;cases k}
 |succ n ih=>
  intro l a w hf hr hy hS H;refine⟨fun e=>(by rw[e]at hr;cases hr),fun j hj=>?_⟩;by_cases e:j=i;{rw[e];exact hy.wpOp hi hS ⟨.inr hS,H⟩};{
 obtain⟨bp9,oj,hoj,Lj⟩:=mem_ready.1 hj;have la:∀z∈oj.after,Region.binds md z=true->z.on≠i:=fun z hz hb hzi=>by have k1:=Lj z hz hb;have k0:=(mem_ready.1 hr).1;rw[hzi]at k1;by_cases hl:i<l.size;{simp[hl]at k0 k1;rw[k0]at k1;cases k1};{simp[YO (Nat.le_of_not_lt hl)]at k1}
 have hjx:j≠x:=fun ex=>by subst ex;obtain⟨z,hz,hb,hzi⟩:=hx oj hoj;exact la z hz hb hzi
 refine wpOp_mono (fun a' w' k=>?_) (wpOp_putIf hoj (hf j oj hoj e bp9 la) (fun cs b=>hs i oi cs b hi) (fun cs b=>hs j oj cs b hoj) hQ hy (H.2 j (ready_mono hj e)));have Qn:S w':=k.2.1.resolve_left hjx;refine⟨.inr Qn,ih (l.setIfInBounds j true) a' w' (fun k' ok hk hki Xd hn=>hf k' ok hk hki ?_ hn) (ready_mono hr (Ne.symm e)) k.1 Qn ?_⟩;{by_cases hjk:j=k';{rw[<-hjk];exact bp9};{rw[getD_set_ne true hjk]at Xd;exact Xd}};{rw[Array.setIfInBounds_comm _ _ e];exact k.2.2}}
theorem DG{n:Nat}{l:Array Bool}{w:World}(h:Q .normal a w)(hr:Region.ready md ops l=[]:=by kernel_rfl):GY P md ops Q S x n l a w:=by
 cases n with
 |zero=>exact⟨hr,h⟩
 |succ n=>exact⟨fun _=>h,by rw[hr];simp⟩
def jd(i:Nat){n:Nat}{l:Array Bool}{w:World}{o:Oper}(h:∀K':Act->World->Prop,Shut (∀a w,(i=x\/S w)->((i=x\/S w)->GY P md ops Q S x n (l.setIfInBounds i true) a w)->K' a w)->if Region.wanted o (yielded ops a.tmps)=true then Oper.wp P o a w K' Q else K' (a.put o.dst undef) w)(hi:ops[i]?=some o:=by(simp only[wC,As,Ar];rfl))(hr:Region.ready md ops l=[i]:=by kernel_rfl):GY P md ops Q S x (n+1) l a w:=by
 refine⟨fun e=>?_,fun j hj=>?_⟩;{rw[hr]at e;cases e};{rw[hr]at hj;obtain rfl:=yx.1 hj;exact wpOp_step hi (fun K' hK=>h K' (fun a w hS hW=>hK a w ⟨hS,hW hS⟩))}
def TE(P:Program)(md:Region.Mode)(ops:Array Oper)(Q:Exit->Act->World->Prop)(S:World->Prop)(x:Nat)(l:Array Bool)(i:Nat)(a a':Act):Prop:=∀n w,S w->GY P md ops Q S x n (l.setIfInBounds i true) a' w->GY P md ops Q S x (n+1) l a w
def tEQ{v:Value}{l:Array Bool}{a a':Act}(hi:ops[i]?=some oi:=by(simp only[wC,As,Ar];rfl))(hs:Region.noSelect ops=true:=by kernel_rfl)(hf:Region.free md ops l i=true:=by kernel_rfl)(hr:(Region.ready md ops l).contains i=true:=by kernel_rfl)(hx:((ops[x]?.map fun o=>o.after.toList.any fun e=>Region.binds md e&&e.on==i).getD false)=true:=by kernel_rfl)(hQ:∀c a w,Q (.panic c) (a.put oi.dst v) w->Q (.panic c) a w:=by exact fun _ _ _ h=>h)(hg:Region.wanted oi (yielded ops a.tmps)=true:=by rfl)(hy:∀w,S w->(execOp a.eval oi).run P w=.ok (.value v) w:=by(intro w' vJ;(try dsimp only at vJ);go_simp;try with_reducible rfl))(ha:a.put oi.dst v=a':=by(simp only[Act.put,xa,xb,xc];rfl)):TE P md ops Q S x l i a a':=
 fun n w hS h=>Va hi (Region.noSelect_spec hs) hQ (fun o ho=>by rw[ho]at hx;simp only[Cy,qI,Ob,fu,NC]at hx;obtain⟨e,he,h1,h2⟩:=hx;exact⟨e,by simpa using he,h1,h2⟩) n l a w (Region.free_spec hi hf) (by simpa using hr) (Or.inl ⟨hg,hy⟩) hS (ha▸h)
def tEo(i:Nat){v:Value}{n:Nat}{l:Array Bool}{a a':Act}{w:World}(hS:S w)(h:GY P md ops Q S x n (l.setIfInBounds i true) a' w)(hi:ops[i]?=some oi:=by(simp only[wC,As,Ar];rfl))(hr:Region.ready md ops l=[i]:=by kernel_rfl)(hg:Region.wanted oi (yielded ops a.tmps)=true:=by rfl)(hy:∀w,S w->(execOp a.eval oi).run P w=.ok (.value v) w:=by(intro w' vJ;(try dsimp only at vJ);go_simp;try with_reducible rfl))(ha:a.put oi.dst v=a':=by(simp only[Act.put,xa,xb,xc];rfl)):GY P md ops Q S x (n+1) l a w:=by
 refine⟨fun e=>(by rw[hr]at e;cases e),fun j hj=>?_⟩;rw[hr]at hj;obtain rfl:=yx.1 hj;have hY:YieldsIf P ops S oi v a:=Or.inl ⟨hg,hy⟩;exact hY.wpOp hi hS ⟨.inr hS,ha▸h⟩
def tEn(i:Nat){n:Nat}{l:Array Bool}{w:World}(hS:S w)(h:GY P md ops Q S x n (l.setIfInBounds i true) a' w)(t:TE P md ops Q S x l i a a':=by exact tEQ):GY P md ops Q S x (n+1) l a w:=t _ _ hS h
def tED(i0 i1 i2 i3:Nat){n:Nat}{l:Array Bool}{a0 a1 a2 a3 a4:Act}{w:World}(hS:S w)(h:GY P md ops Q S x n ((((l.setIfInBounds i0 true).setIfInBounds i1 true).setIfInBounds i2 true).setIfInBounds i3 true) a4 w)(x0:TE P md ops Q S x l i0 a0 a1:=by exact tEQ)(x1:TE P md ops Q S x (l.setIfInBounds i0 true) i1 a1 a2:=by exact tEQ)(x2:TE P md ops Q S x ((l.setIfInBounds i0 true).setIfInBounds i1 true) i2 a2 a3:=by exact tEQ)(x3:TE P md ops Q S x (((l.setIfInBounds i0 true).setIfInBounds i1 true).setIfInBounds i2 true) i3 a3 a4:=by exact tEQ):GY P md ops Q S x (n+4) l a0 w:=x0 _ _ hS (x1 _ _ hS (x2 _ _ hS (x3 _ _ hS h)))
def oGS{i n:Nat}{l:Array Bool}{w:World}(hK:Shut (∀a w,(i=x\/S w)->((i=x\/S w)->GY P md ops Q S x n l a w)->K a w))(hS:S w)(h:S w->GY P md ops Q S x n l a' w)(ha:a=a':=by((try simp only[Act.put,xa,xb,xc]);rfl)):K a w:=hK.out _ _ (.inr hS) fun _=>ha▸h hS
def oGX{n:Nat}{l:Array Bool}{w:World}(hK:Shut (∀a w,(x=x\/S w)->((x=x\/S w)->GY P md ops Q S x n l a w)->K a w))(h:GY P md ops Q S x n l a w):K a w:=hK.out _ _ (.inl rfl) fun _=>h
def AZ(x:Nat){id:Nat}{w:World}(hS:S w.drew)(h:S w.drew->GY P .any ops Q S x ops.size (Array.replicate ops.size false) a w.drew)(hm:P.follows .mixedOrders=true:=by kernel_rfl):(Code.region id ops true).wp P Q a w:=
 wp_region_any hm (JF _ _ _ _ (h hS))
end
def sI(h b:Int):Int:=((h.toNat ^^^ b.toNat:Nat):Int)*16777619 % 4294967296
def LO(h:Int)(l:LI):Int:=l.foldl sI h
def ck(l:LI):Int:=LO 2166136261 l
def WH{h b:Int}:0<=sI h b/\sI h b<4294967296:=by unfold sI;omega
def Cm(h:k<l.length):ck (l.take (k+1))=sI (ck (l.take k)) l[k]:=by
 unfold ck LO;rw[Oa h,Ul];rfl
def UQ(l:LI):0<=ck l/\ck l<4294967296:=by
 rcases l.eq_nil_or_concat with rfl|⟨m,x,rfl⟩;{unfold ck LO;simp};{unfold ck LO;rw[List.concat_eq_append,Ul];exact WH}
def bh6{h:Nat}(h1:h<4294967296)(b1:b<256):h ^^^ b<4294967296:=
 NQ (n:=32) h1 ae
def bh5(k:IntKind)(hj:j<=k.bits)(hk:∀n:Int,0<=n->n<2 ^ j->k.wrap n=n)(a b:Nat)(ha:a<2 ^ j)(hb:b<2 ^ j):bits .xor k a b=((a ^^^ b:Nat):Int):=by
 have hp:2 ^ j<=2 ^ k.bits:=aD8 aU hj;have Qm:a % 2 ^ k.bits=a:=Nat.mod_eq_of_lt (kV ha hp);have bL:b % 2 ^ k.bits=b:=Nat.mod_eq_of_lt (kV hb hp);have cast:∀n:Nat,n<2 ^ j->((n:Nat):Int)<2 ^ j:=fun n h=>by exact_mod_cast h
 simp only[bits,BitVec.ofInt_natCast,BitVec.toNat_xor,BitVec.toNat_ofNat,Qm,bL];exact hk _ (Int.natCast_nonneg _) (cast _ (NQ ha hb))
def bA0{a:Int}(c0:0<=a)(c1:a<4294967296)(z0:0<=z)(z1:z<256):(IntKind.u64.wrap (bits .xor .u64 a z*16777619)).tmod 4294967296=sI a z:=by
 obtain⟨m,rfl⟩:=TV c0;obtain⟨n,rfl⟩:=TV z0;have hx:=bh6 (h:=m) (b:=n) ae ae;rw[bh5 .u64 aU wraps_u64 m n ae ae];unfold sI;simp only[Int.ofNat_eq_natCast,uk];generalize m ^^^ n=y at*;rw[u64_wrap_id _ ae ae,Int.tmod_eq_emod_of_nonneg ae]
def bA1{a:Int}(c0:0<=a)(c1:a<4294967296)(z0:0<=z)(z1:z<256):IntKind.u32.wrap (bits .xor .u32 a z*16777619)=sI a z:=by
 obtain⟨m,rfl⟩:=TV c0;obtain⟨n,rfl⟩:=TV z0;rw[bh5 .u32 aU wraps_u32 m n ae ae,IntKind.wrap_u32];unfold sI;simp only[Int.ofNat_eq_natCast,uk]
def QT{w:World}(h:Rd w (.S p l.length c) l)(hb:aM l)(hl:l.length<=4194304):Cp 119 #[.S p l.length c] w fun e w'=>e=.returned (.int .u32 (ck l))/\Bw w w':=by
 obtain⟨p',c',ev,h⟩:=h;simp only[dU]at ev;obtain⟨rfl,-,rfl⟩:=ev;go_enter func119,ntmps119;go_wp2
 go_loopw[3,4](fun hh i wr=>∃k:Nat,k<=l.length/\i=.I k/\hh=.U (ck (l.take k))/\Bw w wr) (fun _ i _=>l.length-(intOf i).toNat)
 exact⟨0,gq _,rfl,rfl,cW _ _⟩;{obtain⟨k,hk,rfl,rfl,aG⟩:=hrel;obtain⟨c0,c1⟩:=UQ (l.take k);by_cases aX:k<l.length;{rcases h with rfl|⟨b,o,rfl,hc⟩;{simp at aX};{have zE:wr.cell? ⟨b,o+k,none⟩=some (.int .u8 l[k]):=(aG.cell (p:=⟨b,o+k,none⟩) (pI w _ (hc k aX))).trans (by rw[hc k aX];simp[List.getD,aX]);obtain⟨z0,z1⟩:=hb l[k] (Hl aX);have HS:=af (Cm aX);have HM:=af aX;clear hc hb;generalize l[k]=z at*;generalize ck (l.take k)=a at*;go_wp2;go_roundw;exact⟨k+1,ae,by go_num,by rw[aa HS,bA0 c0 c1 z0 z1],aG⟩;exact bG}};{have e:k=l.length:=ae;subst e;rw[mF]at*;go_wp2;go_ret;exact⟨rfl,aG⟩}}
def Rw{w:World}(h:Rd w (.S p l.length c) l)(hb:aM l)(hl:l.length<=4194304):Cp 166 #[.S p l.length c] w fun e w'=>e=.returned (.int .u32 (ck l))/\Bw w w':=by
 obtain⟨p',c',ev,h⟩:=h;simp only[dU]at ev;obtain⟨rfl,-,rfl⟩:=ev;go_enter func166,ntmps166;go_wp2
 go_loopw[3,8](fun hh i wr=>∃k:Nat,k<=l.length/\i=.I k/\hh=.int .u32 (ck (l.take k))/\Bw w wr) (fun _ i _=>l.length-(intOf i).toNat)
 exact⟨0,gq _,rfl,rfl,cW _ _⟩;{obtain⟨k,hk,rfl,rfl,aG⟩:=hrel;obtain⟨c0,c1⟩:=UQ (l.take k);by_cases aX:k<l.length;{rcases h with rfl|⟨b,o,rfl,hc⟩;{simp at aX};{have zE:wr.cell? ⟨b,o+k,none⟩=some (.int .u8 l[k]):=(aG.cell (p:=⟨b,o+k,none⟩) (pI w _ (hc k aX))).trans (by rw[hc k aX];simp[List.getD,aX]);obtain⟨z0,z1⟩:=hb l[k] (Hl aX);have HS:=af (Cm aX);have HM:=af aX;clear hc hb;generalize l[k]=z at*;generalize ck (l.take k)=a at*;go_wp2;go_roundw;exact⟨k+1,ae,by go_num,by rw[aa HS,<-bA1 c0 c1 z0 z1,IntKind.wrap_u32],aG⟩;exact bG}};{have e:k=l.length:=ae;subst e;rw[mF]at*;go_wp2;go_ret;exact⟨rfl,aG⟩}}
open Go.Deep
def Rd.ap9{H:Type}{enc:TypeId×Value->H}{w:World}{n:Nat}{x:DataW H×List MemPlace}(h:DataW.trod enc prog w 0 (fun _=>true) true n 22 cs=some x):∃(p:OA)(l:LI)(c:Nat),cs=[.S p l.length c]/\Rd w (.S p l.length c) l/\l.length<=maxLen/\(∀z∈l,(Lit.int .u8 z).wf=true):=by
 rcases open_ints underlying22 underlying5 bg h with⟨rfl,_⟩|⟨a,len,cap,zs,rfl,_,hl,hm,hz,_,cO,hwz⟩;{exact⟨none,[],0,rfl,Rd.nil w,ai,ai⟩};{
 simp only[pG]at hz;have e:(zs.take len).length=len:=by simp;omega
 refine⟨some a,zs.take len,cap,by rw[e],?_,ae,fun z h=>hwz z (Jh h)⟩;refine⟨some a,cap,rfl,?_⟩;by_cases h0:len=0;{left;subst h0;simp}
 {
 right
 obtain⟨b,o,spot⟩:=a;have hs:spot=none:=by simpa[Addr.add]using World.cell?_spot (cO 0 ae)
 subst hs;refine⟨b,o,rfl,fun i hi=>?_⟩;rw[e]at hi;have:=cO i ae;simp only[Addr.add_lit]at this;rw[this];simp[List.getD,Fc,hi]}}
def Rd.Nk{H:Type}{enc:TypeId×Value->H}{w:World}{n:Nat}{x:DataW H×List MemPlace}(h:DataW.trod enc prog w 0 (fun _=>true) true n 22 cs=some x):∃(p:OA)(l:LI)(c:Nat),cs=[.S p l.length c]/\Rd w (.S p l.length c) l/\l.length<=maxLen/\l.length<=c/\(∀z∈l,0<=z/\z<256):=by
 obtain⟨p,l,c,e,hr,hm,hw⟩:=Rd.ap9 h;refine⟨p,l,c,e,hr,hm,?_,fun z hz=>?_⟩;{rcases open_ints underlying22 underlying5 bg h with⟨rfl,_⟩|⟨a,len,cap,zs,rfl,_,hl,_⟩;{simp at e;omega};{simp at e;omega}};{have:=hw z hz;simp[Lit.wf,IntKind.min,IntKind.max,IntKind.signed,IntKind.bits]at this;omega}
abbrev sV(v:Value)(n:Int):Value:=.agg #[v,.I n]
abbrev gL(v0:Value)(n0:Int)(v1:Value)(n1:Int)(v2:Value)(n2:Int):Value:=.agg #[v0,.I n0,v1,.I n1,v2,.I n2]
def im{n cap:Nat}{left:Int}{w:World}(hn:n<=maxLen)(h0:0<=left)(h1:left<=1048576):Cp 13 #[sV (.S p n cap) s,.I left] w fun e w'=>e=.returned (.I (jl n left))/\Bw w w':=by
 have hc:-1<=jl n left/\jl n left<=1048576:=by unfold jl;split<;>omega
 by_cases h:jl n left<0;{
 have e:jl n left=-1:=by unfold jl at h⊢;split<;>simp_all<;>omega
 go_enter func13,ntmps13;go_wp2_with fail;refine(Bf hn h0 h1).mono ?_;rintro e w'⟨rfl,rfl⟩;go_wp2;go_ret;exact⟨by rw[e];rfl,ay.alloc ao _⟩};{go_enter func13,ntmps13;go_wp2_with fail;refine(Bf hn h0 h1).mono ?_;rintro e w'⟨rfl,rfl⟩;go_wp2;go_ret;exact⟨rfl,ay.alloc ao _⟩}
def QK{w:World}(hs:n0+n1+n2<=1048576):Cp 4 #[gL (.S p0 n0 c0) s0 (.S p1 n1 c1) s1 (.S p2 n2 c2) s2,.I 1048576] w fun e w'=>e=.returned (.I (1048576-n0-n1-n2))/\Bw w w':=by
 have m0:n0<=maxLen:=by unfold maxLen;omega
 have m1:n1<=maxLen:=by unfold maxLen;omega
 have m2:n2<=maxLen:=by unfold maxLen;omega
 go_enter func4,ntmps4;go_wp2_with fail;refine(im m0 ae ae).mono ?_;rintro e w1⟨rfl,aA⟩;rw[ld ae];obtain⟨iD,FE⟩:=pf aA;go_wp2_with fail;refine(im m1 ae ae).mono ?_;rintro e w2⟨rfl,aF⟩;replace aF:=aj aA aF;clear iD FE;rw[ld ae];obtain⟨js,Ld⟩:=pf aF;go_wp2_with fail;refine(im m2 ae ae).mono ?_;rintro e w3⟨rfl,bf⟩;replace bf:=aj aF bf;rw[ld ae];go_wp2;go_ret;exact⟨rfl,(ay.alloc ao _).trans (bf.mono ai)⟩
def Vh{w:World}(m0:n0<=maxLen)(m1:n1<=maxLen)(m2:n2<=maxLen)(hs:1048576<n0+n1+n2):Cp 4 #[gL (.S p0 n0 c0) s0 (.S p1 n1 c1) s1 (.S p2 n2 c2) s2,.I 1048576] w fun e w'=>e=.returned (.I (-1))/\Bw w w':=by
 by_cases h0:n0<=1048576;{by_cases h1:n0+n1<=1048576;{go_enter func4,ntmps4;go_wp2_with fail;refine(im m0 ae ae).mono ?_;rintro e w1⟨rfl,aA⟩;rw[ld ae];obtain⟨iD,FE⟩:=pf aA;go_wp2_with fail;refine(im m1 ae ae).mono ?_;rintro e w2⟨rfl,aF⟩;replace aF:=aj aA aF;clear iD FE;rw[ld ae];obtain⟨js,Ld⟩:=pf aF;go_wp2_with fail;refine(im m2 ae ae).mono ?_;rintro e w3⟨rfl,bf⟩;replace bf:=aj aF bf;rw[Ad ae];go_wp2;go_ret;exact⟨rfl,(ay.alloc ao _).trans (bf.mono ai)⟩};{go_enter func4,ntmps4;go_wp2_with fail;refine(im m0 ae ae).mono ?_;rintro e w1⟨rfl,aA⟩;rw[ld ae];obtain⟨iD,FE⟩:=pf aA;go_wp2_with fail;refine(im m1 ae ae).mono ?_;rintro e w2⟨rfl,aF⟩;replace aF:=aj aA aF;clear iD FE;rw[Ad ae];go_wp2;go_ret;exact⟨rfl,(ay.alloc ao _).trans (aF.mono ai)⟩}};{go_enter func4,ntmps4;go_wp2_with fail;refine(im m0 ae ae).mono ?_;rintro e w1⟨rfl,aA⟩;rw[Ad ae];go_wp2;go_ret;exact⟨rfl,(ay.alloc ao _).trans (aA.mono ai)⟩}
def vS{n:Int}{w:World}(h:Rd w (.S p l.length c) l)(hl:l.length<=1048576):Cp 21 #[sV (.S p l.length c) n] w fun e w'=>∃p' c',e=.returned (sV (.S p' l.length c') n)/\Own w.heap.size w' (.S p' l.length c') l/\Bw w w':=by
 have hR:=fun(w':World)(hb:Bw w w')=>h.below hb;go_enter func21,ntmps21;go_wp2_with fail;refine(ME (hR _ (by exact((ay.alloc ao _).alloc ai _).alloc bj _)) hl).mono ?_;rintro e w1⟨p',c',rfl,ho,aA⟩;obtain⟨iD,FE⟩:=pf aA;clear hR;go_wp2;have aF:Bw w w1:=((((ay.alloc ao _).alloc ai _).alloc bj _)).trans (aA.mono bj);have mP:Own (w.heap.size+3) w1 (.S p' l.length c') l:=by simpa using ho
 refine bodyPost_ret (v:=sV (.S p' l.length c') n) (by simp[results,results21,go_sem,iD]) rfl ⟨p',c',rfl,Own.mono (B:=w.heap.size+3) ?_ ae,?_⟩;{
 repeat(refine ownsRow_setCell_below ?_ ai _)
 exact mP};{
 repeat(refine Below.setCell ?_ (by simp<;>omega) _)
 exact aF}
structure CU(B:Nat)(w:World)(v0 v1 v2:Value)(l0 l1 l2:LI):Prop where
 o0:Own B w v0 l0
 o1:Own B w v1 l1
 o2:Own B w v2 l2
 n01:∀b,v0.ownBlock=some b->v1.ownBlock≠some b
 n02:∀b,v0.ownBlock=some b->v2.ownBlock≠some b
 n12:∀b,v1.ownBlock=some b->v2.ownBlock≠some b
def CU.mk'{B1 B2:Nat}{w w1 w2:World}(a0:Own B w1 v0 l0)(a1:Own B1 w2 v1 l1)(o0:Own B w v0 l0)(o1:Own B1 w v1 l1)(o2:Own B2 w v2 l2)(h1:w1.heap.size<=B1)(h2:w2.heap.size<=B2)(hB:B<=B1)(jc:B1<=B2):CU B w v0 v1 v2 l0 l1 l2:=
 ⟨o0,o1.mono hB,o2.mono ae,fun b e0 e1=>by have:=a0.lt b e0;have:=o1.lt b e1;omega,fun b e0 e1=>by have:=a0.lt b e0;have:=o2.lt b e1;omega,fun b e0 e1=>by have:=a1.lt b e0;have:=o2.lt b e1;omega⟩
def QH{n0 n1 n2:Int}{w:World}(h0:Rd w (.S p0 l0.length c0) l0)(h1:Rd w (.S p1 l1.length c1) l1)(h2:Rd w (.S p2 l2.length c2) l2)(hl:l0.length+l1.length+l2.length<=1048576):Cp 6 #[gL (.S p0 l0.length c0) n0 (.S p1 l1.length c1) n1 (.S p2 l2.length c2) n2] w fun e w'=>
   ∃q0 d0 q1 d1 q2 d2,e=.returned (gL (.S q0 l0.length d0) n0 (.S q1 l1.length d1) n1 (.S q2 l2.length d2) n2)∧
    CU w.heap.size w' (.S q0 l0.length d0) (.S q1 l1.length d1) (.S q2 l2.length d2) l0 l1 l2/\Bw w w':=by
 have hR0:=fun(w':World)(hb:Bw w w')=>h0.below hb;have oQ:=fun(w':World)(hb:Bw w w')=>h1.below hb;have UE:=fun(w':World)(hb:Bw w w')=>h2.below hb;clear h0 h1 h2;go_enter func6,ntmps6;go_wp2_with fail;refine(vS (hR0 _ (by exact((ay.alloc ao _).alloc ai _).alloc bj _)) ae).mono ?_;rintro e w1⟨q0,d0,rfl,o0,aA⟩;obtain⟨iD,FE⟩:=pf aA;have z1:w.heap.size+1+1<w1.heap.size:=by have:=aA.size;simp at this;omega
 have z1':w.heap.size<w1.heap.size:=ae;have bS6:w.heap.size+1<w1.heap.size:=ae;have b1:Bw w w1:=((((ay.alloc ao _).alloc ai _).alloc bj _)).trans (aA.mono bj);replace o0:Own (w.heap.size+3) w1 (.S q0 l0.length d0) l0:=by simpa using o0
 clear aA;go_wp2_with fail;refine(vS (oQ _ (by exact(b1.setCell bj _).setCell bj _)) ae).mono ?_;rintro e w2⟨q1,d1,rfl,o1,aF⟩;obtain⟨js,Ld⟩:=pf aF;have z2:w1.heap.size<=w2.heap.size:=by have:=aF.size;simp at this;omega
 have b2:Bw w w2:=((b1.setCell bj _).setCell bj _).trans (aF.mono bj);have o0':Own (w.heap.size+3) w2 (.S q0 l0.length d0) l0:=Own.below ((o0.set ai _).set ai _) aF;replace o1:Own w1.heap.size w2 (.S q1 l1.length d1) l1:=by simpa using o1
 clear aF;go_wp2_with fail;refine(vS (UE _ (by exact(b2.setCell bj _).setCell bj _)) ae).mono ?_;rintro e w3⟨q2,d2,rfl,o2,bf⟩;obtain⟨Cb,xe⟩:=pf bf;have z3:w2.heap.size<=w3.heap.size:=by have:=bf.size;simp at this;omega
 have z2':w.heap.size+1+1<w2.heap.size:=ae;have bS5:w.heap.size+1<w2.heap.size:=ae;have b3:Bw w w3:=((b2.setCell bj _).setCell bj _).trans (bf.mono bj);have aN4:Own (w.heap.size+3) w3 (.S q0 l0.length d0) l0:=Own.below ((o0'.set ai _).set ai _) bf;have Vx:Own w1.heap.size w3 (.S q1 l1.length d1) l1:=Own.below ((o1.set bj _).set bj _) bf;replace o2:Own w2.heap.size w3 (.S q2 l2.length d2) l2:=by simpa using o2
 clear bf hR0 oQ UE;go_wp2;refine bodyPost_ret (v:=gL (.S q0 l0.length d0) n0 (.S q1 l1.length d1) n1 (.S q2 l2.length d2) n2) (by simp[results,results6,go_sem,iD,js,Cb,z1,z1',bS6,z2',bS5]) rfl ⟨q0,d0,q1,d1,q2,d2,rfl,?_,?_⟩;{
 refine CU.mk' (B:=w.heap.size) (B1:=w1.heap.size) (B2:=w2.heap.size) (o0.mono ae) o1 (Own.mono (B:=w.heap.size+3) ?_ ae) ?_ ?_ ao ao ae ae;{
 repeat(refine ownsRow_setCell_below ?_ ai _)
 exact aN4};{
 repeat(refine ownsRow_setCell_below ?_ bj _)
 exact Vx};{
 repeat(refine ownsRow_setCell_below ?_ bj _)
 exact o2}};{
 repeat(refine Below.setCell ?_ (by simp<;>omega) _)
 exact b3}
def Ly{w:World}(h1:Rd w v1 l)(h2:Rd w v2 l)(hl:l.length<=2097152):Cp 71 #[v1,v2] w fun e w'=>e=.returned (.bool true)/\Bw w w':=by
 refine(Cj h1 h2 hl hl).mono ?_;rintro e w'⟨rfl,hb⟩;exact⟨ai,hb⟩
def uE{p q:OA}{d:Nat}{n:Int}{w:World}(h:Rd w (.S p l.length c) l)(k:Rd w (.S q l.length d) l)(hl:l.length<=2097152):Cp 31 #[sV (.S p l.length c) n,sV (.S q l.length d) n] w fun e w'=>e=.returned (.bool true)/\Bw w w':=by
 have hR:=fun(w':World)(hb:Bw w w')=>h.below hb;have kR:=fun(w':World)(hb:Bw w w')=>k.below hb;have hn:(n != n)=false:=ai;go_enter func31,ntmps31;go_wp2_with fail;refine(Ly (hR _ (by exact(ay.alloc ao _).alloc ai _)) (kR _ (by exact(ay.alloc ao _).alloc ai _)) hl).mono ?_;rintro e w1⟨rfl,aA⟩;obtain⟨iD,FE⟩:=pf aA;have b1:Bw w w1:=(((ay.alloc ao _).alloc ai _)).trans (aA.mono bj);clear aA hR kR;go_wp2;go_ret;exact⟨rfl,b1⟩
def Pp{q0 q1 q2:OA}{d0 d1 d2:Nat}{n0 n1 n2:Int}{w:World}(h0:Rd w (.S p0 l0.length c0) l0)(h1:Rd w (.S p1 l1.length c1) l1)(h2:Rd w (.S p2 l2.length c2) l2)(k0:Rd w (.S q0 l0.length d0) l0)(k1:Rd w (.S q1 l1.length d1) l1)(k2:Rd w (.S q2 l2.length d2) l2)(m0:l0.length<=2097152)(m1:l1.length<=2097152)(m2:l2.length<=2097152):Cp 9 #[gL (.S p0 l0.length c0) n0 (.S p1 l1.length c1) n1 (.S p2 l2.length c2) n2,gL (.S q0 l0.length d0) n0 (.S q1 l1.length d1) n1 (.S q2 l2.length d2) n2] w fun e w'=>e=.returned (.bool true)/\Bw w w':=by
 have hR0:=fun(w':World)(hb:Bw w w')=>h0.below hb;have oQ:=fun(w':World)(hb:Bw w w')=>h1.below hb;have UE:=fun(w':World)(hb:Bw w w')=>h2.below hb;have kR0:=fun(w':World)(hb:Bw w w')=>k0.below hb;have kR1:=fun(w':World)(hb:Bw w w')=>k1.below hb;have kR2:=fun(w':World)(hb:Bw w w')=>k2.below hb;clear h0 h1 h2 k0 k1 k2;go_enter func9,ntmps9;go_wp2_with fail;refine(uE (hR0 _ (by exact(ay.alloc ao _).alloc ai _)) (kR0 _ (by exact(ay.alloc ao _).alloc ai _)) m0).mono ?_;rintro e w1⟨rfl,aA⟩;obtain⟨iD,FE⟩:=pf aA;have b1:Bw w w1:=(((ay.alloc ao _).alloc ai _)).trans (aA.mono bj);go_wp2_with fail;refine(uE (oQ _ b1) (kR1 _ b1) m1).mono ?_;rintro e w2⟨rfl,aF⟩;replace aF:=aj aA aF;clear iD FE aA;obtain⟨js,Ld⟩:=pf aF;have b2:Bw w w2:=(((ay.alloc ao _).alloc ai _)).trans (aF.mono bj);go_wp2_with fail;refine(uE (UE _ b2) (kR2 _ b2) m2).mono ?_;rintro e w3⟨rfl,bf⟩;replace bf:=aj aF bf;have b3:Bw w w3:=(((ay.alloc ao _).alloc ai _)).trans (bf.mono bj);clear js Ld aF hR0 oQ UE kR0 kR1 kR2;go_wp2;go_ret;exact⟨rfl,b3⟩
def xj(n:Nat)(s:Int):Bool:=decide (n<=200000)&&decide (0<=s)&&decide (s<=n)
def UM{n:Nat}(a:n<=200000)(b:0<=s)(c:s<=n):xj n s=true:=by simp[xj,a,b,c]
def AK{n:Nat}(a:¬(n<=200000/\0<=s/\s<=n)):xj n s=false:=by
 unfold xj;rw[Bool.and_eq_false_iff,Bool.and_eq_false_iff];simp only[decide_eq_false_iff_not];omega
def jh{n c:Nat}{w:World}(hn:n<=2097152):Cp 38 #[sV (.S p n c) s] w fun e w'=>e=.returned (.bool (xj n s))/\Bw w w':=by
 by_cases a:n<=200000;{by_cases b:0<=s;{by_cases c:s<=n;{rw[UM a b c];go_enter func38,ntmps38;go_wp2;go_ret;exact⟨rfl,ay.alloc ao _⟩};{rw[AK ae];go_enter func38,ntmps38;go_wp2;go_ret;exact⟨rfl,ay.alloc ao _⟩}};{rw[AK ae];go_enter func38,ntmps38;go_wp2;go_ret;exact⟨rfl,ay.alloc ao _⟩}};{rw[AK ae];go_enter func38,ntmps38;go_wp2;go_ret;exact⟨rfl,ay.alloc ao _⟩}
def Ju(n0:Nat)(s0:Int)(n1:Nat)(s1:Int)(n2:Nat)(s2:Int):Bool:=xj n0 s0&&xj n1 s1&&xj n2 s2
def Hb{w:World}(h0:n0<=2097152)(h1:n1<=2097152)(h2:n2<=2097152):Cp 14 #[gL (.S p0 n0 c0) s0 (.S p1 n1 c1) s1 (.S p2 n2 c2) s2] w fun e w'=>e=.returned (.bool (Ju n0 s0 n1 s1 n2 s2))/\Bw w w':=by
 cases e0:xj n0 s0;{rw[show Ju n0 s0 n1 s1 n2 s2=false by simp[Ju,e0]];have E0:Hid (xj n0 s0=false):=e0;clear e0;go_enter func14,ntmps14;go_wp2_with fail;refine(jh h0).mono ?_;rintro e w1⟨rfl,aA⟩;rw[E0.out];have b1:Bw w w1:=(ay.alloc ao _).trans (aA.mono ai);go_wp2;go_ret;exact⟨rfl,b1⟩};{have E0:Hid (xj n0 s0=true):=e0;cases e1:xj n1 s1;{rw[show Ju n0 s0 n1 s1 n2 s2=false by simp[Ju,e1]];have E1:Hid (xj n1 s1=false):=e1;clear e0 e1;go_enter func14,ntmps14;go_wp2_with fail;refine(jh h0).mono ?_;rintro e w1⟨rfl,aA⟩;rw[E0.out];obtain⟨iD,FE⟩:=pf aA;go_wp2_with fail;refine(jh h1).mono ?_;rintro e w2⟨rfl,aF⟩;rw[E1.out];replace aF:=aj aA aF;have b2:Bw w w2:=(ay.alloc ao _).trans (aF.mono ai);clear iD FE;go_wp2;go_ret;exact⟨rfl,b2⟩};{rw[show Ju n0 s0 n1 s1 n2 s2=xj n2 s2 by simp[Ju,e0,e1]];have E1:Hid (xj n1 s1=true):=e1;clear e0 e1;go_enter func14,ntmps14;go_wp2_with fail;refine(jh h0).mono ?_;rintro e w1⟨rfl,aA⟩;rw[E0.out];obtain⟨iD,FE⟩:=pf aA;go_wp2_with fail;refine(jh h1).mono ?_;rintro e w2⟨rfl,aF⟩;rw[E1.out];replace aF:=aj aA aF;clear iD FE;obtain⟨js,Ld⟩:=pf aF;go_wp2_with fail;refine(jh h2).mono ?_;rintro e w3⟨rfl,bf⟩;replace bf:=aj aF bf;have b3:Bw w w3:=(ay.alloc ao _).trans (bf.mono ai);clear js Ld;go_wp2;go_ret;exact⟨rfl,b3⟩}}
def Pm(e0:v0=.S p0 n0 c0)(e1:v1=.S p1 n1 c1)(e2:v2=.S p2 n2 c2){w:World}:Cp 56 #[gL v0 s0 v1 s1 v2 s2] w fun e w'=>e=.returned (gL v0 s0 v1 s1 v2 s2)/\Bw w w':=by
 subst e0 e1 e2;go_enter func56,ntmps56;go_wp2;refine bodyPost_ret (v:=gL (.S p0 n0 c0) s0 (.S p1 n1 c1) s1 (.S p2 n2 c2) s2) (by simp[results,results56,go_sem]) rfl ⟨rfl,?_⟩
 repeat(refine Below.setCell ?_ ai _)
 exact(ay.alloc ao _).alloc ai _
def iF{n c:Nat}{w:World}(hn:n<=2097152):Cp 97 #[sV (.S p n c) s] w fun e w'=>e=.returned (.bool (xj n s))/\Bw w w':=by
 by_cases a:n<=200000;{by_cases b:0<=s;{by_cases c:s<=n;{rw[UM a b c];go_enter func97,ntmps97;go_wp2;go_ret;exact⟨rfl,ay.alloc ao _⟩};{rw[AK ae];go_enter func97,ntmps97;go_wp2;go_ret;exact⟨rfl,ay.alloc ao _⟩}};{rw[AK ae];go_enter func97,ntmps97;go_wp2;go_ret;exact⟨rfl,ay.alloc ao _⟩}};{rw[AK ae];go_enter func97,ntmps97;go_wp2;go_ret;exact⟨rfl,ay.alloc ao _⟩}
def ax8(h:xj n0 s0=false):Ju n0 s0 n1 s1 n2 s2=false:=by simp[Ju,h]
def ax7(h:xj n1 s1=false):Ju n0 s0 n1 s1 n2 s2=false:=by simp[Ju,h]
def ax6(h:xj n2 s2=false):Ju n0 s0 n1 s1 n2 s2=false:=by simp[Ju,h]
def ax5(a:xj n0 s0=true)(b:xj n1 s1=true)(c:xj n2 s2=true):Ju n0 s0 n1 s1 n2 s2=true:=by simp[Ju,a,b,c]
def Gc{w:World}(h0:n0<=2097152)(h1:n1<=2097152)(h2:n2<=2097152):Cp 57 #[gL (.S p0 n0 c0) s0 (.S p1 n1 c1) s1 (.S p2 n2 c2) s2] w fun e w'=>e=.returned (.bool (Ju n0 s0 n1 s1 n2 s2))/\Bw w w':=by
 have i0:∀w:World,(Instr.index 103 (gL (.S p0 n0 c0) s0 (.S p1 n1 c1) s1 (.S p2 n2 c2) s2) (.I 0)).run prog w=.ok (sV (.S p0 n0 c0) s0) w:=fun _=>bg;have i1:∀w:World,(Instr.index 103 (gL (.S p0 n0 c0) s0 (.S p1 n1 c1) s1 (.S p2 n2 c2) s2) (.I 1)).run prog w=.ok (sV (.S p1 n1 c1) s1) w:=fun _=>bg;have i2:∀w:World,(Instr.index 103 (gL (.S p0 n0 c0) s0 (.S p1 n1 c1) s1 (.S p2 n2 c2) s2) (.I 2)).run prog w=.ok (sV (.S p2 n2 c2) s2) w:=fun _=>bg;go_enter func57,ntmps57;go_wp2
 go_loopw[6](fun i wr=>Bw w wr/\(i=.I 0\/(i=.I 1/\xj n0 s0=true)\/(i=.I 2/\xj n0 s0=true/\xj n1 s1=true)\/(i=.I 3/\xj n0 s0=true/\xj n1 s1=true/\xj n2 s2=true))) (fun i _=>3-(intOf i).toNat)
 exact⟨ay.alloc ao _,.inl rfl⟩;{
 obtain⟨aG,rfl|⟨rfl,f0⟩|⟨rfl,f0,f1⟩|⟨rfl,f0,f1,f2⟩⟩:=hrel;{
 skip
 cases e0:xj n0 s0;{have E:=af (ax8 (n0:=n0) (n1:=n1) (n2:=n2) (s0:=s0) (s1:=s1) (s2:=s2) e0);have E':=af e0;clear e0;go_wp2_with fail;refine(iF h0).mono ?_;rintro e w1⟨rfl,aA⟩;rw[aa E'];have b1:Bw w w1:=(aG.alloc aG.size _).trans (aA.mono (by have:=aG.size;simp;omega));clear aA;go_wp2;go_ret;exact⟨by rw[aa E];rfl,b1⟩};{
 have E':=af e0;clear e0;go_wp2_with fail;refine(iF h0).mono ?_;rintro e w1⟨rfl,aA⟩;rw[aa E'];have b1:Bw w w1:=(aG.alloc aG.size _).trans (aA.mono (by have:=aG.size;simp;omega));clear aA;go_wp2;go_roundw;exact⟨b1,.inr (.inl ⟨rfl,by trivial⟩)⟩
 case measure=>simp[intOf]}}
 {
 have F0:=af f0;clear f0;cases e1:xj n1 s1;{have E:=af (ax7 (n0:=n0) (n1:=n1) (n2:=n2) (s0:=s0) (s1:=s1) (s2:=s2) e1);have E':=af e1;clear e1;go_wp2_with fail;refine(iF h1).mono ?_;rintro e w1⟨rfl,aA⟩;rw[aa E'];have b1:Bw w w1:=(aG.alloc aG.size _).trans (aA.mono (by have:=aG.size;simp;omega));clear aA;go_wp2;go_ret;exact⟨by rw[aa E];rfl,b1⟩};{
 have E':=af e1;clear e1;go_wp2_with fail;refine(iF h1).mono ?_;rintro e w1⟨rfl,aA⟩;rw[aa E'];have b1:Bw w w1:=(aG.alloc aG.size _).trans (aA.mono (by have:=aG.size;simp;omega));clear aA;go_wp2;go_roundw;exact⟨b1,.inr (.inr (.inl ⟨rfl,F0,by trivial⟩))⟩
 case measure=>simp[intOf]}}
 {
 have F0:=af f0;have F1:=af f1;clear f0 f1;cases e2:xj n2 s2;{have E:=af (ax6 (n0:=n0) (n1:=n1) (n2:=n2) (s0:=s0) (s1:=s1) (s2:=s2) e2);have E':=af e2;clear e2;go_wp2_with fail;refine(iF h2).mono ?_;rintro e w1⟨rfl,aA⟩;rw[aa E'];have b1:Bw w w1:=(aG.alloc aG.size _).trans (aA.mono (by have:=aG.size;simp;omega));clear aA;go_wp2;go_ret;exact⟨by rw[aa E];rfl,b1⟩};{
 have E':=af e2;clear e2;go_wp2_with fail;refine(iF h2).mono ?_;rintro e w1⟨rfl,aA⟩;rw[aa E'];have b1:Bw w w1:=(aG.alloc aG.size _).trans (aA.mono (by have:=aG.size;simp;omega));clear aA;go_wp2;go_roundw;exact⟨b1,.inr (.inr (.inr ⟨rfl,F0,F1,by trivial⟩))⟩
 case measure=>simp[intOf]}}
 {have E:=af (ax5 f0 f1 f2);clear f0 f1 f2;go_wp2;go_ret;exact⟨by rw[aa E];rfl,aG⟩}}
def Hq{w:World}(h0:n0<=2097152)(h1:n1<=2097152)(h2:n2<=2097152):Cp 22 #[gL (.S p0 n0 c0) s0 (.S p1 n1 c1) s1 (.S p2 n2 c2) s2] w fun e w'=>e=.returned (.bool (Ju n0 s0 n1 s1 n2 s2))/\Bw w w':=by
 go_enter func22,ntmps22;go_wp2_with fail;refine(Pm (p0:=p0) (p1:=p1) (p2:=p2) (n0:=n0) (c0:=c0) (n1:=n1) (c1:=c1) (n2:=n2) (c2:=c2) rfl rfl rfl).mono ?_;rintro e w1⟨rfl,aA⟩;have b1:Bw w w1:=(ay.alloc ao _).trans (aA.mono ai);clear aA;go_wp2_with fail;refine(Gc h0 h1 h2).mono ?_;rintro e w2⟨rfl,aF⟩;have b2:=aj b1 aF;go_wp2;go_ret;exact⟨rfl,b2⟩
def CU.below{w w':World}(h:CU B w v0 v1 v2 l0 l1 l2)(hb:Bw w w'):CU B w' v0 v1 v2 l0 l1 l2:=
 ⟨Own.below h.o0 hb,Own.below h.o1 hb,Own.below h.o2 hb,h.n01,h.n02,h.n12⟩
def si{k:Int}{w:World}(h:Own B w (.S p l.length c) l)(hl:l.length<=1048576)(k0:0<=k)(k1:k<=100000000):Cp 32 #[sV (.S p l.length c) s,.I k] w fun e w'=>e=.returned (.I (k+l.length))/\Own B w' (.S p l.length c) (marks k l.length)/\Kept [.S p l.length c] w w':=by
 have hR:=fun(w':World)(hb:Bw w w')=>Own.below h hb;clear h;go_enter func32,ntmps32;go_wp2_with fail;refine(Hi (hR _ (by exact ay.alloc ao _)) ae k0 k1).mono ?_;rintro e w1⟨rfl,ho,hg⟩;have hk:Kept [.S p l.length c] w w1:=(Kept.dL (ay.alloc ao _)).trans (Kept.En hg ai);clear hR hg;go_wp2;go_ret;exact⟨rfl,ho,hk⟩
def Kn{k:Int}{w:World}(h:CU B w (.S p0 l0.length c0) (.S p1 l1.length c1) (.S p2 l2.length c2) l0 l1 l2)(m0:l0.length<=1048576)(m1:l1.length<=1048576)(m2:l2.length<=1048576)(k0:0<=k)(k1:k<=90000000):Cp 10 #[gL (.S p0 l0.length c0) s0 (.S p1 l1.length c1) s1 (.S p2 l2.length c2) s2,.I k] w fun e w'=>e=.returned (.I (k+l0.length+l1.length+l2.length))∧
   CU B w' (.S p0 l0.length c0) (.S p1 l1.length c1) (.S p2 l2.length c2) (marks k l0.length) (marks (k+l0.length) l1.length) (marks (k+l0.length+l1.length) l2.length)∧
   Kept [.S p0 l0.length c0,.S p1 l1.length c1,.S p2 l2.length c2] w w':=by
 have b0:∀o:Obj,Bw w (w.alloc o):=fun o=>ay.alloc ao _;have hR:=fun(w':World)(hb:Bw w w')=>CU.below h hb;have t0:=h.o0.lt;have t1:=h.o1.lt;have t2:=h.o2.lt;have N:=h;clear h;go_enter func10,ntmps10;go_wp2_with fail;have h1:=hR _ (b0 (.cells #[.S p0 l0.length c0,.I s0,.S p1 l1.length c1,.I s1,.S p2 l2.length c2,.I s2] 37));refine(si h1.o0 m0 k0 ae).mono ?_;rintro e w1⟨rfl,o0,g1⟩;have iD:=g1.cellAt (b:=w.heap.size) ai (by intro v hv e;simp only[List.mem_singleton]at hv;subst hv;have:=t0 _ e;omega);have o1:=Own.sA h1.o1 g1 (by intro u hu b e;simp only[List.mem_singleton]at hu;subst hu;intro e';exact N.n01 b e' e);have o2:=Own.sA h1.o2 g1 (by intro u hu b e;simp only[List.mem_singleton]at hu;subst hu;intro e';exact N.n02 b e' e);have z1:w.heap.size<w1.heap.size:=by have:=g1.size;simp at this;omega
 go_wp2_with fail;refine(si o1 m1 ae ae).mono ?_;rintro e w2⟨rfl,Vx,g2⟩;have js:=g2.cellAt (b:=w.heap.size) z1 (by intro v hv e;simp only[List.mem_singleton]at hv;subst hv;have:=t1 _ e;omega);have o0':=Own.sA (l:=marks k l0.length) o0 g2 (by intro u hu b e;simp only[List.mem_singleton]at hu;subst hu;intro e';exact N.n01 b e e');have o2':=Own.sA o2 g2 (by intro u hu b e;simp only[List.mem_singleton]at hu;subst hu;intro e';exact N.n12 b e' e);have z2:w.heap.size<w2.heap.size:=by have:=g2.size;omega
 go_wp2_with fail;refine(si o2' m2 ae ae).mono ?_;rintro e w3⟨rfl,bW9,g3⟩;have aN4:=Own.sA (l:=marks k l0.length) o0' g3 (by intro u hu b e;simp only[List.mem_singleton]at hu;subst hu;intro e';exact N.n02 b e e');have bX0:=Own.sA (l:=marks (k+l0.length) l1.length) Vx g3 (by intro u hu b e;simp only[List.mem_singleton]at hu;subst hu;intro e';exact N.n12 b e e');have hk:Kept [.S p0 l0.length c0,.S p1 l1.length c1,.S p2 l2.length c2] w w3:=
  ((Kept.dL (b0 _)).trans (g1.more ai)).trans ((g2.more ai).trans (g3.more ai))
 clear hR h1 o0 o1 o2 o0' Vx o2' g1 g2 g3 iD js;go_wp2;go_ret;exact⟨rfl,⟨aN4,bX0,bW9,N.n01,N.n02,N.n12⟩,hk⟩
def lI{α:Type}(f:α->α)(k:Nat)(xs:List α):List α:=(xs.take k).map f++xs.drop k
def Cg{α:Type}(f:α->α)(xs:List α):lI f 0 xs=xs:=by simp[lI]
def Gb{α:Type}(f:α->α){xs:List α}(h:xs.length<=k):lI f k xs=xs.map f:=by
 rw[lI,kq h,Oc h,CE]
def rR{α:Type}(f:α->α){xs:List α}{x:α}(h:xs[k]?=some x):(lI f k xs)[k]?=some x:=by
 have hl:=(aT.1 h).1;rw[lI,mE bj,Kt,fe,pK,show k+(k-min k xs.length)=k by omega];exact h
def Ch{α:Type}(f:α->α){xs:List α}{x:α}(h:xs[k]?=some x):(lI f k xs).set k (f x)=lI f (k+1) xs:=by
 have hl:=(aT.1 h).1;have hx:=(aT.1 h).2;rw[lI,lI,N8 _ _ bj,fe,pK,show k-min k xs.length=0 by omega,Rm hl,Ff,ng,h];simp
def own:ownKnob Tryz.prog.godebug=none:=by kernel_rfl
def laidOut:laidOutB Tryz.prog=true:=by kernel_rfl
def Pe{H:Type}{enc:TypeId×Value->H}{a:Assume}{C:Checked}{os:Os}{f:FuncId}{fn:Func}{s:ChangeSpec}{conds:List PathCond}{apart fresh handsOn again:Bool}{X:World->Array Value->Prop}(hX:∀(w w':World)(args:Array Value),w.heap=w'.heap->X w args->X w' args)(own:ownKnob C.prog.godebug=none)(started:os.Started)(aN6:C.prog.inits.idxOf? f=none)(hfn:C.prog.funcs[f]?=some fn)(witness:∃(w:World)(tape:Tape)(i:Input),w.os=os/\(w.forCall tape i).Shaped C.prog/\i.vars=[]/\Input.okWide C.prog (w.forCall tape i) .any w.heap.size f i∧
   ((s.pre enc C.prog fn conds apart (w.forCall tape i).memory i.args/\X (w.forCall tape i).memory i.args)/\sizedMet enc C.prog fn (OpenSpec.ofChange s) apart (w.forCall tape i).memory i.args)/\a.holds C.prog (lone (Frame.enter C.prog f i.args .normal) [] (w.forCall tape i)))(ag0:∀(W:World)(base:Nat)(args:Array Value)(ds gs:List (DataW H))(before:List MemPlace),
   (∀(j:Nat)t v,fn.params[j]?=some t->args[j]?=some v->Value.okWide C.prog W .any base t v)→
   DataW.Whole enc C.prog fn.params.toList s.vars apart W args.toList ds gs before→
   X W args->W.ShapedOpen C.prog→
   Calls C.prog f args W fun e W'=>∃v,e=.returned v/\s.post enc C.prog fn apart fresh handsOn again W args v W'):ReturnsInHanded a C os f .any (fun w args=>(s.pre enc C.prog fn conds apart w args/\X w args)/\sizedMet enc C.prog fn (OpenSpec.ofChange s) apart w args) (s.post enc C.prog fn apart fresh handsOn again):=by
 refine returnsInHanded_of_calls own started aN6 witness ?_;intro w tape i _ hsh _ iC lE cf1;obtain⟨_,_,_,fn',cf6,_,_,_,_,Hu⟩:=iC;have e:fn'=fn:=Cz (cf6.symm.trans hfn);subst e;obtain⟨⟨⟨ds,gs,before,hw,hc⟩,hx⟩,hz⟩:=lE;refine(ag0 (w.forCall tape i) w.heap.size i.args ds gs before Hu (DataW.Whole.of_heap (w':=w.forCall tape i) aH hw) (hX _ _ _ aH hx) hsh).mono fun e W'⟨v,he,hp⟩=>?_;subst he;exact ChangeSpec.post_blind hp
def Nw{w:World}(h:w.ShapedOpen Tryz.prog):∃m,w.cell? ⟨1,0,none⟩=some (.I m):=
 cell_of_shapedOpen_int (t:=3) (zero:=#[.I 0]) h (NF bg) bg rfl bg bg Tryz.underlying3
def Gq:Tryz.prog.cellsOf 218=7:=by kernel_rfl
def PC:Tryz.prog.cellsOf 22=1:=by kernel_rfl
def Jv:Tryz.prog.cellsOf 3=1:=by kernel_rfl
def S8:Tryz.prog.cellsOf 4=1:=by kernel_rfl
theorem JI{H:Type}{enc:TypeId×Value->H}{P:Program}{w:World}{spare:Nat->Bool}{held:Bool}{t:TypeId}{f0 f1 f2 f3 f4 f5 f6:Field}{fuel:Nat}{x:DataW H×List MemPlace}(ht:P.underlying t=some (.struct #[f0,f1,f2,f3,f4,f5,f6]))(h:DataW.trod enc P w base spare held fuel t cs=some x):∃y0 y1 y2 y3 y4 y5 y6 n,x.1=.agg [y0.1,y1.1,y2.1,y3.1,y4.1,y5.1,y6.1]/\cs.length=P.cellsOf t∧
   DataW.trod enc P w base spare held n f0.type ((cs.drop f0.offset).take (P.cellsOf f0.type))=some y0/\DataW.trod enc P w base spare held n f1.type ((cs.drop f1.offset).take (P.cellsOf f1.type))=some y1∧
   DataW.trod enc P w base spare held n f2.type ((cs.drop f2.offset).take (P.cellsOf f2.type))=some y2/\DataW.trod enc P w base spare held n f3.type ((cs.drop f3.offset).take (P.cellsOf f3.type))=some y3∧
   DataW.trod enc P w base spare held n f4.type ((cs.drop f4.offset).take (P.cellsOf f4.type))=some y4/\DataW.trod enc P w base spare held n f5.type ((cs.drop f5.offset).take (P.cellsOf f5.type))=some y5∧
   DataW.trod enc P w base spare held n f6.type ((cs.drop f6.offset).take (P.cellsOf f6.type))=some y6:=by
 obtain⟨xs,n,_,rfl,hl,hlen,hf⟩:=DataW.trod_struct ht h
 match xs,hlen with
 |[y0,y1,y2,y3,y4,y5,y6],_=>exact⟨y0,y1,y2,y3,y4,y5,y6,n,rfl,hl,by simpa using hf 0 f0 rfl,by simpa using hf 1 f1 rfl,by simpa using hf 2 f2 rfl,by simpa using hf 3 f3 rfl,by simpa using hf 4 f4 rfl,by simpa using hf 5 f5 rfl,by simpa using hf 6 f6 rfl⟩
theorem Lq{w:World}{n:Nat}{x:DataW Unit×List MemPlace}{se pa sq jo:Bool}{lo hi vs:Int}(h:DataW.trod (fun _=>()) Tryz.prog w 0 (fun _=>true) false n 218 cs=some x)(hx:x.1=.agg [.lit (.bool se),.lit (.bool pa),.lit (.I lo),.lit (.I hi),.lit (.I vs),.lit (.bool sq),.lit (.bool jo)]):cs=[.bool se,.bool pa,.I lo,.I hi,.I vs,.bool sq,.bool jo]:=by
 obtain⟨y0,y1,y2,y3,y4,y5,y6,m,e,hl,h0,h1,h2,h3,h4,h5,h6⟩:=JI Tryz.underlying218 h;rw[Gq]at hl;obtain⟨x0,x1,x2,x3,x4,x5,x6,rfl⟩:∃x0 x1 x2 x3 x4 x5 x6,cs=[x0,x1,x2,x3,x4,x5,x6]:=by
  match cs,hl with
  |[a,b,c,d,e,f,g],_=>exact⟨a,b,c,d,e,f,g,rfl⟩
 simp[S8,Jv]at h0 h1 h2 h3 h4 h5 h6;obtain⟨b0,e0,f0⟩:=DataW.trod_bool Tryz.underlying4 h0;obtain⟨b1,e1,f1⟩:=DataW.trod_bool Tryz.underlying4 h1;obtain⟨b2,e2,f2,_⟩:=DataW.trod_int Tryz.underlying3 h2;obtain⟨b3,e3,f3,_⟩:=DataW.trod_int Tryz.underlying3 h3;obtain⟨b4,e4,f4,_⟩:=DataW.trod_int Tryz.underlying3 h4;obtain⟨b5,e5,f5⟩:=DataW.trod_bool Tryz.underlying4 h5;obtain⟨b6,e6,f6⟩:=DataW.trod_bool Tryz.underlying4 h6;rw[e,f0,f1,f2,f3,f4,f5,f6]at hx;simp at hx e0 e1 e2 e3 e4 e5 e6;obtain⟨rfl,rfl,rfl,rfl,rfl,rfl,rfl⟩:=hx;subst e0 e1 e2 e3 e4 e5 e6
 rfl
end Go.Proofs.YtjjnidignljppaaGreatDoor
