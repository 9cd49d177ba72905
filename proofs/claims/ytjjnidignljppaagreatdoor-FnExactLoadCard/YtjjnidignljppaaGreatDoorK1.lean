import Derived.Test.YtjjnidignljppaaGreatDoorK0
import Derived.Lib.SlSplitV
import Derived.Lib.IndexBytes
import Derived.Lib.CountLaws
import Derived.Lib.Bytes
namespace Go.Proofs.YtjjnidignljppaaGreatDoor
set_option linter.all false
open Go.ChangeShapes Go.WideShapes Go.ChangeAt Go.RowKit
variable {B k:Nat}{E:Prop}{K:Act->World->Prop}{P:Program}{R:Ending->World->Prop}{Vf:Array TypeId}{a:Act}{c:Int}{f:FuncId}{l nm t:LI}{o:Oper}{ops:Array Oper}{p:OA}{s:List UInt8}{v1 v2:Value}{x1:Operand}
def aM(l:LI):Prop:=∀z∈l,0<=z/\z<256
def dP{α:Type}[DecidableEq α](c:α):List α->List (List α)
 |[]=>[[]]
 |x::l=>if x=c then[]::dP c l else(match dP c l with|[]=>[[x]]|n::ns=>(x::n)::ns)
theorem UN{α:Type}[DecidableEq α]{c:α}{s:List α}(h:c∉s):dP c s=[s]:=by
 induction s with
 |nil=>rfl
 |cons x l ih=>
  have hx:¬x=c:=fun e=>h (by simp[e]);rw[dP,bH hx,ih (fun h'=>h (by simp[h']))]
theorem Pu{α:Type}[DecidableEq α]{c:α}{s t:List α}(h:c∉s):dP c (s++c::t)=s::dP c t:=by
 induction s with
 |nil=>simp[dP]
 |cons x l ih=>
  have hx:¬x=c:=fun e=>h (by simp[e]);rw[Kw,dP,bH hx,ih (fun h'=>h (by simp[h']))]
theorem af6{α:Type}[DecidableEq α]{c x:α}(t:List α)(hx:¬x=c)(s:List α)(h:c∉s):∃n ns,dP c (s++x::t)=(s++x::n)::ns:=by
 induction s with
 |nil=>
  rw[Kv,dP,bH hx];cases dP c t with
  |nil=>exact⟨[],[],rfl⟩
  |cons n ns=>exact⟨n,ns,rfl⟩
 |cons y l ih=>
  have hy:¬y=c:=fun e=>h (by simp[e]);obtain⟨n,ns,e⟩:=ih (fun h'=>h (by simp[h']));exact⟨n,ns,by rw[Kw,dP,bH hy,e];rfl⟩
theorem af3{α:Type}[DecidableEq α](c:α){s:List α}:1<=(dP c s).length:=by
 cases s with
 |nil=>simp[dP]
 |cons x l=>
  rw[dP];split;{simp};{split<;>simp}
theorem af4{α β:Type}[DecidableEq α][DecidableEq β](f:α->β)(c:α)(s:List α)(h:∀x∈s,f x=f c->x=c):dP (f c) (s.map f)=(dP c s).map (List.map f):=by
 induction s with
 |nil=>rfl
 |cons x l ih=>
  have ih:=ih fun y hy=>h y (by simp[hy]);rw[iH,dP,dP,ih];by_cases hx:x=c;{rw[bN (by rw[hx]),bN hx];rfl};{rw[bH (fun e=>hx (h x ai e)),bH hx];cases dP c l<;>rfl}
theorem KM{c:UInt8}(h:c∉s):Lib.indexByte s c=-1:=by
 induction s with
 |nil=>rfl
 |cons x l ih=>
  have hx:¬x=c:=fun e=>h (by simp[e]);unfold Lib.indexByte;rw[ih (fun h'=>h (by simp[h']))];simp[hx]
theorem Hp{t:List UInt8}{c:UInt8}(h:c∉s):Lib.indexByte (s++c::t) c=s.length:=by
 induction s with
 |nil=>simp[Lib.indexByte]
 |cons x l ih=>
  have hx:¬x=c:=fun e=>h (by simp[e]);have e:=ih (fun h'=>h (by simp[h']));rw[Kw];unfold Lib.indexByte;rw[e];have h1:¬((l.length:Int)==-1)=true:=ai;rw[bH (by simpa using hx),bH h1];simp
theorem Vj(c:UInt8):∀(n:Nat)(s:List UInt8),s.length<n->Lib.splitK [c] 0 (Lib.count s [c]) s=dP c s/\Lib.count s [c]+1=(dP c s).length:=by
 intro n
 induction n with
 |zero=>intro s h;omega
 |succ n ih=>
  intro s h;by_cases hc:c∈s;{
 obtain⟨pre,t,rfl,hp⟩:=List.eq_append_cons_of_mem hc;have hi:Lib.index (pre++c::t) [c]=(pre.length:Nat):=by rw[Lib.index_one,Hp hp]
 have hd:(pre++c::t).drop (pre.length+1)=t:=by rw[List.drop_append];simp
 obtain⟨e1,e2⟩:=ih t (by simp at h;omega);rw[Lib.count_hit ai hi,Pu hp];simp only[iU,yr,lu,hd];constructor;{rw[Zg 1,Lib.splitK,bH (by rw[hi];simp),hi];simp only[uk,iU,yr,lu,Fe,hd,e1];simp};{omega}};{
 have hi:Lib.index s [c]=-1:=by rw[Lib.index_one,KM hc]
 rw[Lib.count_miss hi,UN hc];exact⟨rfl,rfl⟩}
def tJ(c:Int):Bool:=(decide (97<=c)&&decide (c<=122))||(decide (48<=c)&&decide (c<=57))||c==45||c==95
def kn(l:LI):Bool:=decide (1<=l.length)&&decide (l.length<=16)&&l.all tJ
def st(k:Nat):LI->Bool
 |[]=>decide (1<=k)&&decide (k<=8)
 |c::t=>c==47&&(decide (k+(dP 47 t).length<=8)&&(dP 47 t).all kn)
def vp(p:LI):Bool:=st 0 p
def YJ(h:tJ c=true):¬c=47:=by
 intro e;subst e
 revert h
 decide
def Ex(h:∀x∈l,tJ x=true):(47:Int)∉l:=fun hm=>YJ (h _ hm) rfl
def aL8(h:∀x∈nm,tJ x=true):st k (47::nm)=(kn nm&&st (k+1) []):=by
 rw[st,st,UN (Ex h)];by_cases hk:k+1<=8;{simp[hk]};{simp[hk]}
def an6(h:∀x∈nm,tJ x=true):st k (47::(nm++47::t))=(kn nm&&st (k+1) (47::t)):=by
 rw[st,st,Pu (Ex h)];have e:k+(nm::dP 47 t).length=k+1+(dP 47 t).length:=by simp;omega
 rw[e];rw[Zf];cases kn nm<;>cases decide (k+1+(dP 47 t).length<=8)<;>cases(dP 47 t).all kn<;>rfl
def aL9(h:∀x∈nm,tJ x=true)(hc:¬c=47)(hb:tJ c=false):st k (47::(nm++c::t))=false:=by
 obtain⟨n,ns,e⟩:=af6 t hc nm (Ex h);rw[st,e];have h0:kn (nm++c::n)=false:=by rw[kn,List.all_append,Zf,hb];simp
 rw[Zf,h0];simp
def MO(hc:¬c=47):st k (c::t)=false:=by
 rw[st];simp[hc]
theorem Cn:∀{a b:LI},aM a->aM b->Lib.bytesOf a=Lib.bytesOf b->a=b
 |[],[],_,_,_=>rfl
 |[],y::b,_,_,h=>by simp[Lib.bytesOf]at h
 |x::a,[],_,_,h=>by simp[Lib.bytesOf]at h
 |x::a,y::b,ha,hb,h=>by
  simp only[Lib.bytesOf,iH,List.cons.injEq]at h;have h1:=ha x ai;have h2:=hb y ai;have e:x=y:=by have:=wF UInt8.toNat h.1;simp at this;omega
  rw[e,Cn (fun z hz=>ha z (by simp[hz])) (fun z hz=>hb z (by simp[hz])) h.2]
def DY(hB:aM t):Lib.splitK (Lib.bytesOf [47]) 0 (Lib.count (Lib.bytesOf t) (Lib.bytesOf [47])) (Lib.bytesOf t)=(dP 47 t).map Lib.bytesOf/\Lib.count (Lib.bytesOf t) (Lib.bytesOf [47])+1=(dP 47 t).length:=by
 have e47:Lib.bytesOf [47]=[UInt8.ofNat (47:Int).toNat]:=rfl;obtain⟨e1,e2⟩:=Vj (UInt8.ofNat (47:Int).toNat) _ (Lib.bytesOf t) (Nat.lt_succ_self _);have em:dP (UInt8.ofNat (47:Int).toNat) (Lib.bytesOf t)=(dP 47 t).map Lib.bytesOf:=by refine af4 (fun n:Int=>UInt8.ofNat n.toNat) 47 t fun x hx e=>?_;have h1:=hB x hx;have:=wF UInt8.toNat e;simp at this;omega
 rw[e47,e1,em];refine⟨rfl,?_⟩;rw[e2,em,fe]
theorem ay1(hB:aM t):∀n∈dP 47 t,aM n:=by
 induction t with
 |nil=>intro n hn;simp[dP]at hn;subst hn;intro z hz;simp at hz
 |cons x l ih=>
  have ih:=ih fun z hz=>hB z (by simp[hz]);intro n hn;rw[dP]at hn;split at hn;{rcases jA.1 hn with rfl|hn;{intro z hz;simp at hz};{exact ih n hn}};{
 cases hc:dP 47 l with
 |nil=>
  rw[hc]at hn;simp at hn;subst hn;intro z hz;simp at hz;subst hz;exact hB _ ai
 |cons m ms=>
  rw[hc]at hn ih;rcases jA.1 hn with rfl|hn;{intro z hz;rcases jA.1 hz with rfl|hz;{exact hB _ ai};{exact ih m ai z hz}};{exact ih n (by simp[hn])}}
def Btw(lo hi:Nat)(v:Value):Prop:=∀b,v.ownBlock=some b->lo<=b/\b<hi
def Own.btw{w:World}{v:Value}(h:Own B w v l):Btw B w.heap.size v:=h.lt
abbrev QA(w:World)(b:Nat)(v0 v1:Value):Prop:=w.cell? ⟨b,0,none⟩=some v0/\w.cell? ⟨b,1,none⟩=some v1
def QA.below{w w':World}{b:Nat}{v0:Value}(h:QA w b v0 v1)(hb:Bw w w'):QA w' b v0 v1:=⟨ag h.1 hb,ag h.2 hb⟩
def Own.cap{w:World}{c n:Nat}(h:Own B w (.S p n c) l):n<=c:=by
 rcases h.2 with⟨e,h0⟩|⟨g,cap,cur,e,_,_,hc,_⟩;{simp only[dU]at e;omega};{simp only[dU]at e;omega}
def Own.oW{w:World}{c n:Nat}(h:Own B w (.S p n c) l):c<=maxLen:=by
 rcases h.2 with⟨e,h0⟩|⟨g,cap,cur,e,_,_,hc,hm,_⟩;{simp only[dU]at e;omega};{simp only[dU]at e;omega}
def AM{p q:OA}{c d n:Nat}(en:Hid (l.length=n)){w:World}(h1:Rd w (.S p n c) l)(h2:Rd w (.S q n d) l)(hl:n<=2097152):Calls Tryz.prog 71 #[.S p n c,.S q n d] w fun e w'=>e=.returned (.bool true)/\Bw w w':=by
 have e:=aa en;subst e;refine(Cj h1 h2 hl hl).mono ?_;rintro e w'⟨rfl,hb⟩;exact⟨ai,hb⟩
def iq{w:World}{Q:Exit->Act->World->Prop}(mr:o.guard=none) (ho:o.op=.call {callee:=.value (.func f),args:=#[x1],argTypes:=Vf})(h1:a.eval x1=v1)(xB:∀vs,(callFunc f vs).run P w=.ok (.enter f vs) w)(hc:Calls P f #[v1] w R)(hR:∀e w',R e w'->∃v,e=.returned v/\K (a.put o.dst v) w'):if Region.wanted o (yielded ops a.tmps)=true then Oper.wp P o a w K Q else E:=by
 have hw:Region.wanted o (yielded ops a.tmps)=true:=by simp[Region.wanted,mr]
 rw[bN hw];have dI:(execOp a.eval o).run P w=.ok (.enter f #[v1]) w:=by subst h1;unfold execOp;simp[go_sem,ho,resolve,invoke,xB]
 show o.upon P a K Q _;rw[dI,Oper.upon_enter];refine hc.mono ?_;intro e w' h;obtain⟨v,rfl,hk⟩:=hR e w' h;exact hk
def jI{w:World}{Q:Exit->Act->World->Prop}(mr:o.guard=none){x2:Operand} (ho:o.op=.call {callee:=.value (.func f),args:=#[x1,x2],argTypes:=Vf})(h1:a.eval x1=v1)(h2:a.eval x2=v2)(xB:∀vs,(callFunc f vs).run P w=.ok (.enter f vs) w)(hc:Calls P f #[v1,v2] w R)(hR:∀e w',R e w'->∃v,e=.returned v/\K (a.put o.dst v) w'):if Region.wanted o (yielded ops a.tmps)=true then Oper.wp P o a w K Q else E:=by
 have hw:Region.wanted o (yielded ops a.tmps)=true:=by simp[Region.wanted,mr]
 rw[bN hw];have dI:(execOp a.eval o).run P w=.ok (.enter f #[v1,v2]) w:=by subst h1 h2;unfold execOp;simp[go_sem,ho,resolve,invoke,xB]
 show o.upon P a K Q _;rw[dI,Oper.upon_enter];refine hc.mono ?_;intro e w' h;obtain⟨v,rfl,hk⟩:=hR e w' h;exact hk
def jJ{w:World}{ops:Array Oper}{Q:Exit->Act->World->Prop}{E:Prop}{Vf:Array TypeId}{x1:Operand}(hc:Calls P f #[v1] w R)(hR:∀e w',R e w'->∃v,e=.returned v/\K (a.put o.dst v) w')(mr:o.guard=none:=by rfl)(ho:o.op=.call {callee:=.value (.func f),args:=#[x1],argTypes:=Vf}:=by rfl)(h1:a.eval x1=v1:=by rfl)(xB:∀vs,(callFunc f vs).run P w=.ok (.enter f vs) w:=by(intro _;kernel_rfl)):if Region.wanted o (yielded ops a.tmps)=true then Oper.wp P o a w K Q else E:=iq mr ho h1 xB hc hR
def xR{w:World}{ops:Array Oper}{Q:Exit->Act->World->Prop}{E:Prop}{Vf:Array TypeId}{x1 x2:Operand}(hc:Calls P f #[v1,v2] w R)(hR:∀e w',R e w'->∃v,e=.returned v/\K (a.put o.dst v) w')(mr:o.guard=none:=by rfl)(ho:o.op=.call {callee:=.value (.func f),args:=#[x1,x2],argTypes:=Vf}:=by rfl)(h1:a.eval x1=v1:=by rfl)(h2:a.eval x2=v2:=by rfl)(xB:∀vs,(callFunc f vs).run P w=.ok (.enter f vs) w:=by(intro _;kernel_rfl)):if Region.wanted o (yielded ops a.tmps)=true then Oper.wp P o a w K Q else E:=jI mr ho h1 h2 xB hc hR
end Go.Proofs.YtjjnidignljppaaGreatDoor
