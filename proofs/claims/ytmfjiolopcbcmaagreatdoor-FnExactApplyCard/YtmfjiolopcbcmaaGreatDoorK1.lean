import Derived.Test.YtmfjiolopcbcmaaGreatDoorK0
import Derived.Lib.SlSplitV
import Derived.Lib.IndexBytes
import Derived.Lib.CountLaws
import Derived.Lib.Bytes
namespace Go.Proofs.YtmfjiolopcbcmaaGreatDoor
set_option linter.unusedVariables false
set_option linter.unusedSimpArgs false
open Go.ChangeShapes Go.WideShapes Go.ChangeAt Go.RowKit
variable {B k:Nat} {Bp:Array TypeId} {E:Prop} {K:Act->World->Prop} {P:Program} {Q:Exit->Act->World->Prop} {R:Ending->World->Prop} {a:Act} {c:Int} {f:FuncId} {l nm t:List Int} {o:Oper} {ops:Array Oper} {p:Option Addr} {s:List UInt8} {v1:Value} {w:World} {x1:Operand}
def cT (l:List Int):Prop:=∀ z∈l,0<=z/\z<256
def cR {α:Type} [DecidableEq α] (c:α):List α->List (List α)
 | []=>[[]]
 | x::l=>if x=c then []::cR c l else (match cR c l with | []=>[[x]] | n::ns=>(x::n)::ns)
theorem GM {α:Type} [DecidableEq α] {c:α} {s:List α} (h:c∉s):cR c s=[s]:=by
 induction s with
 | nil=>rfl
 | cons x l ih=>
  have hx:¬ x=c:=fun e=>h (by simp [e]);rw [cR,if_neg hx,ih (fun h'=>h (by simp [h']))]
theorem Dq {α:Type} [DecidableEq α] {c:α} {s t:List α} (h:c∉s):cR c (s++c::t)=s::cR c t:=by
 induction s with
 | nil=>simp [cR]
 | cons x l ih=>
  have hx:¬ x=c:=fun e=>h (by simp [e]);rw [List.cons_append,cR,if_neg hx,ih (fun h'=>h (by simp [h']))]
theorem Mg {α:Type} [DecidableEq α] {c x:α} (t:List α) (hx:¬ x=c) (s:List α) (h:c∉s):∃ n ns,cR c (s++x::t)=(s++x::n)::ns:=by
 induction s with
 | nil=>
  rw [List.nil_append,cR,if_neg hx];cases cR c t with
  | nil=>exact ⟨[],[],rfl⟩
  | cons n ns=>exact ⟨n,ns,rfl⟩
 | cons y l ih=>
  have hy:¬ y=c:=fun e=>h (by simp [e]);obtain ⟨n,ns,e⟩:=ih (fun h'=>h (by simp [h']));exact ⟨n,ns,by rw [List.cons_append,cR,if_neg hy,e];rfl⟩
theorem Md {α:Type} [DecidableEq α] (c:α) (s:List α):1<=(cR c s).length:=by
 cases s with
 | nil=>simp [cR]
 | cons x l=>
  rw [cR];split;{simp};{split<;>simp}
theorem Me {α β:Type} [DecidableEq α] [DecidableEq β] (f:α->β) (c:α) (s:List α) (h:∀ x∈s,f x=f c->x=c):cR (f c) (s.map f)=(cR c s).map (List.map f):=by
 induction s with
 | nil=>rfl
 | cons x l ih=>
  have ih:=ih fun y hy=>h y (by simp [hy]);rw [List.map_cons,cR,cR,ih];by_cases hx:x=c;{rw [if_pos (by rw [hx]),if_pos hx];rfl};{rw [if_neg (fun e=>hx (h x (by simp) e)),if_neg hx];cases cR c l<;>rfl}
theorem zE {c:UInt8} (h:c∉s):Lib.indexByte s c=-1:=by
 induction s with
 | nil=>rfl
 | cons x l ih=>
  have hx:¬ x=c:=fun e=>h (by simp [e]);unfold Lib.indexByte;rw [ih (fun h'=>h (by simp [h']))];simp [hx]
theorem xj {t:List UInt8} {c:UInt8} (h:c∉s):Lib.indexByte (s++c::t) c=s.length:=by
 induction s with
 | nil=>simp [Lib.indexByte]
 | cons x l ih=>
  have hx:¬ x=c:=fun e=>h (by simp [e]);have e:=ih (fun h'=>h (by simp [h']));rw [List.cons_append];unfold Lib.indexByte;rw [e];have h1:¬ ((l.length:Int)==-1)=true:=by simp
  rw [if_neg (by simpa using hx),if_neg h1];simp
theorem Hg (c:UInt8):∀ (n:Nat) (s:List UInt8),s.length<n->Lib.splitK [c] 0 (Lib.count s [c]) s=cR c s/\Lib.count s [c]+1=(cR c s).length:=by
 intro n
 induction n with
 | zero=>intro s h;omega
 | succ n ih=>
  intro s h;by_cases hc:c∈s;{
 obtain ⟨pre,t,rfl,hp⟩:=List.eq_append_cons_of_mem hc;have hi:Lib.index (pre++c::t) [c]=(pre.length:Nat):=by rw [Lib.index_one,xj hp]
 have hd:(pre++c::t).drop (pre.length+1)=t:=by rw [List.drop_append];simp
 obtain ⟨e1,e2⟩:=ih t (by simp at h;omega);rw [Lib.count_hit (by simp) hi,Dq hp];simp only [List.length_cons,List.length_nil,Nat.zero_add,hd];constructor;{rw [Nat.add_comm 1,Lib.splitK,if_neg (by rw [hi];simp),hi];simp only [Int.toNat_natCast,List.length_cons,List.length_nil,Nat.zero_add,Nat.add_zero,hd,e1];simp};{omega}};{
 have hi:Lib.index s [c]=-1:=by rw [Lib.index_one,zE hc]
 rw [Lib.count_miss hi,GM hc];exact ⟨rfl,rfl⟩}
def mL (c:Int):Bool:=(decide (97<=c)&&decide (c<=122))||(decide (48<=c)&&decide (c<=57))||c==45||c==95
def gS (l:List Int):Bool:=decide (1<=l.length)&&decide (l.length<=16)&&l.all mL
def st (k:Nat):List Int->Bool
 | []=>decide (1<=k)&&decide (k<=8)
 | c::t=>c==47&&(decide (k+(cR 47 t).length<=8)&&(cR 47 t).all gS)
def vp (p:List Int):Bool:=st 0 p
theorem Kd (h:mL c=true):¬ c=47:=by
 intro e;subst e
 revert h
 decide
theorem uP (h:∀ x∈l,mL x=true):(47:Int)∉l:=fun hm=>Kd (h _ hm) rfl
theorem TD (h:∀ x∈nm,mL x=true):st k (47::nm)=(gS nm&&st (k+1) []):=by
 rw [st,st,GM (uP h)];by_cases hk:k+1<=8;{simp [hk]};{simp [hk]}
theorem OG (h:∀ x∈nm,mL x=true):st k (47::(nm++47::t))=(gS nm&&st (k+1) (47::t)):=by
 rw [st,st,Dq (uP h)];have e:k+(nm::cR 47 t).length=k+1+(cR 47 t).length:=by simp;omega
 rw [e];rw [List.all_cons];cases gS nm<;>cases decide (k+1+(cR 47 t).length<=8)<;>cases (cR 47 t).all gS<;>rfl
theorem TE (h:∀ x∈nm,mL x=true) (hc:¬ c=47) (hb:mL c=false):st k (47::(nm++c::t))=false:=by
 obtain ⟨n,ns,e⟩:=Mg t hc nm (uP h);rw [st,e];have h0:gS (nm++c::n)=false:=by rw [gS,List.all_append,List.all_cons,hb];simp
 rw [List.all_cons,h0];simp
theorem BH (hc:¬ c=47):st k (c::t)=false:=by
 rw [st];simp [hc]
theorem sY:∀ {a b:List Int},cT a->cT b->Lib.bytesOf a=Lib.bytesOf b->a=b
 | [],[],_,_,_=>rfl
 | [],y::b,_,_,h=>by simp [Lib.bytesOf] at h
 | x::a,[],_,_,h=>by simp [Lib.bytesOf] at h
 | x::a,y::b,ha,hb,h=>by
  simp only [Lib.bytesOf,List.map_cons,List.cons.injEq] at h;have h1:=ha x (by simp);have h2:=hb y (by simp);have e:x=y:=by have:=congrArg UInt8.toNat h.1;simp at this;omega
  rw [e,sY (fun z hz=>ha z (by simp [hz])) (fun z hz=>hb z (by simp [hz])) h.2]
theorem uC (hB:cT t):Lib.splitK (Lib.bytesOf [47]) 0 (Lib.count (Lib.bytesOf t) (Lib.bytesOf [47])) (Lib.bytesOf t)=(cR 47 t).map Lib.bytesOf/\Lib.count (Lib.bytesOf t) (Lib.bytesOf [47])+1=(cR 47 t).length:=by
 have e47:Lib.bytesOf [47]=[UInt8.ofNat (47:Int).toNat]:=rfl;obtain ⟨e1,e2⟩:=Hg (UInt8.ofNat (47:Int).toNat) _ (Lib.bytesOf t) (Nat.lt_succ_self _);have em:cR (UInt8.ofNat (47:Int).toNat) (Lib.bytesOf t)=(cR 47 t).map Lib.bytesOf:=by refine Me (fun n:Int=>UInt8.ofNat n.toNat) 47 t fun x hx e=>?_;have h1:=hB x hx;have:=congrArg UInt8.toNat e;simp at this;omega
 rw [e47,e1,em];refine ⟨rfl,?_⟩;rw [e2,em,List.length_map]
theorem QK (hB:cT t):∀ n∈cR 47 t,cT n:=by
 induction t with
 | nil=>intro n hn;simp [cR] at hn;subst hn;intro z hz;simp at hz
 | cons x l ih=>
  have ih:=ih fun z hz=>hB z (by simp [hz]);intro n hn;rw [cR] at hn;split at hn;{rcases List.mem_cons.1 hn with rfl | hn;{intro z hz;simp at hz};{exact ih n hn}};{
 cases hc:cR 47 l with
 | nil=>
  rw [hc] at hn;simp at hn;subst hn;intro z hz;simp at hz;subst hz;exact hB _ (by simp)
 | cons m ms=>
  rw [hc] at hn ih;rcases List.mem_cons.1 hn with rfl | hn;{intro z hz;rcases List.mem_cons.1 hz with rfl | hz;{exact hB _ (by simp)};{exact ih m (by simp) z hz}};{exact ih n (by simp [hn])}}
def Btw (lo hi:Nat) (v:Value):Prop:=∀ b,v.ownBlock=some b->lo<=b/\b<hi
theorem Own.cap {c n:Nat} (h:Own B w (.slice p n c) l):n<=c:=by
 rcases h.2 with ⟨e,h0⟩ | ⟨g,cap,cur,e,_,_,hc,_⟩;{simp only [Value.slice.injEq] at e;omega};{simp only [Value.slice.injEq] at e;omega}
theorem Own.vR {c n:Nat} (h:Own B w (.slice p n c) l):c<=maxLen:=by
 rcases h.2 with ⟨e,h0⟩ | ⟨g,cap,cur,e,_,_,hc,hm,_⟩;{simp only [Value.slice.injEq] at e;omega};{simp only [Value.slice.injEq] at e;omega}
theorem rZ (p:Option Addr) (c n:Nat) (l:List Int) (en:Hid (l.length=n)) (w:World) (h:Rd w (.slice p n c) l) (hl:n<=1048576) :
  Calls Tryz.prog 27 #[.slice p n c] w fun e w'=>∃ p' c',e=.returned (.slice p' n c')/\Own w.heap.size w' (.slice p' n c') l/\Below w.heap.size w w':=by
 have e:=aa en;subst e;exact Bu _ l w h hl
theorem iM (p q:Option Addr) (c d n:Nat) (l:List Int) (en:Hid (l.length=n)) (w:World) (h1:Rd w (.slice p n c) l) (h2:Rd w (.slice q n d) l) (hl:n<=2097152) :
  Calls Tryz.prog 35 #[.slice p n c,.slice q n d] w fun e w'=>e=.returned (.bool true)/\Below w.heap.size w w':=by
 have e:=aa en;subst e;refine (Di _ _ l l w h1 h2 hl hl).mono ?_;rintro e w' ⟨rfl,hb⟩;exact ⟨by simp,hb⟩
theorem dw (kM:o.guard=none) (f:FuncId) (x1:Operand) (Bp:Array TypeId)
  (ho:o.op=.call { callee:=.value (.func f),args:=#[x1],argTypes:=Bp }) (v1:Value) (h1:a.eval x1=v1) (rQ:∀ vs,(callFunc f vs).run P w=.ok (.enter f vs) w) (hc:Calls P f #[v1] w R) (hR:∀ e w',R e w'->∃ v,e=.returned v/\K (a.put o.dst v) w') :
  if Region.wanted o (yielded ops a.tmps)=true then Oper.wp P o a w K Q else E:=by
 have hw:Region.wanted o (yielded ops a.tmps)=true:=by simp [Region.wanted,kM]
 rw [if_pos hw];have bS:(execOp a.eval o).run P w=.ok (.enter f #[v1]) w:=by subst h1;unfold execOp;simp [go_sem,ho,resolve,invoke,rQ]
 show o.upon P a K Q _;rw [bS,Oper.upon_enter];refine hc.mono ?_;intro e w' h;obtain ⟨v,rfl,hk⟩:=hR e w' h;exact hk
theorem fT (kM:o.guard=none) (f:FuncId) (x1 x2:Operand) (Bp:Array TypeId)
  (ho:o.op=.call { callee:=.value (.func f),args:=#[x1,x2],argTypes:=Bp }) (v1 v2:Value) (h1:a.eval x1=v1) (h2:a.eval x2=v2) (rQ:∀ vs,(callFunc f vs).run P w=.ok (.enter f vs) w) (hc:Calls P f #[v1,v2] w R) (hR:∀ e w',R e w'->∃ v,e=.returned v/\K (a.put o.dst v) w') :
  if Region.wanted o (yielded ops a.tmps)=true then Oper.wp P o a w K Q else E:=by
 have hw:Region.wanted o (yielded ops a.tmps)=true:=by simp [Region.wanted,kM]
 rw [if_pos hw];have bS:(execOp a.eval o).run P w=.ok (.enter f #[v1,v2]) w:=by subst h1 h2;unfold execOp;simp [go_sem,ho,resolve,invoke,rQ]
 show o.upon P a K Q _;rw [bS,Oper.upon_enter];refine hc.mono ?_;intro e w' h;obtain ⟨v,rfl,hk⟩:=hR e w' h;exact hk
theorem iG (hc:Calls P f #[v1] w R) (hR:∀ e w',R e w'->∃ v,e=.returned v/\K (a.put o.dst v) w') (kM:o.guard=none:=by rfl)
  (ho:o.op=.call { callee:=.value (.func f),args:=#[x1],argTypes:=Bp }:=by rfl) (h1:a.eval x1=v1:=by rfl) (rQ:∀ vs,(callFunc f vs).run P w=.ok (.enter f vs) w:=by (intro _;kernel_rfl)) :
  if Region.wanted o (yielded ops a.tmps)=true then Oper.wp P o a w K Q else E:=dw kM f x1 Bp ho v1 h1 rQ hc hR
theorem oy {x2:Operand} {v2:Value} (hc:Calls P f #[v1,v2] w R) (hR:∀ e w',R e w'->∃ v,e=.returned v/\K (a.put o.dst v) w') (kM:o.guard=none:=by rfl)
  (ho:o.op=.call { callee:=.value (.func f),args:=#[x1,x2],argTypes:=Bp }:=by rfl) (h1:a.eval x1=v1:=by rfl) (h2:a.eval x2=v2:=by rfl) (rQ:∀ vs,(callFunc f vs).run P w=.ok (.enter f vs) w:=by (intro _;kernel_rfl)) :
  if Region.wanted o (yielded ops a.tmps)=true then Oper.wp P o a w K Q else E:=fT kM f x1 x2 Bp ho v1 v2 h1 h2 rQ hc hR
end Go.Proofs.YtmfjiolopcbcmaaGreatDoor
