import Derived.Test.YtcfcafeciggjeaaGreatDoorK0
import Derived.Lib.SlSplitV
import Derived.Lib.IndexBytes
import Derived.Lib.CountLaws
import Derived.Lib.Bytes
namespace Go.Proofs.YtcfcafeciggjeaaGreatDoor
set_option linter.unusedVariables false
set_option linter.unusedSimpArgs false
open Go.ChangeShapes Go.WideShapes Go.ChangeAt Go.RowKit
variable {c:Int} {k:Nat} {nm t:List Int} {s:List UInt8}
def bQ (l:List Int):Prop:=∀ z∈l,0<=z/\z<256
def cG {α:Type} [DecidableEq α] (c:α):List α->List (List α)
 | []=>[[]]
 | x::l=>if x=c then []::cG c l else (match cG c l with | []=>[[x]] | n::ns=>(x::n)::ns)
theorem Df {α:Type} [DecidableEq α] {c:α} {s:List α} (h:c∉s):cG c s=[s]:=by
 induction s with
 | nil=>rfl
 | cons x l ih=>
  have hx:¬ x=c:=fun e=>h (by simp [e]);rw [cG,if_neg hx,ih (fun h'=>h (by simp [h']))]
theorem yW {α:Type} [DecidableEq α] {c:α} {s t:List α} (h:c∉s):cG c (s++c::t)=s::cG c t:=by
 induction s with
 | nil=>simp [cG]
 | cons x l ih=>
  have hx:¬ x=c:=fun e=>h (by simp [e]);rw [List.cons_append,cG,if_neg hx,ih (fun h'=>h (by simp [h']))]
theorem Iy {α:Type} [DecidableEq α] {c x:α} (t:List α) (hx:¬ x=c) (s:List α) (h:c∉s):∃ n ns,cG c (s++x::t)=(s++x::n)::ns:=by
 induction s with
 | nil=>
  rw [List.nil_append,cG,if_neg hx];cases cG c t with
  | nil=>exact ⟨[],[],rfl⟩
  | cons n ns=>exact ⟨n,ns,rfl⟩
 | cons y l ih=>
  have hy:¬ y=c:=fun e=>h (by simp [e]);obtain ⟨n,ns,e⟩:=ih (fun h'=>h (by simp [h']));exact ⟨n,ns,by rw [List.cons_append,cG,if_neg hy,e];rfl⟩
theorem Iv {α:Type} [DecidableEq α] (c:α) (s:List α):1<=(cG c s).length:=by
 cases s with
 | nil=>simp [cG]
 | cons x l=>
  rw [cG];split;{simp};{split<;>simp}
theorem Iw {α β:Type} [DecidableEq α] [DecidableEq β] (f:α->β) (c:α) (s:List α) (h:∀ x∈s,f x=f c->x=c):cG (f c) (s.map f)=(cG c s).map (List.map f):=by
 induction s with
 | nil=>rfl
 | cons x l ih=>
  have ih:=ih fun y hy=>h y (by simp [hy]);rw [List.map_cons,cG,cG,ih];by_cases hx:x=c;{rw [if_pos (by rw [hx]),if_pos hx];rfl};{rw [if_neg (fun e=>hx (h x (by simp) e)),if_neg hx];cases cG c l<;>rfl}
theorem vX {c:UInt8} (h:c∉s):Lib.indexByte s c=-1:=by
 induction s with
 | nil=>rfl
 | cons x l ih=>
  have hx:¬ x=c:=fun e=>h (by simp [e]);unfold Lib.indexByte;rw [ih (fun h'=>h (by simp [h']))];simp [hx]
theorem uj {t:List UInt8} {c:UInt8} (h:c∉s):Lib.indexByte (s++c::t) c=s.length:=by
 induction s with
 | nil=>simp [Lib.indexByte]
 | cons x l ih=>
  have hx:¬ x=c:=fun e=>h (by simp [e]);have e:=ih (fun h'=>h (by simp [h']));rw [List.cons_append];unfold Lib.indexByte;rw [e];have h1:¬ ((l.length:Int)==-1)=true:=by simp
  rw [if_neg (by simpa using hx),if_neg h1];simp
theorem DG (c:UInt8):∀ (n:Nat) (s:List UInt8),s.length<n->Lib.splitK [c] 0 (Lib.count s [c]) s=cG c s/\Lib.count s [c]+1=(cG c s).length:=by
 intro n
 induction n with
 | zero=>intro s h;omega
 | succ n ih=>
  intro s h;by_cases hc:c∈s;{
 obtain ⟨pre,t,rfl,hp⟩:=List.eq_append_cons_of_mem hc;have hi:Lib.index (pre++c::t) [c]=(pre.length:Nat):=by rw [Lib.index_one,uj hp]
 have hd:(pre++c::t).drop (pre.length+1)=t:=by rw [List.drop_append];simp
 obtain ⟨e1,e2⟩:=ih t (by simp at h;omega);rw [Lib.count_hit (by simp) hi,yW hp];simp only [List.length_cons,List.length_nil,Nat.zero_add,hd];constructor;{rw [Nat.add_comm 1,Lib.splitK,if_neg (by rw [hi];simp),hi];simp only [Int.toNat_natCast,List.length_cons,List.length_nil,Nat.zero_add,Nat.add_zero,hd,e1];simp};{omega}};{
 have hi:Lib.index s [c]=-1:=by rw [Lib.index_one,vX hc]
 rw [Lib.count_miss hi,Df hc];exact ⟨rfl,rfl⟩}
def kJ (c:Int):Bool:=(decide (97<=c)&&decide (c<=122))||(decide (48<=c)&&decide (c<=57))||c==45||c==95
def gr (l:List Int):Bool:=decide (1<=l.length)&&decide (l.length<=16)&&l.all kJ
def st (k:Nat):List Int->Bool
 | []=>decide (1<=k)&&decide (k<=8)
 | c::t=>c==47&&(decide (k+(cG 47 t).length<=8)&&(cG 47 t).all gr)
def vp (p:List Int):Bool:=st 0 p
theorem Gt (h:kJ c=true):¬ c=47:=by
 intro e;subst e
 revert h
 decide
theorem sv {l:List Int} (h:∀ x∈l,kJ x=true):(47:Int)∉l:=fun hm=>Gt (h _ hm) rfl
theorem Oa (h:∀ x∈nm,kJ x=true):st k (47::nm)=(gr nm&&st (k+1) []):=by
 rw [st,st,Df (sv h)];by_cases hk:k+1<=8;{simp [hk]};{simp [hk]}
theorem JJ (h:∀ x∈nm,kJ x=true):st k (47::(nm++47::t))=(gr nm&&st (k+1) (47::t)):=by
 rw [st,st,yW (sv h)];have e:k+(nm::cG 47 t).length=k+1+(cG 47 t).length:=by simp;omega
 rw [e];rw [List.all_cons];cases gr nm<;>cases decide (k+1+(cG 47 t).length<=8)<;>cases (cG 47 t).all gr<;>rfl
theorem Ob (h:∀ x∈nm,kJ x=true) (hc:¬ c=47) (hb:kJ c=false):st k (47::(nm++c::t))=false:=by
 obtain ⟨n,ns,e⟩:=Iy t hc nm (sv h);rw [st,e];have h0:gr (nm++c::n)=false:=by rw [gr,List.all_append,List.all_cons,hb];simp
 rw [List.all_cons,h0];simp
theorem xF (hc:¬ c=47):st k (c::t)=false:=by
 rw [st];simp [hc]
theorem qO:∀ {a b:List Int},bQ a->bQ b->Lib.bytesOf a=Lib.bytesOf b->a=b
 | [],[],_,_,_=>rfl
 | [],y::b,_,_,h=>by simp [Lib.bytesOf] at h
 | x::a,[],_,_,h=>by simp [Lib.bytesOf] at h
 | x::a,y::b,ha,hb,h=>by
  simp only [Lib.bytesOf,List.map_cons,List.cons.injEq] at h;have h1:=ha x (by simp);have h2:=hb y (by simp);have e:x=y:=by have:=congrArg UInt8.toNat h.1;simp at this;omega
  rw [e,qO (fun z hz=>ha z (by simp [hz])) (fun z hz=>hb z (by simp [hz])) h.2]
theorem rW (hB:bQ t):Lib.splitK (Lib.bytesOf [47]) 0 (Lib.count (Lib.bytesOf t) (Lib.bytesOf [47])) (Lib.bytesOf t)=(cG 47 t).map Lib.bytesOf/\Lib.count (Lib.bytesOf t) (Lib.bytesOf [47])+1=(cG 47 t).length:=by
 have e47:Lib.bytesOf [47]=[UInt8.ofNat (47:Int).toNat]:=rfl;obtain ⟨e1,e2⟩:=DG (UInt8.ofNat (47:Int).toNat) _ (Lib.bytesOf t) (Nat.lt_succ_self _);have em:cG (UInt8.ofNat (47:Int).toNat) (Lib.bytesOf t)=(cG 47 t).map Lib.bytesOf:=by refine Iw (fun n:Int=>UInt8.ofNat n.toNat) 47 t fun x hx e=>?_;have h1:=hB x hx;have:=congrArg UInt8.toNat e;simp at this;omega
 rw [e47,e1,em];refine ⟨rfl,?_⟩;rw [e2,em,List.length_map]
theorem Lw (hB:bQ t):∀ n∈cG 47 t,bQ n:=by
 induction t with
 | nil=>intro n hn;simp [cG] at hn;subst hn;intro z hz;simp at hz
 | cons x l ih=>
  have ih:=ih fun z hz=>hB z (by simp [hz]);intro n hn;rw [cG] at hn;split at hn;{rcases List.mem_cons.1 hn with rfl | hn;{intro z hz;simp at hz};{exact ih n hn}};{
 cases hc:cG 47 l with
 | nil=>
  rw [hc] at hn;simp at hn;subst hn;intro z hz;simp at hz;subst hz;exact hB _ (by simp)
 | cons m ms=>
  rw [hc] at hn ih;rcases List.mem_cons.1 hn with rfl | hn;{intro z hz;rcases List.mem_cons.1 hz with rfl | hz;{exact hB _ (by simp)};{exact ih m (by simp) z hz}};{exact ih n (by simp [hn])}}
end Go.Proofs.YtcfcafeciggjeaaGreatDoor
