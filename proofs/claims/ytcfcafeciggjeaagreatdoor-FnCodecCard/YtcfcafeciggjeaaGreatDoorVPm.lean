import Derived.Test.YtcfcafeciggjeaaGreatDoorK0
import Derived.Lib.SlSplitV
import Derived.Lib.IndexBytes
import Derived.Lib.CountLaws
import Derived.Lib.Bytes
namespace Go.Proofs.YtcfcafeciggjeaaGreatDoor
set_option linter.all false
open Go.ChangeShapes Go.WideShapes Go.ChangeAt Go.RowKit
variable {c:Int} {k:Nat} {nm t:List Int} {s:List UInt8}
def bM (l:List Int):Prop:=∀ z∈l,0<=z/\z<256
def du {α:Type} [DecidableEq α] (c:α):List α->List (List α)
 | []=>[[]]
 | x::l=>if x=c then []::du c l else (match du c l with | []=>[[x]] | n::ns=>(x::n)::ns)
theorem Ht {α:Type} [DecidableEq α] {c:α} {s:List α} (h:c∉s):du c s=[s]:=by
 induction s with
 | nil=>rfl
 | cons x l ih=>
  have hx:¬ x=c:=fun e=>h (by simp [e]);rw [du,if_neg hx,ih (fun h'=>h (by simp [h']))]
theorem D6 {α:Type} [DecidableEq α] {c:α} {s t:List α} (h:c∉s):du c (s++c::t)=s::du c t:=by
 induction s with
 | nil=>simp [du]
 | cons x l ih=>
  have hx:¬ x=c:=fun e=>h (by simp [e]);rw [List.cons_append,du,if_neg hx,ih (fun h'=>h (by simp [h']))]
theorem NI {α:Type} [DecidableEq α] {c x:α} (t:List α) (hx:¬ x=c) (s:List α) (h:c∉s):∃ n ns,du c (s++x::t)=(s++x::n)::ns:=by
 induction s with
 | nil=>
  rw [List.nil_append,du,if_neg hx];cases du c t with
  | nil=>exact ⟨[],[],rfl⟩
  | cons n ns=>exact ⟨n,ns,rfl⟩
 | cons y l ih=>
  have hy:¬ y=c:=fun e=>h (by simp [e]);obtain ⟨n,ns,e⟩:=ih (fun h'=>h (by simp [h']));exact ⟨n,ns,by rw [List.cons_append,du,if_neg hy,e];rfl⟩
theorem NC {α:Type} [DecidableEq α] (c:α) (s:List α):1<=(du c s).length:=by
 cases s with
 | nil=>simp [du]
 | cons x l=>
  rw [du];split;{simp};{split<;>simp}
theorem NF {α β:Type} [DecidableEq α] [DecidableEq β] (f:α->β) (c:α) (s:List α) (h:∀ x∈s,f x=f c->x=c):du (f c) (s.map f)=(du c s).map (List.map f):=by
 induction s with
 | nil=>rfl
 | cons x l ih=>
  have ih:=ih fun y hy=>h y (by simp [hy]);rw [List.map_cons,du,du,ih];by_cases hx:x=c;{rw [if_pos (by rw [hx]),if_pos hx];rfl};{rw [if_neg (fun e=>hx (h x aU e)),if_neg hx];cases du c l<;>rfl}
theorem AZ {c:UInt8} (h:c∉s):Lib.indexByte s c=-1:=by
 induction s with
 | nil=>rfl
 | cons x l ih=>
  have hx:¬ x=c:=fun e=>h (by simp [e]);unfold Lib.indexByte;rw [ih (fun h'=>h (by simp [h']))];simp [hx]
theorem yx {t:List UInt8} {c:UInt8} (h:c∉s):Lib.indexByte (s++c::t) c=s.length:=by
 induction s with
 | nil=>simp [Lib.indexByte]
 | cons x l ih=>
  have hx:¬ x=c:=fun e=>h (by simp [e]);have e:=ih (fun h'=>h (by simp [h']));rw [List.cons_append];unfold Lib.indexByte;rw [e];have h1:¬ ((l.length:Int)==-1)=true:=aU;rw [if_neg (by simpa using hx),if_neg h1];simp
theorem Iw (c:UInt8):∀ (n:Nat) (s:List UInt8),s.length<n->Lib.splitK [c] 0 (Lib.count s [c]) s=du c s/\Lib.count s [c]+1=(du c s).length:=by
 intro n
 induction n with
 | zero=>intro s h;omega
 | succ n ih=>
  intro s h;by_cases hc:c∈s;{
 obtain ⟨pre,t,rfl,hp⟩:=List.eq_append_cons_of_mem hc;have hi:Lib.index (pre++c::t) [c]=(pre.length:Nat):=by rw [Lib.index_one,yx hp]
 have hd:(pre++c::t).drop (pre.length+1)=t:=by rw [List.drop_append];simp
 obtain ⟨e1,e2⟩:=ih t (by simp at h;omega);rw [Lib.count_hit aU hi,D6 hp];simp only [List.length_cons,List.length_nil,Nat.zero_add,hd];constructor;{rw [Nat.add_comm 1,Lib.splitK,if_neg (by rw [hi];simp),hi];simp only [Int.toNat_natCast,List.length_cons,List.length_nil,Nat.zero_add,Nat.add_zero,hd,e1];simp};{omega}};{
 have hi:Lib.index s [c]=-1:=by rw [Lib.index_one,AZ hc]
 rw [Lib.count_miss hi,Ht hc];exact ⟨rfl,rfl⟩}
def nK (c:Int):Bool:=(decide (97<=c)&&decide (c<=122))||(decide (48<=c)&&decide (c<=57))||c==45||c==95
def iQ (l:List Int):Bool:=decide (1<=l.length)&&decide (l.length<=16)&&l.all nK
def st (k:Nat):List Int->Bool
 | []=>decide (1<=k)&&decide (k<=8)
 | c::t=>c==47&&(decide (k+(du 47 t).length<=8)&&(du 47 t).all iQ)
def vp (p:List Int):Bool:=st 0 p
theorem Lq (h:nK c=true):¬ c=47:=by
 intro e;subst e
 revert h
 decide
theorem Ed {l:List Int} (h:∀ x∈l,nK x=true):(47:Int)∉l:=fun hm=>Lq (h _ hm) rfl
theorem UW (h:∀ x∈nm,nK x=true):st k (47::nm)=(iQ nm&&st (k+1) []):=by
 rw [st,st,Ht (Ed h)];by_cases hk:k+1<=8;{simp [hk]};{simp [hk]}
theorem Qa (h:∀ x∈nm,nK x=true):st k (47::(nm++47::t))=(iQ nm&&st (k+1) (47::t)):=by
 rw [st,st,D6 (Ed h)];have e:k+(nm::du 47 t).length=k+1+(du 47 t).length:=by simp;omega
 rw [e];rw [List.all_cons];cases iQ nm<;>cases decide (k+1+(du 47 t).length<=8)<;>cases (du 47 t).all iQ<;>rfl
theorem UX (h:∀ x∈nm,nK x=true) (hc:¬ c=47) (hb:nK c=false):st k (47::(nm++c::t))=false:=by
 obtain ⟨n,ns,e⟩:=NI t hc nm (Ed h);rw [st,e];have h0:iQ (nm++c::n)=false:=by rw [iQ,List.all_append,List.all_cons,hb];simp
 rw [List.all_cons,h0];simp
theorem Cu (hc:¬ c=47):st k (c::t)=false:=by
 rw [st];simp [hc]
theorem uI:∀ {a b:List Int},bM a->bM b->Lib.bytesOf a=Lib.bytesOf b->a=b
 | [],[],_,_,_=>rfl
 | [],y::b,_,_,h=>by simp [Lib.bytesOf] at h
 | x::a,[],_,_,h=>by simp [Lib.bytesOf] at h
 | x::a,y::b,ha,hb,h=>by
  simp only [Lib.bytesOf,List.map_cons,List.cons.injEq] at h;have h1:=ha x aU;have h2:=hb y aU;have e:x=y:=by have:=congrArg UInt8.toNat h.1;simp at this;omega
  rw [e,uI (fun z hz=>ha z (by simp [hz])) (fun z hz=>hb z (by simp [hz])) h.2]
theorem vZ (hB:bM t):Lib.splitK (Lib.bytesOf [47]) 0 (Lib.count (Lib.bytesOf t) (Lib.bytesOf [47])) (Lib.bytesOf t)=(du 47 t).map Lib.bytesOf/\Lib.count (Lib.bytesOf t) (Lib.bytesOf [47])+1=(du 47 t).length:=by
 have e47:Lib.bytesOf [47]=[UInt8.ofNat (47:Int).toNat]:=rfl;obtain ⟨e1,e2⟩:=Iw (UInt8.ofNat (47:Int).toNat) _ (Lib.bytesOf t) (Nat.lt_succ_self _);have em:du (UInt8.ofNat (47:Int).toNat) (Lib.bytesOf t)=(du 47 t).map Lib.bytesOf:=by refine NF (fun n:Int=>UInt8.ofNat n.toNat) 47 t fun x hx e=>?_;have h1:=hB x hx;have:=congrArg UInt8.toNat e;simp at this;omega
 rw [e47,e1,em];refine ⟨rfl,?_⟩;rw [e2,em,List.length_map]
theorem Se (hB:bM t):∀ n∈du 47 t,bM n:=by
 induction t with
 | nil=>intro n hn;simp [du] at hn;subst hn;intro z hz;simp at hz
 | cons x l ih=>
  have ih:=ih fun z hz=>hB z (by simp [hz]);intro n hn;rw [du] at hn;split at hn;{rcases List.mem_cons.1 hn with rfl | hn;{intro z hz;simp at hz};{exact ih n hn}};{
 cases hc:du 47 l with
 | nil=>
  rw [hc] at hn;simp at hn;subst hn;intro z hz;simp at hz;subst hz;exact hB _ aU
 | cons m ms=>
  rw [hc] at hn ih;rcases List.mem_cons.1 hn with rfl | hn;{intro z hz;rcases List.mem_cons.1 hz with rfl | hz;{exact hB _ aU};{exact ih m aU z hz}};{exact ih n (by simp [hn])}}
end Go.Proofs.YtcfcafeciggjeaaGreatDoor
