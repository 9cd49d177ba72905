import Derived.Test.YtcfcafeciggjeaaGreatDoorK15
import Derived.Test.YtcfcafeciggjeaaGreatDoorK16
namespace Go.Proofs.YtcfcafeciggjeaaGreatDoor
set_option maxHeartbeats 3200000
set_option linter.unusedVariables false
set_option linter.unusedSimpArgs false
set_option maxRecDepth 100000
open Go.ChangeShapes Go.WideShapes Go.ChangeAt Go.RowKit
variable {B B' B0 i j k:Nat} {Qs:List Value} {id x:Int} {l:List Int} {ns:List aA} {s:aL} {ss:List aL} {ty:TypeId} {v:Value} {w w' w1:World}
def RT {α:Type} (el:World->α->List Value->Prop) (ty:TypeId) (sz B:Nat) (w:World) (v:Value) (xs:List α):Prop:=
 ∃ cs:List (List Value),cs.length=xs.length/\(∀ c∈cs,c.length=sz)/\w.ownsRow B ty sz v xs.length cs.flatten/\∀ (i:Nat) (x:α) (c:List Value),xs[i]?=some x->cs[i]?=some c->el w x c
section
variable {α:Type} {el:World->α->List Value->Prop} {ty:TypeId} {sz B:Nat} {w w':World} {v:Value} {xs:List α}
theorem RT.nil (el:World->α->List Value->Prop) (ty:TypeId) (sz B:Nat) (w:World):RT el ty sz B w (.slice none 0 0) []:=
 ⟨[],rfl,fun c hc=>by simp at hc,by simpa using World.ownsRow_nil w B ty sz,fun i x c hx=>by simp at hx⟩
theorem RT.lt (h:RT el ty sz B w v xs):∀ b,v.ownBlock=some b->B<=b/\b<w.heap.size:=by
 obtain ⟨cs,h1,h2,h3,h4⟩:=h;exact h3.lt
theorem RT.gS (h:RT el ty sz B w v xs):∀ b,v.ownBlock=some b->∃ cur,w.heap[b]?=some (.cells cur ty):=fun b hb=>by
 obtain ⟨cs,h1,h2,h3,h4⟩:=h;rcases h3.2 with ⟨rfl,-⟩ | ⟨g,cap,cur,rfl,-,hg,-⟩;{simp [Value.ownBlock] at hb};{simp only [Value.ownBlock,Option.some.injEq] at hb;subst hb;exact ⟨cur,hg⟩}
theorem RT.form (h:RT el ty sz B w v xs):∃ p c,v=.slice p xs.length c/\xs.length<=c/\c<=maxLen/\(0<xs.length->∃ g,p=some ⟨g,0,none⟩):=by
 obtain ⟨cs,h1,h2,h3,h4⟩:=h;rcases h3.2 with ⟨rfl,e⟩ | ⟨g,cap,cur,rfl,-,hg,a,b,-⟩;{exact ⟨none,0,by rw [e],by omega,by unfold maxLen;omega,fun hh=>by omega⟩};{exact ⟨_,cap,rfl,a,b,fun _=>⟨g,rfl⟩⟩}
theorem RT.aM (h:RT el ty sz B w v xs) (mF:∀ x c,el w x c->el w' x c) (hr:∀ b,v.ownBlock=some b->w'.heap[b]?=w.heap[b]?):RT el ty sz B w' v xs:=by
 obtain ⟨cs,h1,h2,h3,h4⟩:=h;refine ⟨cs,h1,h2,⟨h3.1,?_⟩,fun i x c hx hc=>mF x c (h4 i x c hx hc)⟩;rcases h3.2 with hn | ⟨g,cap,cur,rfl,hb,hg,rest⟩;{exact .inl hn};{exact .inr ⟨g,cap,cur,rfl,hb,(hr g rfl).trans hg,rest⟩}
theorem RT.mono (h:RT el ty sz B w v xs) (hB:B'<=B):RT el ty sz B' w v xs:=by
 obtain ⟨cs,h1,h2,h3,h4⟩:=h;refine ⟨cs,h1,h2,⟨h3.1,?_⟩,h4⟩;rcases h3.2 with hn | ⟨g,cap,cur,rfl,hb,rest⟩;{exact .inl hn};{exact .inr ⟨g,cap,cur,rfl,Nat.le_trans hB hb,rest⟩}
theorem RT.snoc {v':Value} {x:α} {c:List Value} {cs:List (List Value)} (h1:cs.length=xs.length) (h2:∀ c∈cs,c.length=sz) (h4:∀ (i:Nat) (x:α) (c:List Value),xs[i]?=some x->cs[i]?=some c->el w x c)
  (mF:∀ x c,el w x c->el w' x c) (hx:el w x c) (hc:c.length=sz) (dN:w'.ownsRow B ty sz v' (xs.length+1) (cs.flatten++c)):RT el ty sz B w' v' (xs++[x]):=by
 refine ⟨cs++[c],by simp [h1],fun c' fq=>?_,by simpa using dN,fun i y c' hy fq=>?_⟩;{rcases List.mem_append.1 fq with fq | fq;{exact h2 c' fq};{simp at fq;subst fq;exact hc}};{
 by_cases hi:i<xs.length;{rw [List.getElem?_append_left hi] at hy;rw [List.getElem?_append_left (by omega)] at fq;exact mF _ _ (h4 i y c' hy fq)};{
 have ei:i=xs.length:=by have:=(aJ.1 hy).1;simp at this;omega
 subst ei;rw [List.getElem?_append_right ax,Nat.sub_self] at hy;rw [List.getElem?_append_right (by omega),h1,Nat.sub_self] at fq;simp at hy fq;subst hy fq;exact mF _ _ hx}}
theorem RT.n {g n cap:Nat} (h:RT el ty sz B w (.slice (some ⟨g,0,none⟩) n cap) xs):n=xs.length:=by
 obtain ⟨p,c,e,-⟩:=h.form;simp only [Value.slice.injEq] at e;exact e.2.1
theorem RT.at {g n cap:Nat} (h:RT el ty sz B w (.slice (some ⟨g,0,none⟩) n cap) xs) {x:α} (hx:xs[i]?=some x):∃ c,c.length=sz/\el w x c/\(∀ (j:Nat) (u:Value),c[j]?=some u->w.cell? ⟨g,i*sz+j,none⟩=some u)/\∀ o,w.frozen? ⟨g,o,none⟩=false:=by
 have en:=h.n;subst en;obtain ⟨cs,h1,h2,h3,h4⟩:=h;have hi:=(aJ.1 hx).1;obtain ⟨c,hc⟩:∃ x,cs[i]?=some x:=⟨_,aE (by omega)⟩;have hlen:=h2 c (aF hc);refine ⟨c,hlen,h4 i x c hx hc,fun j u hu=>?_,fun o=>h3.frozenAt o⟩;have hj:j<sz:=by have:=(aJ.1 hu).1;omega
 have ZZ:i*sz+sz<=xs.length*sz:=by rw [<-Nat.succ_mul];exact Nat.mul_le_mul_right _ hi
 rw [h3.cellAt (i*sz+j) (by omega),lW h2 hc hj];exact hu
theorem RT.put {g n cap:Nat} (h:RT el ty sz B w (.slice (some ⟨g,0,none⟩) n cap) xs) {x:α} (hx:xs[i]?=some x) (hj:j<sz) (u:Value) (x':α)
  (mF:∀ y c,el w y c->el (w.setCell ⟨g,i*sz+j,none⟩ u) y c) (hn:∀ c,c.length=sz->el w x c->el (w.setCell ⟨g,i*sz+j,none⟩ u) x' (c.set j u)):RT el ty sz B (w.setCell ⟨g,i*sz+j,none⟩ u) (.slice (some ⟨g,0,none⟩) n cap) (xs.set i x'):=by
 have en:=h.n;subst en;obtain ⟨cs,h1,h2,h3,h4⟩:=h;have vg:=(aJ.1 hx).1;obtain ⟨c,hc⟩:∃ x,cs[i]?=some x:=⟨_,aE (by omega)⟩;have hlen:=h2 c (aF hc);refine ⟨cs.set i (c.set j u),by simp [h1],fun d hd=>?_,?_,fun k y d hy hd=>?_⟩;{rcases List.mem_or_eq_of_mem_set hd with hd | rfl;{exact h2 d hd};{rw [List.length_set,hlen]}};{rw [yO h2 hc hj,List.length_set];exact (h3.stored _ u).1};{rw [List.getElem?_set] at hy hd;by_cases e:i=k;{subst e;rw [if_pos rfl,if_pos (by omega)] at hy hd;cases hy;cases hd;exact hn c hlen (h4 i x c hx hc)};{rw [if_neg e] at hy hd;exact mF _ _ (h4 k y d hy hd)}}
end
theorem cD {b:Nat} {o:Obj} (h:w.heap[b]?=some o):b<w.heap.size:=(Array.getElem?_eq_some_iff.1 h).1
def Fr (T:List TypeId) (w w':World):Prop:=w.heap.size<=w'.heap.size/\∀ (b:Nat) (cur:Array Value) (ty:TypeId) (m:Nat × Nat),ty∉T->w.heap[b]?=some (.cells cur ty m)->w'.heap[b]?=some (.cells cur ty m)
theorem Fr.below {T:List TypeId} (h:Below w.heap.size w w'):Fr T w w':=⟨h.size,fun b cur ty m _ hb=>(h.block b (cD hb)).trans hb⟩
theorem Fr.refl (T:List TypeId) (w:World):Fr T w w:=⟨Nat.le_refl _,fun _ _ _ _ _ h=>h⟩
theorem Fr.trans {T:List TypeId} {w2:World} (h:Fr T w w1) (h2:Fr T w1 w2):Fr T w w2:=⟨Nat.le_trans h.1 h2.1,fun b cur ty m ht hb=>h2.2 b cur ty m ht (h.2 b cur ty m ht hb)⟩
theorem Fr.sub {T T':List TypeId} (h:Fr T w w') (hs:∀ t∈T,t∈T'):Fr T' w w':=⟨h.1,fun b cur ty m ht hb=>h.2 b cur ty m (fun e=>ht (hs _ e)) hb⟩
theorem Fr.set {T:List TypeId} {g:Nat} {u:Value} {cur:Array Value} (hg:w.heap[g]?=some (.cells cur ty)) (ht:ty∈T):Fr T w (w.setCell ⟨g,j,none⟩ u):=by
 refine ⟨by simp,fun b tm JF m hn hb=>?_⟩;have bq:b≠g:=fun e=>by subst e;rw [hg] at hb;simp at hb;exact hn (hb.2.1▸ht)
 exact (dt _ _ _ _ bq).trans hb
theorem Fr.grown {T:List TypeId} {r:Option Nat} (hg:w.grownBy w' r) (ht:∀ b,r=some b->∃ cur ty,w.heap[b]?=some (.cells cur ty)/\ty∈T):Fr T w w':=by
 refine ⟨hg.size,fun b cur ty m hn hb=>?_⟩;refine (hg.block b (cD hb) (fun e=>?_)).trans hb;obtain ⟨tm,JF,h1,h2⟩:=ht b e.symm;rw [h1] at hb;simp at hb;exact hn (hb.2.1▸h2)
def TB (w:World) (v:Value) (l:List Int):Prop:=Rd w v l/\(∀ b,v.ownBlock=some b->l=[]\/∃ cur m,w.heap[b]?=some (.cells cur 5 m))/\fV v
def TU (B:Nat) (w:World) (v:Value) (l:List Int):Prop:=kL w v l/\(∀ b,v.ownBlock=some b->∃ cur,w.heap[b]?=some (.cells cur 23))/\ZT w v/\∀ b,v.ownBlock=some b->B<=b
theorem TB.fr {T:List TypeId} (h:TB w v l) (hf:Fr T w w') (ht:5∉T):TB w' v l:=by
 obtain ⟨⟨p,c,rfl,hd⟩,h2,hc⟩:=h;by_cases hl:l=[];{exact ⟨⟨p,c,rfl,.inl hl⟩,fun b _=>.inl hl,hc⟩};rcases hd with hd | ⟨b,o,rfl,hd⟩;{exact absurd hd hl};rcases h2 b rfl with e | ⟨cur,m,hb⟩;{exact absurd e hl};have cL:=hf.2 b cur _ m ht hb;refine ⟨⟨_,c,rfl,.inr ⟨b,o,rfl,fun i hi=>(ah (cL.trans hb.symm) _).trans (hd i hi)⟩⟩,fun b' e=>.inr ?_,hc⟩;simp only [Value.ownBlock,Option.some.injEq] at e;subst e;exact ⟨cur,m,cL⟩
theorem TU.fr {T:List TypeId} (h:TU B w v l) (hf:Fr T w w') (ht:23∉T):TU B w' v l:=by
 obtain ⟨⟨p,c,rfl,hd⟩,h2,hz,h3⟩:=h;have hk:∀ b,(Value.slice p l.length c).ownBlock=some b->w'.heap[b]?=w.heap[b]?:=fun b e=>by obtain ⟨cur,hb⟩:=h2 b e;exact (hf.2 b cur _ _ ht hb).trans hb.symm
 refine ⟨⟨p,c,rfl,?_⟩,fun b e=>?_,hz.aM hk,h3⟩;{rcases hd with hd | ⟨b,o,rfl,hd⟩;{exact .inl hd};{exact .inr ⟨b,o,rfl,fun i hi=>(ah (hk b rfl) _).trans (hd i hi)⟩}};{obtain ⟨cur,hb⟩:=h2 b e;exact ⟨cur,(hk b e).trans hb⟩}
theorem Own.VG (h:Own B w v l):fV v:=by
 rcases h.2 with ⟨rfl,-⟩ | ⟨g,cap,cur,rfl,-,hg,hc,hm,-⟩;{exact ⟨_,_,_,rfl,Nat.le_refl _,Nat.zero_le _⟩};{exact ⟨_,_,_,rfl,hc,hm⟩}
theorem Own.tb (h:Own B w v l):TB w v l:=⟨h.rd,fun b e=>.inr (by
 rcases h.2 with ⟨rfl,-⟩ | ⟨g,cap,cur,rfl,-,hg,-⟩;{simp [Value.ownBlock] at e};{simp only [Value.ownBlock,Option.some.injEq] at e;subst e;exact ⟨cur,_,hg⟩}),h.VG⟩
theorem TB.nil (w:World):TB w (.slice none 0 0) []:=⟨Rd.nil _,fun b e=>.inl rfl,_,_,_,rfl,Nat.le_refl _,Nat.zero_le _⟩
theorem TU.nil (w:World):TU B w (.slice none 0 0) []:=⟨⟨none,0,rfl,.inl rfl⟩,fun b e=>by simp [Value.ownBlock] at e,ZT.nil w,fun b e=>by simp [Value.ownBlock] at e⟩
theorem TU.mono (h:TU B w v l) (hB:B'<=B):TU B' w v l:=⟨h.1,h.2.1,h.2.2.1,fun b e=>Nat.le_trans hB (h.2.2.2 b e)⟩
def im (w:World) (e:Ev) (c:List Value):Prop:=∃ P,c=[.int .i64 e.1,P]/\TB w P e.2
def jO (_:World) (x:aL × Value) (c:List Value):Prop:=c=[.int .u64 x.1.1,.int .i64 x.1.2.1,x.2]
def fD (B:Nat) (w:World) (nd:aA) (c:List Value):Prop:=∃ P V H U,c=[P,V,.int .u64 nd.owner,.int .i64 nd.mode,H,.int .u64 nd.aD,.int .u64 nd.gen,U]/\TB w P nd.path/\TB w V nd.value/\TU B w H nd.holders/\TU B w U nd.watchers
abbrev tX (B:Nat) (w:World) (v:Value) (es:List Ev):Prop:=RT im 49 2 B w v es
structure de (B:Nat) (w:World) (v:Value) (ss:List aL) (Qs:List Value):Prop where
 len:Qs.length=ss.length
 row:RT jO 35 3 B w v (ss.zip Qs)
 xm:∀ (i:Nat) (s:aL) (Q:Value),ss[i]?=some s->Qs[i]?=some Q->tX B w Q s.2.2
 pD:∀ (i j:Nat) (Q Q':Value) (b:Nat),i≠j->Qs[i]?=some Q->Qs[j]?=some Q'->Q.ownBlock=some b->Q'.ownBlock≠some b
abbrev aR (B0 B:Nat) (w:World) (v:Value) (ns:List aA):Prop:=RT (fD B0) 38 8 B w v ns
abbrev jh (B:Nat) (w:World) (v:Value) (ns:List aA):Prop:=aR B B w v ns
theorem RT.fr {α:Type} {el:World->α->List Value->Prop} {sz:Nat} {xs:List α} {T:List TypeId} (h:RT el ty sz B w v xs) (hf:Fr T w w') (ht:ty∉T) (mF:∀ x c,el w x c->el w' x c):RT el ty sz B w' v xs:=
 h.aM mF fun b hb=>by obtain ⟨cur,hc⟩:=h.gS b hb;exact (hf.2 b cur ty _ ht hc).trans hc.symm
theorem im.fr {T:List TypeId} (hf:Fr T w w') (ht:5∉T) (x:Ev) (c:List Value) (h:im w x c):im w' x c:=by
 obtain ⟨P,e,h1⟩:=h;exact ⟨P,e,h1.fr hf ht⟩
theorem fD.fr {T:List TypeId} (hf:Fr T w w') (ht:5∉T) (hu:23∉T) (x:aA) (c:List Value) (h:fD B w x c):fD B w' x c:=by
 obtain ⟨P,V,H,U,e,h1,h2,h3,h4⟩:=h;exact ⟨P,V,H,U,e,h1.fr hf ht,h2.fr hf ht,h3.fr hf hu,h4.fr hf hu⟩
theorem aR.fr {T:List TypeId} (h:aR B0 B w v ns) (hf:Fr T w w') (ht:5∉T/\23∉T/\38∉T):aR B0 B w' v ns:=
 RT.fr h hf ht.2.2 (fD.fr hf ht.1 ht.2.1)
theorem tX.fr {T:List TypeId} {es:List Ev} (h:tX B w v es) (hf:Fr T w w') (ht:5∉T/\49∉T):tX B w' v es:=RT.fr h hf ht.2 (im.fr hf ht.1)
theorem de.fr {T:List TypeId} (h:de B w v ss Qs) (hf:Fr T w w') (ht:5∉T/\49∉T/\35∉T):de B w' v ss Qs:=
 ⟨h.len,RT.fr h.row hf ht.2.2 (fun _ _ h=>h),fun i s Q hs hq=>(h.xm i s Q hs hq).fr hf ⟨ht.1,ht.2.1⟩,h.pD⟩
theorem de.nil (B:Nat) (w:World):de B w (.slice none 0 0) [] []:=⟨rfl,RT.nil _ _ _ _ _,fun i s Q h=>by simp at h,fun i j Q Q' b _ h=>by simp at h⟩
theorem aR.put {g n cap:Nat} (h:aR B0 B w (.slice (some ⟨g,0,none⟩) n cap) ns) {nd:aA} (hx:ns[i]?=some nd) (hj:j<8) (u:Value) (nd':aA)
  (hn:∀ w' P V H U,TB w' P nd.path->TB w' V nd.value->TU B0 w' H nd.holders->TU B0 w' U nd.watchers->Fr [38] w w'->fD B0 w' nd' ([P,V,.int .u64 nd.owner,.int .i64 nd.mode,H,.int .u64 nd.aD,.int .u64 nd.gen,U].set j u)) :
  aR B0 B (w.setCell ⟨g,i*8+j,none⟩ u) (.slice (some ⟨g,0,none⟩) n cap) (ns.set i nd')/\Fr [38] w (w.setCell ⟨g,i*8+j,none⟩ u):=by
 obtain ⟨cur,hc⟩:=h.gS g rfl;have hf:Fr [38] w (w.setCell ⟨g,i*8+j,none⟩ u):=Fr.set hc (by simp);have t1:5∉[38]:=by decide
 have t2:23∉[38]:=by decide
 refine ⟨RT.put h hx hj u nd' (fD.fr hf t1 t2) (fun c _ he=>?_),hf⟩;obtain ⟨P,V,H,U,rfl,h1,h2,h3,h4⟩:=he;exact hn _ P V H U (h1.fr hf t1) (h2.fr hf t1) (h3.fr hf t2) (h4.fr hf t2) hf
theorem rA {α β:Type}:∀ (l:List α) (m:List β) (i:Nat) (a:α) (b:β),(l.zip m).set i (a,b)=(l.set i a).zip (m.set i b)
 | [],m,i,a,b=>by simp
 | x::l,[],i,a,b=>by cases i<;>simp
 | x::l,y::m,0,a,b=>by simp
 | x::l,y::m,i+1,a,b=>by simp [rA l m i a b]
theorem dX {α:Type} {l:List α} {a:α} (h:l[i]?=some a):l.set i a=l:=by
 obtain ⟨h1,h2⟩:=aJ.1 h;rw [<-h2,List.set_getElem_self]
theorem de.rR {g n cap:Nat} (h:de B w (.slice (some ⟨g,0,none⟩) n cap) ss Qs) (hx:ss[i]?=some s) {Q v':Value} (hQ:Qs[i]?=some Q) {q':List Ev}
  (yw:tX B w1 v' q') (hg:w.grownBy w1 Q.ownBlock) (j6:∀ b,v'.ownBlock=some b->Q.ownBlock=some b\/w.heap.size<=b) :
  de B (w1.setCell ⟨g,i*3+2,none⟩ v') (.slice (some ⟨g,0,none⟩) n cap) (ss.set i (s.1,s.2.1,q')) (Qs.set i v')/\Fr [49,35] w (w1.setCell ⟨g,i*3+2,none⟩ v'):=by
 have hi:=(aJ.1 hx).1;have f1:Fr [49] w w1:=Fr.grown hg fun b hb=>by obtain ⟨cur,hc⟩:=(h.xm i s Q hx hQ).gS b hb;exact ⟨cur,_,hc,by simp⟩
 have r1:RT jO 35 3 B w1 (.slice (some ⟨g,0,none⟩) n cap) (ss.zip Qs):=RT.fr h.row f1 (by decide) (fun _ _ h=>h);obtain ⟨cur,hc⟩:=r1.gS g rfl;have f2:Fr [35] w1 (w1.setCell ⟨g,i*3+2,none⟩ v'):=Fr.set hc (by simp);have hz:(ss.zip Qs)[i]?=some (s,Q):=by rw [List.getElem?_zip_eq_some];exact ⟨hx,hQ⟩
 have hold:∀ (k:Nat) (Q':Value) (b:Nat),i≠k->Qs[k]?=some Q'->Q'.ownBlock=some b->v'.ownBlock≠some b:=fun k Q' b hk hq hb e=>by rcases j6 b e with e | e;{exact h.pD i k Q Q' b hk hQ hq e hb};{obtain ⟨s',vZ⟩:∃ s',ss[k]?=some s':=⟨_,aE (by rw [<-h.len];exact (aJ.1 hq).1)⟩;have:=((h.xm k s' Q' vZ hq).lt b hb).2;omega}
 refine ⟨⟨by rw [List.length_set,List.length_set];exact h.len,?_,fun k s' Q' hs hq=>?_,fun k j Q1 Q2 b Z7 h1 h2 hb=>?_⟩,(f1.sub (by simp)).trans (f2.sub (by simp))⟩;{
 have:=RT.put r1 hz (j:=2) (by omega) v' ((s.1,s.2.1,q'),v') (fun _ _ h=>h) (fun c _ he=>by
  unfold jO at he ⊢;subst he
  rfl)
 rwa [rA] at this};{rw [List.getElem?_set] at hs hq;by_cases e:i=k;{subst e;rw [if_pos rfl,if_pos hi] at hs;rw [if_pos rfl,if_pos (by rw [h.len];exact hi)] at hq;cases hs;cases hq;exact tX.fr yw f2 (by decide)};{rw [if_neg e] at hs hq;have hk:=h.xm k s' Q' hs hq;refine tX.fr (RT.aM hk (im.fr f1 (by decide)) fun b hb=>hg.block b (hk.lt b hb).2 (fun e2=>h.pD i k Q Q' b e hQ hq e2.symm hb)) f2 (by decide)}};{rw [List.getElem?_set] at h1 h2;by_cases e:i=k;{subst e;rw [if_pos rfl,if_pos (by rw [h.len];exact hi)] at h1;rw [if_neg Z7] at h2;cases h1;exact fun e2=>hold j Q2 b Z7 h2 e2 hb};{rw [if_neg e] at h1;by_cases e':i=j;{subst e';rw [if_pos rfl,if_pos (by rw [h.len];exact hi)] at h2;cases h2;exact hold k Q1 b e h1 hb};{rw [if_neg e'] at h2;exact h.pD k j Q1 Q2 b Z7 h1 h2 hb}}}
theorem de.dl {g n cap:Nat} (h:de B w (.slice (some ⟨g,0,none⟩) n cap) ss Qs) (hx:ss[i]?=some s) (d:Int) :
  de B (w.setCell ⟨g,i*3+1,none⟩ (.int .i64 d)) (.slice (some ⟨g,0,none⟩) n cap) (ss.set i (s.1,d,s.2.2)) Qs/\Fr [35] w (w.setCell ⟨g,i*3+1,none⟩ (.int .i64 d)):=by
 obtain ⟨cur,hc⟩:=h.row.gS g rfl;have hf:Fr [35] w (w.setCell ⟨g,i*3+1,none⟩ (.int .i64 d)):=Fr.set hc (by simp);have hi:=(aJ.1 hx).1;obtain ⟨Q,hQ⟩:∃ Q,Qs[i]?=some Q:=⟨_,aE (by rw [h.len];exact hi)⟩;have hz:(ss.zip Qs)[i]?=some (s,Q):=by rw [List.getElem?_zip_eq_some];exact ⟨hx,hQ⟩
 refine ⟨⟨by rw [List.length_set];exact h.len,?_,fun k s' Q' hs hq=>?_,h.pD⟩,hf⟩;{
 have:=RT.put h.row hz (j:=1) (by omega) (.int .i64 d) ((s.1,d,s.2.2),Q) (fun _ _ h=>h) (fun c _ he=>by
  unfold jO at he ⊢;subst he
  rfl)
 rwa [rA,dX hQ] at this};{rw [List.getElem?_set] at hs;by_cases e:i=k;{subst e;rw [if_pos rfl,if_pos hi] at hs;cases hs;exact tX.fr (h.xm i s Q' hx hq) hf (by decide)};{rw [if_neg e] at hs;exact tX.fr (h.xm k s' Q' hs hq) hf (by decide)}}
open Go.Proofs.Tryz
theorem mO.rdu (h:mO B w v l):kL w v l:=by
 rcases h.2 with ⟨rfl,h0⟩ | ⟨g,cap,cur,rfl,hb,hg,hr⟩;{exact ⟨none,0,by rw [h0],.inl (List.length_eq_zero_iff.1 h0)⟩};{refine ⟨_,cap,rfl,.inr ⟨g,0,rfl,fun i hi=>?_⟩⟩;have:=World.ownsRow.cellAt h i (by omega);rw [Nat.zero_add,this];simp [List.getD_eq_getElem?_getD,hi]}
theorem kL.at {p:Option Addr} {n c:Nat} (h:kL w (.slice p n c) l) (hx:l[k]?=some x):∃ b o,p=some ⟨b,o,none⟩/\w.cell? ⟨b,o+k,none⟩=some (.int .u64 x):=by
 obtain ⟨p',c',e,hd⟩:=h;have hk:=(aJ.1 hx).1;rcases hd with h0 | ⟨b,o,h1,h2⟩;{rw [h0] at hk;simp at hk};{simp only [Value.slice.injEq] at e;have:=h2 k hk;rw [List.getD_eq_getElem?_getD,hx,Option.getD_some] at this;exact ⟨b,o,e.1.trans h1,this⟩}
theorem nj (hx:l[k]?=some x) (h:(l.take k).contains id=false) (bq:¬ x=id):(l.take (k+1)).contains id=false:=by
 rw [List.take_add_one,hx,List.contains_append,h];simpa using fun e:id=x=>bq e.symm
theorem qi (p:Option Addr) (c n:Nat) (l:List Int) (en:Hid (l.length=n)) (id:Int) (w:World) (h:kL w (.slice p n c) l) (hl:n<=1048576) (B:Bool) (eB:Hid (l.contains id=B)) :
  Calls prog 154 #[.slice p n c,.int .u64 id] w fun r w'=>r=.returned (.bool B)/\Below w.heap.size w w':=by
 have HR:=ae fun (w':World) (hb:Below w.heap.size w w')=>h.below hb;go_enter func154,ntmps154;go_wp2
 go_loopw [5] (fun iv wr=>∃ k:Nat,k<=n/\iv=.int .i64 k/\Hid ((l.take k).contains id=false)/\Hid (Below w.heap.size w wr)) (fun iv _=>n-(intOf iv).toNat)
 case atStart=>exact ⟨0,Nat.zero_le _,rfl,(by show _=_;simp),Below.refl _ _⟩
 case round =>(
 obtain ⟨k,hk,rfl,hc,aT⟩:=hrel;by_cases br:k<n;{
 have bt:(k:Int)<(n:Int):=by omega
 obtain ⟨x,hx⟩:∃ x,l[k]?=some x:=⟨_,aE (by rw [aa en];exact br)⟩;obtain ⟨b,o,rfl,uz⟩:=(aa HR _ aT).at hx;have HX:=ae hx;by_cases he:x=id;{
 subst he;have Bi:(x==x)=true:=by simp
 go_wp2;go_ret;refine ⟨?_,aT⟩;rw [<-aa eB,List.contains_iff_mem.2 (aF (aa HX))]
 rfl}
 {
 have cF:=ae (nj HX hc he);go_wp2;go_roundw
 case rel=>exact ⟨k+1,by omega,by go_num,cF,aT⟩
 case measure=>simp [intOf];omega}}
 {
 have bt:¬ (k:Int)<(n:Int):=by omega
 have fq:=aa hc;rw [List.take_of_length_le (by rw [aa en];omega),aa eB] at fq;subst fq;go_wp2;go_ret;exact ⟨rfl,aT⟩})
theorem JB (hx:l[k]?=some x):ju (l.take (k+1)) id=if x=id then ju (l.take k) id else ju (l.take k) id++[x]:=by
 rw [List.take_add_one,hx,ju,List.filter_append];by_cases h:x=id<;>simp [ju,h]
theorem kP (l:List Int) (id:Int):(ju l id).length<=l.length:=List.length_filter_le _ _
theorem mU (p:Option Addr) (c n:Nat) (l:List Int) (en:Hid (l.length=n)) (id:Int) (w:World) (h:kL w (.slice p n c) l) (hl:n<=1048576) :
  Calls prog 148 #[.slice p n c,.int .u64 id] w fun r w'=>∃ p' c',r=.returned (.slice p' (ju l id).length c')/\gi w.heap.size w' (.slice p' (ju l id).length c') (ju l id)/\Below w.heap.size w w':=by
 have HR:=ae fun (w':World) (hb:Below w.heap.size w w')=>h.below hb;go_enter func148,ntmps148;go_wp2
 go_loopw [5,6] (fun ov iv wr=>∃ (k:Nat) (L:List Int),k<=n/\iv=.int .i64 k/\Hid (ju (l.take k) id=L)/\Hid (gi w.heap.size wr ov L)/\Hid (Below w.heap.size w wr)) (fun _ iv _=>n-(intOf iv).toNat)
 case atStart=>exact ⟨0,[],Nat.zero_le _,rfl,(by show _=_;simp [ju]),(gi.nil _ _),Below.refl _ _⟩
 case round =>(
 obtain ⟨k,L,hk,rfl,hL,ho,aT⟩:=hrel;obtain ⟨pv,cv,rfl⟩:=ho.form;have zr:=aT.size;have KF:L.length<4194304:=by have h1:=kP (l.take k) id;have h2:=List.length_take_le k l;rw [aa hL] at h1;have:=aa en;omega
 by_cases br:k<n;{
 have bt:(k:Int)<(n:Int):=by omega
 obtain ⟨x,hx⟩:∃ x,l[k]?=some x:=⟨_,aE (by rw [aa en];exact br)⟩;obtain ⟨b,o,rfl,uz⟩:=(aa HR _ aT).at hx;have cF:=JB (id:=id) hx;rw [aa hL] at cF;have jQ:=ae cF;by_cases he:x=id;{
 subst he;have E1:Hid (ju (l.take (k+1)) x=L):=by have:=aa jQ;rwa [if_pos rfl] at this
 go_wp2;go_roundw
 case rel=>exact ⟨k+1,L,by omega,by go_num,E1,ho,aT⟩
 case measure=>simp [intOf];omega}
 {
 have E1:Hid (ju (l.take (k+1)) id=L++[x]):=by have:=aa jQ;rwa [if_neg he] at this
 go_wp2_with (at_builtin;refine dL rfl _ _ rfl w.heap.size (.slice pv L.length cv) L (L++[x]) x (ae rfl) wr.heap.size rfl rfl (gi.below (aa ho) (ay.alloc ax _)) (by simp) KF (by simp;omega) ?_);intro p' c' w' o2 dV;have bA:Below wr.heap.size wr (wr.alloc (.cells #[.int .u64 x] 23)):=ay.alloc ax _;have b4:=ae ((ai (aa aT) bA).grown dV (by simp;omega) (fun b' e=>(ho.lt b' e).1));have O2:=ae o2;go_wp2;go_roundw
 case rel=>exact ⟨k+1,L++[x],by omega,by go_num,E1,O2,b4⟩
 case measure=>simp [intOf];omega}}
 {
 have bt:¬ (k:Int)<(n:Int):=by omega
 have fq:=aa hL;rw [List.take_of_length_le (by rw [aa en];omega)] at fq;subst fq;go_wp2;go_ret;exact ⟨_,_,rfl,ho,aT⟩})
def rB (id:Int) (s:List Int × Bool) (x:Int):List Int × Bool:=if s.2=false/\id<=x then (if x=id then (s.1++[id],true) else (s.1++[id]++[x],true)) else (if x=id then s else (s.1++[x],s.2))
def EW (l:List Int) (id:Int):List Int × Bool:=l.foldl (rB id) ([],false)
theorem om (id:Int):∀ (l acc:List Int),l.foldl (rB id) (acc,true)=(acc++ju l id,true)
 | [],acc=>by simp [ju]
 | x::r,acc=>by rw [List.foldl_cons];by_cases h:x=id;{rw [show rB id (acc,true) x=(acc,true) by simp [rB,h],om id r acc];simp [ju,h]};{rw [show rB id (acc,true) x=(acc++[x],true) by simp [rB,h],om id r (acc++[x])];simp [ju,h]}
theorem NQ (l:List Int) (id:Int):(if (EW l id).2 then (EW l id).1 else (EW l id).1++[id])=jA l id:=by
 have key:∀ (l acc:List Int),(if (l.foldl (rB id) (acc,false)).2 then (l.foldl (rB id) (acc,false)).1 else (l.foldl (rB id) (acc,false)).1++[id])=acc++jA l id:=by
  intro l
  induction l with
  | nil=>intro acc;simp [jA]
  | cons x r ih=>
   intro acc;rw [List.foldl_cons,jA];by_cases h:id<=x;{by_cases e:x=id;{rw [show rB id (acc,false) x=(acc++[id],true) by simp [rB,e],om,if_pos h];simp [ju,e]};{rw [show rB id (acc,false) x=(acc++[id]++[x],true) by simp [rB,e,h],om,if_pos h];simp [ju,e]}};{
 have e:¬ x=id:=by omega
 rw [show rB id (acc,false) x=(acc++[x],false) by simp [rB,e,h],ih (acc++[x]),if_neg h];simp}
 have:=key l [];rw [List.nil_append] at this;exact this
theorem JC (hx:l[k]?=some x):EW (l.take (k+1)) id=rB id (EW (l.take k) id) x:=by
 rw [List.take_add_one,hx,EW,List.foldl_append]
 rfl
theorem JD (id:Int) (s:List Int × Bool) (x:Int):(rB id s x).1.length<=s.1.length+2:=by
 unfold rB;split<;>split<;>simp
theorem Ce (id:Int):∀ (l:List Int) (s:List Int × Bool),(l.foldl (rB id) s).1.length<=s.1.length+2*l.length
 | [],s=>by simp
 | x::r,s=>by have:=Ce id r (rB id s x);have:=JD id s x;rw [List.foldl_cons,List.length_cons];omega
theorem nM (p:Option Addr) (c n:Nat) (l:List Int) (en:Hid (l.length=n)) (id:Int) (w:World) (h:kL w (.slice p n c) l) (hl:n<=1048576) :
  Calls prog 136 #[.slice p n c,.int .u64 id] w fun r w'=>∃ p' c',r=.returned (.slice p' (jA l id).length c')/\gi w.heap.size w' (.slice p' (jA l id).length c') (jA l id)/\Below w.heap.size w w':=by
 have HR:=ae fun (w':World) (hb:Below w.heap.size w w')=>h.below hb;go_enter func136,ntmps136;go_wp2
 go_loopw [5,6,7] (fun ov dv iv wr=>∃ (k:Nat) (L:List Int) (d:Bool),k<=n/\iv=.int .i64 k/\dv=.bool d/\Hid (EW (l.take k) id=(L,d))/\Hid (gi w.heap.size wr ov L)/\Hid (Below w.heap.size w wr)) (fun _ _ iv _=>n-(intOf iv).toNat)
 case atStart=>exact ⟨0,[],false,Nat.zero_le _,rfl,rfl,(by show _=_;rfl),(gi.nil _ _),Below.refl _ _⟩
 case round =>(
 obtain ⟨k,L,d,hk,rfl,rfl,hL,ho,aT⟩:=hrel;obtain ⟨pv,cv,rfl⟩:=ho.form;have zr:=aT.size;have KF:L.length+1<4194304:=by have h1:=Ce id (l.take k) ([],false);have h2:=List.length_take_le k l;have h3:=aa hL;unfold EW at h3;rw [h3] at h1;have:=aa en;simp only [List.length_nil] at h1;omega
 by_cases br:k<n;{
 have bt:(k:Int)<(n:Int):=by omega
 obtain ⟨x,hx⟩:∃ x,l[k]?=some x:=⟨_,aE (by rw [aa en];exact br)⟩;obtain ⟨b,o,rfl,uz⟩:=(aa HR _ aT).at hx;have cF:=JC (id:=id) hx;rw [aa hL] at cF;have jQ:=ae cF;have HX:=ae hx;have AP:∀ (y:Int) (wz:World) (Lz:List Int) (pz:Option Addr) (cz:Nat),Hid (gi w.heap.size wz (.slice pz Lz.length cz) Lz)->Below w.heap.size w wz->Below wz.heap.size wz (wz.alloc (.cells #[.int .u64 y] 23)):=fun y wz Lz pz cz _ _=>ay.alloc ax _;by_cases hd:d=false/\id<=x;{
 obtain ⟨rfl,hix⟩:=hd;have aX3:decide (id<=x)=true:=by simpa using hix
 obtain ⟨L1,Is⟩:∃ L1,Hid (L1=L++[id]):=⟨_,ae rfl⟩;have lL1:=ae (by rw [aa Is];simp:L1.length=L.length+1);go_wp2_with (at_builtin;refine dL rfl _ _ rfl w.heap.size (.slice pv L.length cv) L L1 id Is wr.heap.size rfl rfl (gi.below (aa ho) (ay.alloc ax _)) (by simp) (by omega) (by simp;omega) ?_);intro p' c' w' o2 dV;have b4:=ae ((ai (aa aT) (AP id wr L pv cv ho (aa aT))).grown dV (by simp;omega) (fun b' e=>(ho.lt b' e).1));have O2:=ae o2;have z4:=b4.size;have aZ1:w'.cell? ⟨b,o+k,none⟩=some (.int .u64 x):=by obtain ⟨b',o',e',fq⟩:=(aa HR _ b4).at HX;simp only [Option.some.injEq,Addr.mk.injEq,and_true] at e';obtain ⟨rfl,rfl⟩:=e';exact fq
 by_cases he:x=id;{
 subst he;have E1:=ae (by have:=aa jQ;rw [aa Is];simpa [rB] using this:EW (l.take (k+1)) x=(L1,true));have Bi:(x != x)=false:=by simp
 go_wp2;go_roundw
 case rel=>exact ⟨k+1,L1,true,by omega,by go_num,rfl,E1,O2,b4⟩
 case measure=>simp [intOf];omega}
 {
 have E1:=ae (by have:=aa jQ;rw [aa Is];simpa [rB,he,hix] using this:EW (l.take (k+1)) id=(L1++[x],true));obtain ⟨L2,eL2⟩:∃ L2,Hid (L2=L1++[x]):=⟨_,ae rfl⟩;rw [<-aa eL2] at E1;go_wp2_with (at_builtin;refine dL rfl _ _ rfl w.heap.size (.slice p' L1.length c') L1 L2 x eL2 w'.heap.size rfl rfl (gi.below (aa O2) (ay.alloc ax _)) (by simp) (by have:=aa lL1;omega) (by simp;omega) ?_);intro p'' c'' w'' o3 qL;have b5:=ae ((ai (aa b4) (AP x w' _ p' c' O2 (aa b4))).grown qL (by simp;omega) (fun b' e=>(O2.lt b' e).1));have O3:=ae o3;go_wp2;go_roundw
 case rel=>exact ⟨k+1,_,true,by omega,by go_num,rfl,E1,O3,b5⟩
 case measure=>simp [intOf];omega}}
 {
 have hdd:(!d&&decide (id<=x))=false:=by cases d<;>simp_all
 have hd2:d=true\/¬ id<=x:=by cases d<;>simp_all
 by_cases he:x=id;{
 subst he;have hdt:d=true:=hd2.resolve_right (by omega);subst hdt;have E1:=ae (by have:=aa jQ;simpa [rB] using this:EW (l.take (k+1)) x=(L,true));have Bi:(x != x)=false:=by simp
 go_wp2;go_roundw
 case rel=>exact ⟨k+1,L,true,by omega,by go_num,rfl,E1,ho,aT⟩
 case measure=>simp [intOf];omega}
 {
 have E1:=ae (by have:=aa jQ;simpa [rB,he,hd] using this:EW (l.take (k+1)) id=(L++[x],d));obtain ⟨L1,Is⟩:∃ L1,Hid (L1=L++[x]):=⟨_,ae rfl⟩;rw [<-aa Is] at E1;have hdq:d=false->decide (id<=x)=false:=fun e=>by subst e;simpa using hd
 cases d;{
 have hix:=hdq rfl;go_wp2_with (at_builtin;refine dL rfl _ _ rfl w.heap.size (.slice pv L.length cv) L L1 x Is wr.heap.size rfl rfl (gi.below (aa ho) (ay.alloc ax _)) (by simp) (by omega) (by simp;omega) ?_);intro p' c' w' o2 dV;have b4:=ae ((ai (aa aT) (AP x wr L pv cv ho (aa aT))).grown dV (by simp;omega) (fun b' e=>(ho.lt b' e).1));have O2:=ae o2;go_wp2;go_roundw
 case rel=>exact ⟨k+1,_,false,by omega,by go_num,rfl,E1,O2,b4⟩
 case measure=>simp [intOf];omega}
 {
 go_wp2_with (at_builtin;refine dL rfl _ _ rfl w.heap.size (.slice pv L.length cv) L L1 x Is wr.heap.size rfl rfl (gi.below (aa ho) (ay.alloc ax _)) (by simp) (by omega) (by simp;omega) ?_);intro p' c' w' o2 dV;have b4:=ae ((ai (aa aT) (AP x wr L pv cv ho (aa aT))).grown dV (by simp;omega) (fun b' e=>(ho.lt b' e).1));have O2:=ae o2;go_wp2;go_roundw
 case rel=>exact ⟨k+1,_,true,by omega,by go_num,rfl,E1,O2,b4⟩
 case measure=>simp [intOf];omega}}}}
 {
 have bt:¬ (k:Int)<(n:Int):=by omega
 have fq:=aa hL;rw [List.take_of_length_le (by rw [aa en];omega)] at fq;have Zr:=NQ l id;rw [fq] at Zr;cases d;{obtain ⟨L1,Is⟩:∃ L1,Hid (L1=L++[id]):=⟨_,ae rfl⟩;have E1:=ae (by rw [aa Is];simpa using Zr.symm:jA l id=L1);go_wp2_with (at_builtin;refine dL rfl _ _ rfl w.heap.size (.slice pv L.length cv) L L1 id Is wr.heap.size rfl rfl (gi.below (aa ho) (ay.alloc ax _)) (by simp) (by omega) (by simp;omega) ?_);intro p' c' w' o2 dV;have b4:=ae ((ai (aa aT) ((Below.refl wr.heap.size wr).alloc ax _)).grown dV (by simp;omega) (fun b' e=>(ho.lt b' e).1));have O2:=ae o2;go_wp2;go_ret;rw [aa E1];exact ⟨_,_,rfl,O2,b4⟩};{have E1:=ae (by simpa using Zr.symm:jA l id=L);go_wp2;go_ret;rw [aa E1];exact ⟨_,_,rfl,ho,aT⟩}})
end Go.Proofs.YtcfcafeciggjeaaGreatDoor
