import Derived.Test.YtcfcafeciggjeaaGreatDoorK8
import Derived.Maps.RangeWalk
import Derived.Maps.Ext
import Derived.Sort.AssemblyPlain
import Derived.Sort.Row
namespace Go.Proofs.YtcfcafeciggjeaaGreatDoor
set_option maxHeartbeats 1600000
set_option linter.unusedVariables false
set_option linter.unusedSimpArgs false
set_option maxRecDepth 100000
open Go.ChangeShapes Go.WideShapes Go.ChangeAt Go.RowKit
open Go.Maps (Keyed IsMap)
variable {D:DataW Unit} {E p:Prop} {K:Act->World->Prop} {P:Program} {a:Act} {aB b off:Nat} {d:Array Int} {l s:List Int} {o:Oper} {ops:Array Oper} {ps:List MemPlace} {v:Value} {vs:List Value} {w w':World}
def aQ:Value->Option (DataW Unit × List MemPlace)
 | .pointer (some ⟨b,0,none⟩)=>some (.lit (.int .i64 b),[])
 | .pointer none=>some (.nil,[])
 | _=>none
theorem fS (h:aQ v=some (.lit (.int .i64 b),ps)):v=.pointer (some ⟨b,0,none⟩):=by
 unfold aQ at h;split at h;{simp only [Option.some.injEq,Prod.mk.injEq,DataW.lit.injEq,Lit.int.injEq,true_and,Int.natCast_inj] at h;rw [h.1]};{simp at h};{simp at h}
theorem ll (h:aQ v=some (.nil,ps)):v=.pointer none:=by
 unfold aQ at h;split at h;{simp at h};{rfl}
 {simp at h}
structure eh (D:DataW Unit) (l:List (Lit × Nat)):Prop where
 hs:∀ k,Maps.has D k=true↔∃ p∈l,p.1=k
 at':∀ p∈l,∀ z,D.atKey p.1 z=.lit (.int .i64 p.2)
theorem eh.nil:eh (.map []) []:=⟨fun k=>by simp [Maps.has],fun p hp=>by simp at hp⟩
theorem eh.put {l:List (Lit × Nat)} (h:eh D l) (hD:IsMap D) {k:Lit} (hk:WideAt.IsKeyLit k) (hn:∀ p∈l,p.1≠k) (g:Nat):eh (D.put k (.lit (.int .i64 g))) (l++[(k,g)]):=by
 refine ⟨fun k'=>?_,fun p hp z=>?_⟩;{by_cases e:k'=k;{subst e;simp [Maps.has_put_same hD hk]};{rw [Maps.has_put_other e,h.hs k'];constructor;{rintro ⟨p,hp,rfl⟩;exact ⟨p,by simp [hp],rfl⟩};{rintro ⟨p,hp,rfl⟩;rcases List.mem_append.1 hp with hp | hp;{exact ⟨p,hp,rfl⟩};{simp at hp;subst hp;exact absurd rfl e}}}};{rcases List.mem_append.1 hp with hp | hp;{rw [Maps.atKey_put_other (hn p hp)];exact h.at' p hp z};{simp at hp;subst hp;exact Maps.atKey_put_same hD hk _ _}}
def cI (D:DataW Unit) (s:List Int):Prop:=∀ k,Maps.has D k=true↔∃ i∈s,k=.int .u64 i
theorem cI.nil:cI (.map []) []:=fun k=>by simp [Maps.has]
theorem cI.put (h:cI D s) (hD:IsMap D) (i:Int) (d:DataW Unit):cI (D.put (.int .u64 i) d) (s++[i]):=by
 intro k';by_cases e:k'=.int .u64 i;{subst e;rw [Maps.has_put_same hD (by trivial)];simp};{rw [Maps.has_put_other e,h k'];constructor;{rintro ⟨j,hj,rfl⟩;exact ⟨j,by simp [hj],rfl⟩};{rintro ⟨j,hj,rfl⟩;rcases List.mem_append.1 hj with hj | hj;{exact ⟨j,hj,rfl⟩};{simp at hj;subst hj;exact absurd rfl e}}}
theorem cI.Sg (h:cI D s) (hD:IsMap D) (hk:∀ es,D=.map es->∀ p∈es,WideAt.IsKeyLit p.1):Maps.size D=0↔s=[]:=by
 obtain ⟨es,rfl⟩:=hD;constructor;{
 intro h0;have e0:es=[]:=List.length_eq_zero_iff.1 h0;subst e0;cases s with
 | nil=>rfl
 | cons i s=>
  have:=(h (.int .u64 i)).2 ⟨i,by simp,rfl⟩;simp [Maps.has] at this};{
 rintro rfl;cases es with
 | nil=>rfl
 | cons p es=>
  have:=(h p.1).1 (by rw [Maps.has_eq];simp [WideAt.sameKey_self (hk _ rfl p (by simp))]);simp at this}
section
variable {P:Program} (w:World) {ops:Array Oper} {rest:List Oper} {o:Oper} {a:Act} {Q:Exit->Act->World->Prop}
theorem fG {α:Type} (hg:o.guard=none) (it:Operand) (yx:o.op=Op.next it false) (k:TypeId) (K:Keyed P k) (WS:α->Value) (Zj:∀ key kl,keyOf P k key=some kl->∃ x,key=WS x)
  (b r n:Nat) (D:DataW Unit) (l:List (Lit × Nat)) (hM:eh D l) (left:Lit->Bool) (kc:Nat)
  (hit:a.eval it=.pointer (some ⟨r,0,none⟩)) (h:w.ranges P k aQ b r n D left kc)
  (Hw:kc=0->(∀ kl,left kl=false)->wpList P ops Q rest (a.put o.dst (.tuple #[.bool false])) w)
  (Hp:∀ (x:α) (p:Lit × Nat) (w':World) (xe:Nat),keyOf P k (WS x)=some p.1->p∈l->left p.1=true->w'.ranges P k aQ b r n D (fun z=>left z&&!z.sameKey p.1) xe->xe<kc →
   w.grownBy w' (some r)->w'.heap.size=w.heap.size->(Instr.entry (.pointer (some ⟨r,0,none⟩))).run P w'=.ok (.tuple #[WS x,.pointer (some ⟨p.2,0,none⟩)]) w'->wpList P ops Q rest (a.put o.dst (.tuple #[.bool true,WS x,.pointer (some ⟨p.2,0,none⟩)])) w') :
  wpList P ops Q (o::rest) a w:=by
 refine wpList_plain hg fun K' hK'=>?_;unfold Oper.wp;rcases h.next K o.type with ⟨h0,hl,du⟩ | ⟨key,v,kl,y,w',xe,dC,hlk,hv,fo,du,kK,br,wv,fI,wF⟩;{simp [execOp,yx,hit,du,Result.andThen];exact hK' _ _ (Hw h0 hl)};{
 obtain ⟨x,rfl⟩:=Zj key kl dC;obtain ⟨p,hp,rfl⟩:=(hM.hs kl).1 (Maps.has_true_of_atKey fo);have e1:y.1=.lit (.int .i64 p.2):=by rw [<-fo .nil];exact hM.at' p hp _
 obtain ⟨y1,y2⟩:=y;simp only at e1;subst e1;obtain rfl:=fS hv;simp [execOp,yx,hit,du,Result.andThen];exact hK' _ _ (Hp x p w' xe dC hp hlk kK br wv fI wF)}
theorem qS (hg:o.guard=none) (it:Operand) (yx:o.op=Op.next it false) (k:TypeId) (K:Keyed P k) (hk:P.underlying k=some (.int .u64))
  (b r n:Nat) (D:DataW Unit) (s:List Int) (hM:cI D s) (left:Lit->Bool) (kc:Nat)
  (hit:a.eval it=.pointer (some ⟨r,0,none⟩)) (h:w.ranges P k unitElem b r n D left kc)
  (Hw:kc=0->(∀ kl,left kl=false)->wpList P ops Q rest (a.put o.dst (.tuple #[.bool false])) w)
  (Hp:∀ (x:Int) (w':World) (xe:Nat),(Lit.int .u64 x).wf=true->x∈s->left (.int .u64 x)=true->w'.ranges P k unitElem b r n D (fun z=>left z&&!z.sameKey (.int .u64 x)) xe->xe<kc →
   w.grownBy w' (some r)->w'.heap.size=w.heap.size->(Instr.entry (.pointer (some ⟨r,0,none⟩))).run P w'=.ok (.tuple #[.int .u64 x,.agg #[]]) w'->wpList P ops Q rest (a.put o.dst (.tuple #[.bool true,.int .u64 x,.agg #[]])) w') :
  wpList P ops Q (o::rest) a w:=by
 refine wpList_plain hg fun K' hK'=>?_;unfold Oper.wp;rcases h.next K o.type with ⟨h0,hl,du⟩ | ⟨key,v,kl,y,w',xe,dC,hlk,hv,fo,du,kK,br,wv,fI,wF⟩;{simp [execOp,yx,hit,du,Result.andThen];exact hK' _ _ (Hw h0 hl)};{obtain ⟨x,rfl,rfl,To⟩:=Maps.keyOf_int_inv hk dC;obtain ⟨i,hi,ei⟩:=(hM _).1 (Maps.has_true_of_atKey fo);simp only [Lit.int.injEq,true_and] at ei;subst ei;obtain ⟨rfl,_⟩:=unitElem_inv hv;simp [execOp,yx,hit,du,Result.andThen];exact hK' _ _ (Hp x w' xe To hi hlk kK br wv fI wF)}
end
def bL (l:List Int):Lit:=.string (l.map fun n=>UInt8.ofNat n.toNat)
theorem iM {m:List Int} (hl:bQ l) (hm:bQ m) (h:bL l=bL m):l=m:=by
 simp only [bL,Lit.string.injEq] at h;exact map_inj hl hm h
theorem iJ (l:List Int):Lit.string (aY l).data.toList=bL l:=by rw [<-ByteArray.toList_eq,dE];rfl
theorem Gz {s:ByteArray} (h:Lit.string s.data.toList=bL l):s=aY l:=by
 rw [<-iJ] at h;simp only [Lit.string.injEq] at h;cases s with | mk d=>cases hb:aY l with | mk d'=>(rw [hb] at h;simp only at h;congr;exact Array.toList_inj.1 h)
theorem ah (h:w'.heap[b]?=w.heap[b]?) (o:Nat):w'.cell? ⟨b,o,none⟩=w.cell? ⟨b,o,none⟩:=by
 unfold World.cell?;rw [h]
def al (w:World) (b:Nat) (vs:List Value):Prop:=(∀ i v,vs[i]?=some v->w.cell? ⟨b,i,none⟩=some v)/\∀ o,w.frozen? ⟨b,o,none⟩=false
theorem al.alloc (w:World) (cs:Array Value) (t:TypeId):al (w.alloc (.cells cs t)) w.heap.size cs.toList:=by
 refine ⟨fun i v h=>?_,fun o=>?_⟩;{rw [Array.getElem?_toList] at h;simp [h]};{simp [go_sem]}
theorem al.below (h:al w b vs) (hb:b<w.heap.size) (Bk:Below w.heap.size w w'):al w' b vs:=
 ⟨fun i v hi=>(Bk.cell (p:=⟨b,i,none⟩) hb).trans (h.1 i v hi),fun o=>(Bk.frozen (p:=⟨b,o,none⟩) hb).trans (h.2 o)⟩
theorem al.pD (h:al w b vs) {a:Addr} (ha:b≠a.block) (u:Value):al (w.setCell a u) b vs:=by
 have hh:(w.setCell a u).heap[b]?=w.heap[b]?:=dt _ _ _ _ ha;refine ⟨fun i v hi=>(ah hh _).trans (h.1 i v hi),fun o=>?_⟩;have:(w.setCell a u).frozen? ⟨b,o,none⟩=w.frozen? ⟨b,o,none⟩:=World.frozen?_of_block hh;rw [this];exact h.2 o
theorem al.da (h:al w b vs) (j:Nat) (hj:j<vs.length) (u:Value):al (w.setCell ⟨b,j,none⟩ u) b (vs.set j u):=by
 have hc:=h.1 j _ (aE hj);refine ⟨fun i v hi=>?_,fun o=>by simp [h.2 o]⟩;by_cases e:j=i;{subst e;rw [List.getElem?_set_self hj] at hi;cases hi;exact World.cell?_setCell_same _ _ _ hc};{rw [ak5 e] at hi;have:=h.1 i v hi;simp [go_sem,e,this]}
theorem mQ (w:World) (base:Nat) (t ty e:TypeId) (i:TypeInfo) (z:Value) (size bytes:Nat) (ht:P.underlying t=some (.slice e)) (hi:P.info? e=some i) (hz:i.zero=some z)
  (oV:i.size=size) (fK:i.bytes=bytes) (Mx:z.cells.size=size) (fI:0<size)
  (v:Value) (n:Nat) (xs:List Value) (bj:w.ownsRow base e size v n xs)
  (a:Addr) (m c:Nat) (news:List Value) (hl:news.length=m*size) (dR:∀ j u,news[j]?=some u->w.cell? (a.add j)=some u) (h1:∀ u∈news,u.oneCell'=true)
  (Jl:n+m<=maxLen) (jr:(n+m)*bytes<=140737488355328) (pr:base<=w.heap.size) :
  ∃ v' w',(Builtin.append_ #[t,t] ty #[v,.slice (some a) m c]).run P w=.ok v' w'/\w'.ownsRow base e size v' (n+m) (xs++news)/\w.grownBy w' v.ownBlock/\∀ g,v'.ownBlock=some g->v.ownBlock=some g\/w.heap.size<=g:=by
 obtain ⟨v',w',hr,h2,h3,-⟩:=run_append_own (P:=P) w base t ty e i z size bytes ht hi hz oV fK Mx fI v n xs bj a m c news hl dR h1 Jl jr pr;refine ⟨v',w',hr,h2,h3,fun g' MM=>?_⟩;rcases id bj.2 with ⟨rfl,rfl⟩ | ⟨g,cap,cur,rfl,Uz,hg,Ky,wN,CM,Ts⟩;{have hx:xs=[]:=List.eq_nil_of_length_eq_zero (by simpa using bj.1);subst hx;obtain ⟨v2,w2,tL,k2,-,-⟩:=run_append_own (P:=P) w w.heap.size t ty e i z size bytes ht hi hz oV fK Mx fI (.slice none 0 0) 0 [] (World.ownsRow_nil w _ e size) a m c news hl dR h1 Jl jr ax;rw [hr] at tL;simp only [Result.ok.injEq] at tL;obtain ⟨rfl,rfl⟩:=tL;exact .inr (k2.lt g' MM).1};{
 subst oV;subst fK;by_cases oW:n+m<=cap;{
 have Pp:n*i.size+news.length<=cur.size:=by rw [hl,CM,<-Nat.add_mul];exact Nat.mul_le_mul_right _ oW
 rw [run_append_room (P:=P) w t ty e i ht hi g n cap cur hg a m c news hl dR h1 oW Pp] at hr;simp only [Result.ok.injEq] at hr;obtain ⟨rfl,-⟩:=hr;exact .inl MM};{have holds:∀ j u,xs[j]?=some u->w.cell? ((⟨g,0,none⟩:Addr).add j)=some u:=bj.cells (g:=g) rfl;rw [run_append_grow (P:=P) w t ty e i z ht hi hz ⟨g,0,none⟩ n cap xs bj.1 holds a m c news hl dR (by omega) (by simp only [maxLen] at Jl;omega) (growslice_fits (by omega) jr)] at hr;simp only [Result.ok.injEq] at hr;obtain ⟨rfl,-⟩:=hr;simp only [Value.ownBlock,Option.some.injEq] at MM;exact .inr (by omega)}}
theorem gI {rest:List Oper} {Q:Exit->Act->World->Prop} (jw:o.guard=none) (s x:Operand) (t:TypeId)
  (ho:o.op=.call { callee:=.builtin .append,args:=#[s,x],argTypes:=#[t,t] })
  (base:Nat) (e:TypeId) (i:TypeInfo) (z:Value) (size bytes:Nat) (ht:P.underlying t=some (.slice e)) (hi:P.info? e=some i) (hz:i.zero=some z)
  (oV:i.size=size) (fK:i.bytes=bytes) (Mx:z.cells.size=size) (fI:0<size)
  (v:Value) (n:Nat) (xs:List Value) (hs:a.eval s=v) (bj:w.ownsRow base e size v n xs)
  (g m c:Nat) (news:List Value) (hx:a.eval x=.slice (some ⟨g,0,none⟩) m c) (hl:news.length=m*size) (dR:∀ j u,news[j]?=some u->w.cell? ⟨g,j,none⟩=some u) (h1:∀ u∈news,u.oneCell'=true)
  (Jl:n+m<=maxLen) (jr:(n+m)*bytes<=140737488355328) (pr:base<=w.heap.size)
  (h:∀ v' w',w'.ownsRow base e size v' (n+m) (xs++news)->w.grownBy w' v.ownBlock->(∀ g,v'.ownBlock=some g->v.ownBlock=some g\/w.heap.size<=g)->wpList P ops Q rest (a.put o.dst v') w'):wpList P ops Q (o::rest) a w:=by
 obtain ⟨v',w',hr,h2,h3,h4⟩:=mQ (P:=P) w base t o.type e i z size bytes ht hi hz oV fK Mx fI v n xs bj ⟨g,0,none⟩ m c news hl (fun j u hu=>by rw [Addr.add_lit,Nat.zero_add];exact dR j u hu) h1 Jl jr pr;exact Lib.wpList_append_run w jw s x t t ho _ _ hs hx _ _ hr (h v' w' h2 h3 h4)
theorem dU {Q:Exit->Act->World->Prop} (jw:o.guard=none) (s x:Operand) (t:TypeId)
  (ho:o.op=.call { callee:=.builtin .append,args:=#[s,x],argTypes:=#[t,t] })
  (base:Nat) (e:TypeId) (i:TypeInfo) (z:Value) (size bytes:Nat) (ht:P.underlying t=some (.slice e)) (hi:P.info? e=some i) (hz:i.zero=some z)
  (oV:i.size=size) (fK:i.bytes=bytes) (Mx:z.cells.size=size) (fI:0<size)
  (v:Value) (n:Nat) (xs:List Value) (hs:a.eval s=v) (bj:w.ownsRow base e size v n xs)
  (g m c:Nat) (news:List Value) (hx:a.eval x=.slice (some ⟨g,0,none⟩) m c) (hl:news.length=m*size) (dR:∀ j u,news[j]?=some u->w.cell? ⟨g,j,none⟩=some u) (h1:∀ u∈news,u.oneCell'=true)
  (Jl:n+m<=maxLen) (jr:(n+m)*bytes<=140737488355328) (pr:base<=w.heap.size)
  (h:∀ v' w',w'.ownsRow base e size v' (n+m) (xs++news)->w.grownBy w' v.ownBlock->(∀ g,v'.ownBlock=some g->v.ownBlock=some g\/w.heap.size<=g)->K (a.put o.dst v') w') :
  if Region.wanted o (yielded ops a.tmps)=true then Oper.wp P o a w K Q else E:=by
 have hw:Region.wanted o (yielded ops a.tmps)=true:=by simp [Region.wanted,jw]
 rw [if_pos hw];obtain ⟨v',w',hr,h2,h3,h4⟩:=mQ (P:=P) w base t o.type e i z size bytes ht hi hz oV fK Mx fI v n xs bj ⟨g,0,none⟩ m c news hl (fun j u hu=>by rw [Addr.add_lit,Nat.zero_add];exact dR j u hu) h1 Jl jr pr;exact Lib.wp_append_run w s x t t ho _ _ hs hx _ _ hr (h v' w' h2 h3 h4)
structure SD where
 e:Int
 g:Int
 x:Int
 t:Int
 ss:List aL
 ns:List aA
def ju (ids:List Int) (id:Int):List Int:=ids.filter fun x=>!(x==id)
def jA:List Int->Int->List Int
 | [],id=>[id]
 | x::r,id=>if id<=x then id::ju (x::r) id else x::jA r id
def fx (q:List Ev) (ev:Ev):List Ev:=if q.length<7 then q++[ev] else if q.length=7 then q++[(4,[])] else q
def jf (ss:List aL) (id:Int) (ev:Ev):List aL:=ss.map fun s=>if s.1=id then (s.1,s.2.1,fx s.2.2 ev) else s
def gH (ss:List aL) (ids:List Int) (ev:Ev):List aL:=ids.foldl (fun ss id=>jf ss id ev) ss
def cX (D:SD) (k:Nat) (kind:Int):SD:=match D.ns[k]? with
 | none=>D
 | some nd=>{ D with ss:=gH D.ss nd.watchers (kind,nd.path),ns:=D.ns.set k { nd with watchers:=[] } }
def zO (D:SD) (k:Nat):SD:={ D with ns:=D.ns.eraseIdx k }
def cE (D:SD) (k:Nat) (id:Int):SD:=match D.ns[k]? with
 | none=>D
 | some nd=>if nd.holders.contains id then (if ju nd.holders id=[] then cX { D with ns:=D.ns.set k { nd with holders:=[],mode:=0,aD:=0,gen:=0 } } k 3 else { D with ns:=D.ns.set k { nd with holders:=ju nd.holders id } }) else D
namespace Q
open Go.Sort Go.Proofs.Tryz
theorem ae (h:p):Hid p:=h
theorem aa (h:Hid p):p:=h
abbrev HU (w:World) (aB off:Nat) (d:Array Int):Prop:=Holds (fun x:Int=>Value.int .u64 x) w aB off d
theorem je (w:World) (row:Option Nat):w.grownBy w row:=⟨rfl,rfl,rfl,Nat.le_refl _,fun _ _ _=>rfl⟩
theorem aG {w1 w2:World} {row:Option Nat} (h:w.grownBy w1 row) (k:w1.grownBy w2 row):w.grownBy w2 row:=
 ⟨k.os.trans h.os,k.tape.trans h.tape,k.output.trans h.output,Nat.le_trans h.size k.size,fun i hi bq=>(k.block i (Nat.lt_of_lt_of_le hi h.size) bq).trans (h.block i hi bq)⟩
theorem az (w:World) (b o:Nat) (v:Value):w.grownBy (w.setCell ⟨b,o,none⟩ v) (some b):=
 ⟨rfl,rfl,rfl,by simp,fun i _ bq=>dt _ _ _ _ (fun e=>bq (by rw [e]))⟩
theorem ao {row:Option Nat} (h:w.grownBy w' row):w.grownBy w'.drew row:=⟨h.os,h.tape,h.output,h.size,h.block⟩
theorem HU.swap (h:HU w aB off d) {i j:Nat} (hi:i<d.size) (hj:j<d.size) {x y:Int} (hx:x=d[j]!) (hy:y=d[i]!) :
  HU ((w.setCell ⟨aB,off+i,none⟩ (.int .u64 x)).setCell ⟨aB,off+j,none⟩ (.int .u64 y)) aB off (swp d i j):=by
 subst hx hy;have e:=putRow_self (fun x:Int=>Value.int .u64 x) w aB off d h;have e2:=putRow_swp (fun x:Int=>Value.int .u64 x) w aB off d i j hi hj;rw [e] at e2;show Holds _ _ _ _ _;rw [e2];exact holds_putRow _ w aB off d _ h (by rw [size_swp])
theorem fu {p q:Addr} {t u:Value} (h:w.cell? p=some t):∃ s,(w.setCell q u).cell? p=some s:=by
 by_cases e:q=p;{subst e;exact ⟨u,World.cell?_setCell_same _ _ _ h⟩};{exact ⟨t,(World.cell?_setCell_other _ _ _ _ e).trans h⟩}
theorem HU.drew (h:HU w aB off d):HU w.drew aB off d:=h
theorem HU.kept (h:HU w aB off d) (hb:w'.heap[aB]?=w.heap[aB]?):HU w' aB off d:=fun j hj=>
 ⟨(World.cell?_of_block (a:=⟨aB,off+j,none⟩) hb).trans (h j hj).1,(World.frozen?_of_block (a:=⟨aB,off+j,none⟩) hb).trans (h j hj).2⟩
theorem Kd (x:Int) (w:World):Calls prog 157 #[.int .u64 x] w fun e w'=>e=.returned (.bool false)/\w'=w:=by
 go_enter func157,ntmps157;go_wp2;go_ret;exact ⟨by simp,rfl⟩
theorem dy (x y:Int) (w:World):Calls prog 191 #[.int .u64 x,.int .u64 y] w fun e w'=>e=.returned (.bool (ltInt x y))/\w'=w:=by
 go_enter func191,ntmps191;go_wp2_with fail;refine (Kd x w).mono ?_;rintro e w' ⟨rfl,rfl⟩;go_wp2;go_ret;exact ⟨rfl,rfl⟩
theorem dz (vs:Array Value) (w:World):(callFunc 191 vs).run prog w=.ok (.enter 191 vs) w:=by kernel_rfl
theorem bR {Q:Exit->Act->World->Prop} {R:Ending->World->Prop} (hw:Region.wanted o (yielded ops a.tmps)=true) (f:FuncId) (x1 x2:Operand) (An:Array TypeId)
  (ho:o.op=.call { callee:=.value (.func f),args:=#[x1,x2],argTypes:=An }) (v1 v2:Value) (h1:a.eval x1=v1) (h2:a.eval x2=v2) (sP:∀ vs,(callFunc f vs).run P w=.ok (.enter f vs) w) (hc:Calls P f #[v1,v2] w R) (hR:∀ e w',R e w'->∃ v,e=.returned v/\K (a.put o.dst v) w') :
  if Region.wanted o (yielded ops a.tmps)=true then Oper.wp P o a w K Q else E:=by
 rw [if_pos hw];have du:(execOp a.eval o).run P w=.ok (.enter f #[v1,v2]) w:=by subst h1 h2;unfold execOp;simp [go_sem,ho,resolve,invoke,sP]
 show o.upon P a K Q _;rw [du,Oper.upon_enter];refine hc.mono ?_;intro e w' h;obtain ⟨v,rfl,hk⟩:=hR e w' h;exact hk
theorem JX (aB off cap N a b:Nat) (d:Array Int) (hN:Hid (d.size=N)) (w:World) (h:HU w aB off d) (Bo:a<=b) (hb:b<=N) (fI:N<=1048576) :
  Calls prog 189 #[.slice (some ⟨aB,off,none⟩) N cap,.int .i64 a,.int .i64 b] w fun e w'=>e=.returned (.tuple #[])/\HU w' aB off (reverseRange d a b)/\w.grownBy w' (some aB):=by
 obtain ⟨D,eD⟩:=aN (reverseRange d a b);rw [eD];have ED:Hid (reverseLoop a (b-1) d=D):=eD;clear eD;have H0:=ae h;clear h;go_enter func189,ntmps189;go_wp2_with fail
 go_loopw [6,7] (fun s6 s7 wr=>∃ (i jn:Nat) (jz:Int) (dk:Array Int),s6=.int .i64 i/\s7=.int .i64 jz/\jz<=1048576/\-1<=jz/\i<=1048577/\Hid ((i:Int)<jz->jz=jn/\jn<N)/\Hid (¬ (i:Int)<jz->¬ i<jn)/\Hid (dk.size=N)/\Hid (HU wr aB off dk)/\Hid (reverseLoop i jn dk=D)/\Hid (w.grownBy wr (some aB))) (fun s6 s7 _=>(intOf s7-intOf s6).toNat)
 case atStart=>exact ⟨a,b-1,(b:Int)-1,d,rfl,by first | rfl | go_num,by omega,by omega,by omega,fun h=>⟨by omega,by omega⟩,(fun h=>by omega),hN,H0,ED,je _ _⟩
 case round =>(
 obtain ⟨i,jn,jz,dk,rfl,rfl,q1,q2,q3,h1,h2,pj,sS,heq,hg⟩:=hrel;by_cases br:(i:Int)<jz;{
 obtain ⟨ej,hjn⟩:=aa h1 br;subst ej;have ic:i<jn:=by omega
 have wG:=aa pj;obtain ⟨ci,fi⟩:=aa sS i (by omega);obtain ⟨cj,fj⟩:=aa sS jn (by omega);obtain ⟨y,ey⟩:∃ y,dk[i]! = y:=⟨_,rfl⟩;obtain ⟨z,ez⟩:∃ z,dk[jn]! = z:=⟨_,rfl⟩;have CF:=ae (sS.swap (i:=i) (j:=jn) (by omega) (by omega) ez.symm ey.symm);rw [ey] at ci;rw [ez] at cj;have hq:=aa heq;rw [reverseLoop,if_pos ic] at hq;have HQ:=ae hq;have rN:Hid ((swp dk i jn).size=N):=by show _=_;rw [size_swp];exact wG
 have HG:=ae (aG (aG hg (az wr aB (off+i) (.int .u64 z))) (az _ aB (off+jn) (.int .u64 y)));have i1:(jn:Int)<(N:Int):=by omega
 have i2:(i:Int)<(N:Int):=by omega
 have i3:(0:Int)<=(jn:Int):=by omega
 clear h1 h2 sS heq hg ey ez hq wG;go_wp2_with fail
 go_region
 go_wp2;go_roundw
 case rel=>exact ⟨i+1,jn-1,(jn:Int)-1,swp dk i jn,by go_num,by first | rfl | go_num,by omega,by omega,by omega,fun h=>⟨by omega,by omega⟩,(fun h=>by omega),rN,CF.drew,HQ,ao HG⟩
 case measure=>simp [intOf];omega}
 {
 have ZL:=aa h2 br;have hq:=aa heq;rw [reverseLoop,if_neg ZL] at hq;subst hq;go_wp2
 go_end0
 exact ⟨rfl,sS,hg⟩})
end Q
end Go.Proofs.YtcfcafeciggjeaaGreatDoor
