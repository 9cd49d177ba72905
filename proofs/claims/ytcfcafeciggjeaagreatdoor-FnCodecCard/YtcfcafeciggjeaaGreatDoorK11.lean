import Derived.Test.YtcfcafeciggjeaaGreatDoorK9
import Derived.Maps.RangeWalk
import Derived.Maps.Ext
import Derived.Sort.AssemblyPlain
import Derived.Sort.Row
namespace Go.Proofs.YtcfcafeciggjeaaGreatDoor
set_option maxHeartbeats 1600000
set_option linter.all false
set_option maxRecDepth 100000
set_option linter.unusedVariables false
open Go.ChangeShapes Go.WideShapes Go.ChangeAt Go.RowKit
open Go.Maps (Keyed IsMap)
variable {D:DataW Unit} {E p:Prop} {K:Act->World->Prop} {P:Program} {a:Act} {b:Nat} {d:Array Int} {l s:List Int} {o:Oper} {ops:Array Oper} {ps:List MemPlace} {v:Value} {vs:List Value}
def aZ:Value->Option (DataW Unit × List MemPlace)
 | .pointer (some ⟨b,0,none⟩)=>some (.lit (.int .i64 b),[])
 | .pointer none=>some (.nil,[])
 | _=>none
theorem iB (h:aZ v=some (.lit (.I b),ps)):v=.pointer (some ⟨b,0,none⟩):=by
 unfold aZ at h;split at h;{simp only [Option.some.injEq,Prod.mk.injEq,DataW.lit.injEq,Lit.int.injEq,true_and,Int.natCast_inj] at h;rw [h.1]};{simp at h};{simp at h}
theorem ox (h:aZ v=some (.nil,ps)):v=.pointer none:=by
 unfold aZ at h;split at h;{simp at h};{rfl}
 {simp at h}
structure MapTo (D:DataW Unit) (l:List (Lit × Nat)):Prop where
 hs:∀ k,Maps.has D k=true↔∃ p∈l,p.1=k
 at':∀ p∈l,∀ z,D.atKey p.1 z=.lit (.I p.2)
theorem MapTo.nil:MapTo (.map []) []:=⟨fun k=>by simp [Maps.has],fun p hp=>by simp at hp⟩
theorem MapTo.put {l:List (Lit × Nat)} (h:MapTo D l) (hD:IsMap D) {k:Lit} (hk:WideAt.IsKeyLit k) (hn:∀ p∈l,p.1≠k) (g:Nat):MapTo (D.put k (.lit (.I g))) (l++[(k,g)]):=by
 refine ⟨fun k'=>?_,fun p hp z=>?_⟩;{by_cases e:k'=k;{subst e;simp [Maps.has_put_same hD hk]};{rw [Maps.has_put_other e,h.hs k'];constructor;{rintro ⟨p,hp,rfl⟩;exact ⟨p,by simp [hp],rfl⟩};{rintro ⟨p,hp,rfl⟩;rcases List.mem_append.1 hp with hp | hp;{exact ⟨p,hp,rfl⟩};{simp at hp;subst hp;exact absurd rfl e}}}};{rcases List.mem_append.1 hp with hp | hp;{rw [Maps.atKey_put_other (hn p hp)];exact h.at' p hp z};{simp at hp;subst hp;exact Maps.atKey_put_same hD hk _ _}}
def db (D:DataW Unit) (s:List Int):Prop:=∀ k,Maps.has D k=true↔∃ i∈s,k=.U i
theorem db.nil:db (.map []) []:=fun k=>by simp [Maps.has]
theorem db.put (h:db D s) (hD:IsMap D) (i:Int) (d:DataW Unit):db (D.put (.U i) d) (s++[i]):=by
 intro k';by_cases e:k'=.U i;{subst e;rw [Maps.has_put_same hD (by trivial)];simp};{rw [Maps.has_put_other e,h k'];constructor;{rintro ⟨j,hj,rfl⟩;exact ⟨j,by simp [hj],rfl⟩};{rintro ⟨j,hj,rfl⟩;rcases List.mem_append.1 hj with hj | hj;{exact ⟨j,hj,rfl⟩};{simp at hj;subst hj;exact absurd rfl e}}}
theorem db.Y9 (h:db D s) (hD:IsMap D) (hk:∀ es,D=.map es->∀ p∈es,WideAt.IsKeyLit p.1):Maps.size D=0↔s=[]:=by
 obtain ⟨es,rfl⟩:=hD;constructor;{
 intro h0;have e0:es=[]:=List.length_eq_zero_iff.1 h0;subst e0;cases s with
 | nil=>rfl
 | cons i s=>
  have:=(h (.U i)).2 ⟨i,aU,rfl⟩;simp [Maps.has] at this};{
 rintro rfl;cases es with
 | nil=>rfl
 | cons p es=>
  have:=(h p.1).1 (by rw [Maps.has_eq];simp [WideAt.sameKey_self (hk _ rfl p aU)]);simp at this}
section
variable {P:Program} (w:World) {ops:Array Oper} {rest:List Oper} {o:Oper} {a:Act} {Q:Exit->Act->World->Prop}
theorem ir {α:Type} (hg:o.guard=none) (it:Operand) (hop:o.op=Op.next it false) (k:TypeId) (K:Keyed P k) (mkK:α->Value) (aH1:∀ key kl,keyOf P k key=some kl->∃ x,key=mkK x)
  (b r n:Nat) (D:DataW Unit) (l:List (Lit × Nat)) (hM:MapTo D l) (left:Lit->Bool) (mV:Nat)
  (hit:a.eval it=.pointer (some ⟨r,0,none⟩)) (h:w.ranges P k aZ b r n D left mV)
  (MV:mV=0->(∀ kl,left kl=false)->wpList P ops Q rest (a.put o.dst (.tuple #[.bool false])) w)
  (MQ:∀ (x:α) (p:Lit × Nat) (w':World) (BI:Nat),keyOf P k (mkK x)=some p.1->p∈l->left p.1=true->w'.ranges P k aZ b r n D (fun z=>left z&&!z.sameKey p.1) BI->BI<mV →
   w.grownBy w' (some r)->w'.heap.size=w.heap.size->(Instr.entry (.pointer (some ⟨r,0,none⟩))).run P w'=.ok (.tuple #[mkK x,.pointer (some ⟨p.2,0,none⟩)]) w'->wpList P ops Q rest (a.put o.dst (.tuple #[.bool true,mkK x,.pointer (some ⟨p.2,0,none⟩)])) w') :
  wpList P ops Q (o::rest) a w:=by
 refine wpList_plain hg fun K' hK'=>?_;unfold Oper.wp;rcases h.next K o.type with ⟨h0,hl,cK⟩ | ⟨key,v,kl,y,w',BI,kp,hlk,hv,gS,cK,nM,bj,yb,il,Bk⟩;{simp [execOp,hop,hit,cK,Result.andThen];exact hK' _ _ (MV h0 hl)};{
 obtain ⟨x,rfl⟩:=aH1 key kl kp;obtain ⟨p,hp,rfl⟩:=(hM.hs kl).1 (Maps.has_true_of_atKey gS);have e1:y.1=.lit (.I p.2):=by rw [<-gS .nil];exact hM.at' p hp _
 obtain ⟨y1,y2⟩:=y;simp only at e1;subst e1;obtain rfl:=iB hv;simp [execOp,hop,hit,cK,Result.andThen];exact hK' _ _ (MQ x p w' BI kp hp hlk nM bj yb il Bk)}
theorem uO (hg:o.guard=none) (it:Operand) (hop:o.op=Op.next it false) (k:TypeId) (K:Keyed P k) (hk:P.underlying k=some (.int .u64))
  (b r n:Nat) (D:DataW Unit) (s:List Int) (hM:db D s) (left:Lit->Bool) (mV:Nat)
  (hit:a.eval it=.pointer (some ⟨r,0,none⟩)) (h:w.ranges P k unitElem b r n D left mV)
  (MV:mV=0->(∀ kl,left kl=false)->wpList P ops Q rest (a.put o.dst (.tuple #[.bool false])) w)
  (MQ:∀ (x:Int) (w':World) (BI:Nat),(Lit.U x).wf=true->x∈s->left (.U x)=true->w'.ranges P k unitElem b r n D (fun z=>left z&&!z.sameKey (.U x)) BI->BI<mV →
   w.grownBy w' (some r)->w'.heap.size=w.heap.size->(Instr.entry (.pointer (some ⟨r,0,none⟩))).run P w'=.ok (.tuple #[.U x,.agg #[]]) w'->wpList P ops Q rest (a.put o.dst (.tuple #[.bool true,.U x,.agg #[]])) w') :
  wpList P ops Q (o::rest) a w:=by
 refine wpList_plain hg fun K' hK'=>?_;unfold Oper.wp;rcases h.next K o.type with ⟨h0,hl,cK⟩ | ⟨key,v,kl,y,w',BI,kp,hlk,hv,gS,cK,nM,bj,yb,il,Bk⟩;{simp [execOp,hop,hit,cK,Result.andThen];exact hK' _ _ (MV h0 hl)};{obtain ⟨x,rfl,rfl,ZQ⟩:=Maps.keyOf_int_inv hk kp;obtain ⟨i,hi,ei⟩:=(hM _).1 (Maps.has_true_of_atKey gS);simp only [Lit.int.injEq,true_and] at ei;subst ei;obtain ⟨rfl,_⟩:=unitElem_inv hv;simp [execOp,hop,hit,cK,Result.andThen];exact hK' _ _ (MQ x w' BI ZQ hi hlk nM bj yb il Bk)}
end
def bN (l:List Int):Lit:=.string (l.map fun n=>UInt8.ofNat n.toNat)
theorem jD {m:List Int} (hl:bM l) (hm:bM m) (h:bN l=bN m):l=m:=by
 simp only [bN,Lit.string.injEq] at h;exact map_inj hl hm h
theorem kq (l:List Int):Lit.string (aC l).data.toList=bN l:=by rw [<-ByteArray.toList_eq,dR];rfl
theorem LF {s:ByteArray} (h:Lit.string s.data.toList=bN l):s=aC l:=by
 rw [<-kq] at h;simp only [Lit.string.injEq] at h;cases s with | mk d=>cases hb:aC l with | mk d'=>(rw [hb] at h;simp only at h;congr;exact Array.toList_inj.1 h)
theorem ai {w w':World} (h:w'.heap[b]?=w.heap[b]?) (o:Nat):w'.cell? ⟨b,o,none⟩=w.cell? ⟨b,o,none⟩:=by
 unfold World.cell?;rw [h]
def aq (w:World) (b:Nat) (vs:List Value):Prop:=(∀ i v,vs[i]?=some v->w.cell? ⟨b,i,none⟩=some v)/\∀ o,w.frozen? ⟨b,o,none⟩=false
theorem aq.alloc (w:World) (cs:Array Value) (t:TypeId):aq (w.alloc (.cells cs t)) w.heap.size cs.toList:=by
 refine ⟨fun i v h=>?_,fun o=>?_⟩;{rw [Array.getElem?_toList] at h;simp [h]};{simp [go_sem]}
theorem aq.below {w w':World} (h:aq w b vs) (hb:b<w.heap.size) (Cf:Bw w w'):aq w' b vs:=
 ⟨fun i v hi=>(Cf.cell (p:=⟨b,i,none⟩) hb).trans (h.1 i v hi),fun o=>(Cf.frozen (p:=⟨b,o,none⟩) hb).trans (h.2 o)⟩
theorem aq.rj {w:World} (h:aq w b vs) {a:Addr} (ha:b≠a.block) (u:Value):aq (w.setCell a u) b vs:=by
 have hh:(w.setCell a u).heap[b]?=w.heap[b]?:=dF _ _ _ _ ha;refine ⟨fun i v hi=>(ai hh _).trans (h.1 i v hi),fun o=>?_⟩;have:(w.setCell a u).frozen? ⟨b,o,none⟩=w.frozen? ⟨b,o,none⟩:=World.frozen?_of_block hh;rw [this];exact h.2 o
theorem aq.dI {w:World} (h:aq w b vs) (j:Nat) (hj:j<vs.length) (u:Value):aq (w.setCell ⟨b,j,none⟩ u) b (vs.set j u):=by
 have hc:=h.1 j _ (aK hj);refine ⟨fun i v hi=>?_,fun o=>by simp [h.2 o]⟩;by_cases e:j=i;{subst e;rw [List.getElem?_set_self hj] at hi;cases hi;exact World.cell?_setCell_same _ _ _ hc};{rw [aY0 e] at hi;have:=h.1 i v hi;simp [go_sem,e,this]}
theorem pW (w:World) (base:Nat) (t ty e:TypeId) (i:TypeInfo) (z:Value) (size bytes:Nat) (ht:P.underlying t=some (.slice e)) (hi:P.info? e=some i) (hz:i.zero=some z)
  (sa:i.size=size) (fI:i.bytes=bytes) (Tj:z.cells.size=size) (il:0<size)
  (v:Value) (n:Nat) (xs:List Value) (br:w.ownsRow base e size v n xs)
  (a:Addr) (m c:Nat) (news:List Value) (hl:news.length=m*size) (eh:∀ j u,news[j]?=some u->w.cell? (a.add j)=some u) (h1:∀ u∈news,u.oneCell'=true)
  (Pj:n+m<=maxLen) (lI:(n+m)*bytes<=140737488355328) (sA:base<=w.heap.size) :
  ∃ v' w',(Builtin.append_ #[t,t] ty #[v,.S (some a) m c]).run P w=.ok v' w'/\w'.ownsRow base e size v' (n+m) (xs++news)/\w.grownBy w' v.ownBlock/\∀ g,v'.ownBlock=some g->v.ownBlock=some g\/w.heap.size<=g:=by
 obtain ⟨v',w',hr,h2,h3,-⟩:=run_append_own (P:=P) w base t ty e i z size bytes ht hi hz sa fI Tj il v n xs br a m c news hl eh h1 Pj lI sA;refine ⟨v',w',hr,h2,h3,fun g' sy=>?_⟩;rcases id br.2 with ⟨rfl,rfl⟩ | ⟨g,cap,cur,rfl,Pd,hg,Q6,Bn,Ce,ay4⟩;{have hx:xs=[]:=List.eq_nil_of_length_eq_zero (by simpa using br.1);subst hx;obtain ⟨v2,w2,mG,k2,-,-⟩:=run_append_own (P:=P) w w.heap.size t ty e i z size bytes ht hi hz sa fI Tj il (.S none 0 0) 0 [] (World.ownsRow_nil w _ e size) a m c news hl eh h1 Pj lI aA;rw [hr] at mG;simp only [Result.ok.injEq] at mG;obtain ⟨rfl,rfl⟩:=mG;exact .inr (k2.lt g' sy).1};{
 subst sa;subst fI;by_cases sg:n+m<=cap;{
 have We:n*i.size+news.length<=cur.size:=by rw [hl,Ce,<-Nat.add_mul];exact Nat.mul_le_mul_right _ sg
 rw [run_append_room (P:=P) w t ty e i ht hi g n cap cur hg a m c news hl eh h1 sg We] at hr;simp only [Result.ok.injEq] at hr;obtain ⟨rfl,-⟩:=hr;exact .inl sy};{have holds:∀ j u,xs[j]?=some u->w.cell? ((⟨g,0,none⟩:Addr).add j)=some u:=br.cells (g:=g) rfl;rw [run_append_grow (P:=P) w t ty e i z ht hi hz ⟨g,0,none⟩ n cap xs br.1 holds a m c news hl eh ab (by simp only [maxLen] at Pj;omega) (growslice_fits ab lI)] at hr;simp only [Result.ok.injEq] at hr;obtain ⟨rfl,-⟩:=hr;simp only [Value.ownBlock,Option.some.injEq] at sy;exact .inr ab}}
theorem e8 {w:World} {rest:List Oper} {Q:Exit->Act->World->Prop} (jK:o.guard=none) (s x:Operand) (t:TypeId)
  (ho:o.op=.call { callee:=.builtin .append,args:=#[s,x],argTypes:=#[t,t] })
  (base:Nat) (e:TypeId) (i:TypeInfo) (z:Value) (size bytes:Nat) (ht:P.underlying t=some (.slice e)) (hi:P.info? e=some i) (hz:i.zero=some z)
  (sa:i.size=size) (fI:i.bytes=bytes) (Tj:z.cells.size=size) (il:0<size)
  (v:Value) (n:Nat) (xs:List Value) (hs:a.eval s=v) (br:w.ownsRow base e size v n xs)
  (g m c:Nat) (news:List Value) (hx:a.eval x=.S (some ⟨g,0,none⟩) m c) (hl:news.length=m*size) (eh:∀ j u,news[j]?=some u->w.cell? ⟨g,j,none⟩=some u) (h1:∀ u∈news,u.oneCell'=true)
  (Pj:n+m<=maxLen) (lI:(n+m)*bytes<=140737488355328) (sA:base<=w.heap.size)
  (h:∀ v' w',w'.ownsRow base e size v' (n+m) (xs++news)->w.grownBy w' v.ownBlock->(∀ g,v'.ownBlock=some g->v.ownBlock=some g\/w.heap.size<=g)->wpList P ops Q rest (a.put o.dst v') w'):wpList P ops Q (o::rest) a w:=by
 obtain ⟨v',w',hr,h2,h3,h4⟩:=pW (P:=P) w base t o.type e i z size bytes ht hi hz sa fI Tj il v n xs br ⟨g,0,none⟩ m c news hl (fun j u hu=>by rw [Addr.add_lit,Nat.zero_add];exact eh j u hu) h1 Pj lI sA;exact Lib.wpList_append_run w jK s x t t ho _ _ hs hx _ _ hr (h v' w' h2 h3 h4)
theorem jB {w:World} {Q:Exit->Act->World->Prop} (jK:o.guard=none) (s x:Operand) (t:TypeId)
  (ho:o.op=.call { callee:=.builtin .append,args:=#[s,x],argTypes:=#[t,t] })
  (base:Nat) (e:TypeId) (i:TypeInfo) (z:Value) (size bytes:Nat) (ht:P.underlying t=some (.slice e)) (hi:P.info? e=some i) (hz:i.zero=some z)
  (sa:i.size=size) (fI:i.bytes=bytes) (Tj:z.cells.size=size) (il:0<size)
  (v:Value) (n:Nat) (xs:List Value) (hs:a.eval s=v) (br:w.ownsRow base e size v n xs)
  (g m c:Nat) (news:List Value) (hx:a.eval x=.S (some ⟨g,0,none⟩) m c) (hl:news.length=m*size) (eh:∀ j u,news[j]?=some u->w.cell? ⟨g,j,none⟩=some u) (h1:∀ u∈news,u.oneCell'=true)
  (Pj:n+m<=maxLen) (lI:(n+m)*bytes<=140737488355328) (sA:base<=w.heap.size)
  (h:∀ v' w',w'.ownsRow base e size v' (n+m) (xs++news)->w.grownBy w' v.ownBlock->(∀ g,v'.ownBlock=some g->v.ownBlock=some g\/w.heap.size<=g)->K (a.put o.dst v') w') :
  if Region.wanted o (yielded ops a.tmps)=true then Oper.wp P o a w K Q else E:=by
 have hw:Region.wanted o (yielded ops a.tmps)=true:=by simp [Region.wanted,jK]
 rw [if_pos hw];obtain ⟨v',w',hr,h2,h3,h4⟩:=pW (P:=P) w base t o.type e i z size bytes ht hi hz sa fI Tj il v n xs br ⟨g,0,none⟩ m c news hl (fun j u hu=>by rw [Addr.add_lit,Nat.zero_add];exact eh j u hu) h1 Pj lI sA;exact Lib.wp_append_run w s x t t ho _ _ hs hx _ _ hr (h v' w' h2 h3 h4)
namespace Q
open Go.Sort Go.Proofs.Tryz
theorem ae (h:p):Hid p:=h
theorem aa (h:Hid p):p:=h
theorem aL {α:Sort _} (x:α) : ∃ y,Hid (x=y):=⟨x,ae rfl⟩
abbrev HU (w:World) (aI off:Nat) (d:Array Int):Prop:=Holds (fun x:Int=>Value.U x) w aI off d
theorem ld (w:World) (row:Option Nat):w.grownBy w row:=⟨rfl,rfl,rfl,Nat.le_refl _,fun _ _ _=>rfl⟩
theorem aQ {w w1 w2:World} {row:Option Nat} (h:w.grownBy w1 row) (k:w1.grownBy w2 row):w.grownBy w2 row:=
 ⟨k.os.trans h.os,k.tape.trans h.tape,k.output.trans h.output,Nat.le_trans h.size k.size,fun i hi gd=>(k.block i (Nat.lt_of_lt_of_le hi h.size) gd).trans (h.block i hi gd)⟩
theorem aE (w:World) (b o:Nat) (v:Value):w.grownBy (w.setCell ⟨b,o,none⟩ v) (some b):=
 ⟨rfl,rfl,rfl,aU,fun i _ gd=>dF _ _ _ _ (fun e=>gd (by rw [e]))⟩
theorem ar {w w':World} {row:Option Nat} (h:w.grownBy w' row):w.grownBy w'.drew row:=⟨h.os,h.tape,h.output,h.size,h.block⟩
theorem HU.swap {w:World} {aI off:Nat} (h:HU w aI off d) {i j:Nat} (hi:i<d.size) (hj:j<d.size) {x y:Int} (hx:x=d[j]!) (hy:y=d[i]!) :
  HU ((w.setCell ⟨aI,off+i,none⟩ (.U x)).setCell ⟨aI,off+j,none⟩ (.U y)) aI off (swp d i j):=by
 subst hx hy;have e:=putRow_self (fun x:Int=>Value.U x) w aI off d h;have e2:=putRow_swp (fun x:Int=>Value.U x) w aI off d i j hi hj;rw [e] at e2;show Holds _ _ _ _ _;rw [e2];exact holds_putRow _ w aI off d _ h (by rw [size_swp])
theorem ij {w:World} {p q:Addr} {t u:Value} (h:w.cell? p=some t):∃ s,(w.setCell q u).cell? p=some s:=by
 by_cases e:q=p;{subst e;exact ⟨u,World.cell?_setCell_same _ _ _ h⟩};{exact ⟨t,(World.cell?_setCell_other _ _ _ _ e).trans h⟩}
theorem HU.drew {w:World} {aI off:Nat} (h:HU w aI off d):HU w.drew aI off d:=h
theorem HU.kept {w w':World} {aI off:Nat} (h:HU w aI off d) (hb:w'.heap[aI]?=w.heap[aI]?):HU w' aI off d:=fun j hj=>
 ⟨(World.cell?_of_block (a:=⟨aI,off+j,none⟩) hb).trans (h j hj).1,(World.frozen?_of_block (a:=⟨aI,off+j,none⟩) hb).trans (h j hj).2⟩
theorem QC (x:Int) (w:World):Calls prog 157 #[.U x] w fun e w'=>e=.returned (.bool false)/\w'=w:=by
 go_enter func157,ntmps157;go_wp2;go_ret;exact ⟨aU,rfl⟩
theorem dY (x y:Int) (w:World):Calls prog 191 #[.U x,.U y] w fun e w'=>e=.returned (.bool (ltInt x y))/\w'=w:=by
 go_enter func191,ntmps191;go_wp2_with fail;refine (QC x w).mono ?_;rintro e w' ⟨rfl,rfl⟩;go_wp2;go_ret;exact ⟨rfl,rfl⟩
theorem dZ (vs:Array Value) (w:World):(callFunc 191 vs).run prog w=.ok (.enter 191 vs) w:=by kernel_rfl
theorem cL {w:World} {Q:Exit->Act->World->Prop} {R:Ending->World->Prop} (hw:Region.wanted o (yielded ops a.tmps)=true) (f:FuncId) (x1 x2:Operand) (Cq:Array TypeId)
  (ho:o.op=.call { callee:=.value (.func f),args:=#[x1,x2],argTypes:=Cq }) (v1 v2:Value) (h1:a.eval x1=v1) (h2:a.eval x2=v2) (ve:∀ vs,(callFunc f vs).run P w=.ok (.enter f vs) w) (hc:Calls P f #[v1,v2] w R) (hR:∀ e w',R e w'->∃ v,e=.returned v/\K (a.put o.dst v) w') :
  if Region.wanted o (yielded ops a.tmps)=true then Oper.wp P o a w K Q else E:=by
 rw [if_pos hw];have cK:(execOp a.eval o).run P w=.ok (.enter f #[v1,v2]) w:=by subst h1 h2;unfold execOp;simp [go_sem,ho,resolve,invoke,ve]
 show o.upon P a K Q _;rw [cK,Oper.upon_enter];refine hc.mono ?_;intro e w' h;obtain ⟨v,rfl,hk⟩:=hR e w' h;exact hk
theorem Ql (aI off cap N a b:Nat) (d:Array Int) (hN:Hid (d.size=N)) (w:World) (h:HU w aI off d) (FR:a<=b) (hb:b<=N) (il:N<=1048576) :
  Calls prog 189 #[.S (some ⟨aI,off,none⟩) N cap,.I a,.I b] w fun e w'=>e=.returned (.tuple #[])/\HU w' aI off (reverseRange d a b)/\w.grownBy w' (some aI):=by
 obtain ⟨D,eD⟩:=aH (reverseRange d a b);rw [eD];have ED:Hid (reverseLoop a (b-1) d=D):=eD;clear eD;have H0:=ae h;clear h;go_enter func189,ntmps189;go_wp2_with fail
 go_loopw [6,7] (fun s6 s7 wr=>∃ (i jn:Nat) (jz:Int) (dk:Array Int),s6=.I i/\s7=.I jz/\jz<=1048576/\-1<=jz/\i<=1048577/\Hid ((i:Int)<jz->jz=jn/\jn<N)/\Hid (¬ (i:Int)<jz->¬ i<jn)/\Hid (dk.size=N)/\Hid (HU wr aI off dk)/\Hid (reverseLoop i jn dk=D)/\Hid (w.grownBy wr (some aI))) (fun s6 s7 _=>(intOf s7-intOf s6).toNat)
 case atStart=>exact ⟨a,b-1,(b:Int)-1,d,rfl,by first | rfl | go_num,ab,ab,ab,fun h=>⟨ab,ab⟩,(fun h=>ab),hN,H0,ED,ld _ _⟩
 case round =>(
 obtain ⟨i,jn,jz,dk,rfl,rfl,q1,q2,q3,h1,h2,qO,xy,heq,hg⟩:=hrel;by_cases bj:(i:Int)<jz;{
 obtain ⟨ej,hjn⟩:=aa h1 bj;subst ej;have jc:i<jn:=ab;have Bl:=aa qO;obtain ⟨ci,fi⟩:=aa xy i ab;obtain ⟨cj,fj⟩:=aa xy jn ab;obtain ⟨y,ey⟩:=aH dk[i]!;obtain ⟨z,ez⟩:=aH dk[jn]!;have Hh:=ae (xy.swap (i:=i) (j:=jn) ab ab ez.symm ey.symm);rw [ey] at ci;rw [ez] at cj;have hq:=aa heq;rw [reverseLoop,if_pos jc] at hq;have HQ:=ae hq;have vQ:Hid ((swp dk i jn).size=N):=by show _=_;rw [size_swp];exact Bl
 have HG:=ae (aQ (aQ hg (aE wr aI (off+i) (.U z))) (aE _ aI (off+jn) (.U y)));have i1:=aT jn N;have i2:=aT i N;have i3:=dE 0 jn;clear h1 h2 xy heq hg ey ez hq Bl;go_wp2_with fail
 go_region
 go_wp2;go_roundw
 case rel=>exact ⟨i+1,jn-1,(jn:Int)-1,swp dk i jn,by go_num,by first | rfl | go_num,ab,ab,ab,fun h=>⟨ab,ab⟩,(fun h=>ab),vQ,Hh.drew,HQ,ar HG⟩
 exact dC};{
 have aK3:=aa h2 bj;have hq:=aa heq;rw [reverseLoop,if_neg aK3] at hq;subst hq;go_wp2
 go_end0
 exact ⟨rfl,xy,hg⟩})
end Q
structure SD where
 e:Int
 g:Int
 x:Int
 t:Int
 ss:List aY
 ns:List aD
def lQ (ids:List Int) (id:Int):List Int:=ids.filter fun x=>!(x==id)
def ig:List Int->Int->List Int
 | [],id=>[id]
 | x::r,id=>if id<=x then id::lQ (x::r) id else x::ig r id
def dM (q:List Ev) (ev:Ev):List Ev:=if q.length<7 then q++[ev] else if q.length=7 then q++[(4,[])] else q
def jG (ss:List aY) (id:Int) (ev:Ev):List aY:=ss.map fun s=>if s.1=id then (s.1,s.2.1,dM s.2.2 ev) else s
def fN (ss:List aY) (ids:List Int) (ev:Ev):List aY:=ids.foldl (fun ss id=>jG ss id ev) ss
def cO (D:SD) (k:Nat) (kind:Int):SD:=match D.ns[k]? with
 | none=>D
 | some nd=>{ D with ss:=fN D.ss nd.watchers (kind,nd.path),ns:=D.ns.set k { nd with watchers:=[] } }
def AH (D:SD) (k:Nat):SD:={ D with ns:=D.ns.eraseIdx k }
def cT (D:SD) (k:Nat) (id:Int):SD:=match D.ns[k]? with
 | none=>D
 | some nd=>if nd.holders.contains id then (if lQ nd.holders id=[] then cO { D with ns:=D.ns.set k { nd with holders:=[],mode:=0,aB:=0,gen:=0 } } k 3 else { D with ns:=D.ns.set k { nd with holders:=lQ nd.holders id } }) else D
end Go.Proofs.YtcfcafeciggjeaaGreatDoor
