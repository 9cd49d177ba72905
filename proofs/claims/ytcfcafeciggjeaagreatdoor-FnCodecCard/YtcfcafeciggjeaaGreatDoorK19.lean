import Derived.Test.YtcfcafeciggjeaaGreatDoorK17
namespace Go.Proofs.YtcfcafeciggjeaaGreatDoor
set_option linter.all false
set_option maxRecDepth 100000
open Go.ChangeShapes Go.WideShapes Go.ChangeAt Go.RowKit
variable {B:Nat} {l:List Int} {v:Value}
abbrev ua (B:Nat) (w:World) (v:Value) (l:List Int):Prop:=w.ownsRow B 23 1 v l.length (l.map (Value.int .u64))
theorem ua.form {w:World} (h:ua B w v l):∃ p c,v=.S p l.length c:=by
 rcases h.2 with ⟨rfl,h0⟩ | ⟨g,cap,cur,rfl,_⟩;{exact ⟨none,0,by rw [h0]⟩};{exact ⟨_,_,rfl⟩}
theorem ua.below {w w':World} (h:ua B w v l) (hb:Bw w w'):ua B w' v l:=
 World.ownsRow.kept (row:=none) h (Gd hb) (by by_cases e:v.ownBlock=none<;>simp [e])
def ZT (w:World) (v:Value):Prop:=(∀ (a:Addr) (n c:Nat),v=.S (some a) n c->a.off=0/\a.spot=none/\∀ j,n<=j->j<c->w.cell? ⟨a.block,j,none⟩=some (.U 0))/\∀ (n c:Nat),v=.S none n c->c=0
theorem ZT.keep {w w':World} (h:ZT w v) (hk:∀ b,v.ownBlock=some b->w'.heap[b]?=w.heap[b]?):ZT w' v:=⟨fun a n c e=>by
 obtain ⟨h1,h2,h3⟩:=h.1 a n c e;refine ⟨h1,h2,fun j hj hc=>(World.cell?_of_block (hk _ (by rw [e];rfl))).trans (h3 j hj hc)⟩,h.2⟩
theorem ZT.nil (w:World):ZT w (.S none 0 0):=⟨fun a n c e=>by simp at e,fun n c e=>by simp only [Value.slice.injEq] at e;exact e.2.2.symm⟩
def iK (B:Nat) (w:World) (v:Value) (l:List Int):Prop:=ua B w v l/\ZT w v
theorem PI (k j:Nat) (h:j<k):(Builtin.zeroCells (Value.cells (.U 0)) k)[j]?=some (.U 0):=by
 have e:Value.cells (.U 0)=#[.U 0]:=rfl;rw [e,Builtin.zeroCells];simp [h,Nat.mod_one]
theorem rE (w:World) (base:Nat) (ty:TypeId) (i:TypeInfo) (hi:Tryz.prog.info? 23=some i) (hz:i.zero=some (.U 0)) (hs:i.size=1) (hb:i.bytes=8)
  (v:Value) (n:Nat) (xs:List Value) (br:w.ownsRow base 23 1 v n xs) (hzt:ZT w v) (a:Addr) (m c:Nat) (news:List Value) (hl:news.length=m*1) (eh:∀ j u,news[j]?=some u->w.cell? (a.add j)=some u) (h1:∀ u∈news,u.oneCell'=true)
  (Pj:n+m<=maxLen) (lI:(n+m)*8<=140737488355328) (sA:base<=w.heap.size) :
  ∃ v' w',(Builtin.append_ #[36,36] ty #[v,.S (some a) m c]).run Tryz.prog w=.ok v' w'/\w'.ownsRow base 23 1 v' (n+m) (xs++news)/\w.grownBy w' v.ownBlock/\ZT w' v':=by
 obtain ⟨v',w',hr,h2,h3,h4⟩:=run_append_own (P:=Tryz.prog) w base 36 ty 23 i (.U 0) 1 8 Tryz.underlying36 hi hz hs hb rfl bl v n xs br a m c news hl eh h1 Pj lI sA;refine ⟨v',w',hr,h2,h3,?_⟩;have aI9:n+m<=9223372036854775807:=by simp only [maxLen] at Pj;omega
 have sv:news.length=m*i.size:=by rw [hs];exact hl
 have tail:∀ (xs:List Value) (k K:Nat),xs.length=k->∀ (W:World),ZT (W.alloc (.cells (xs.toArray++Builtin.zeroCells (Value.cells (.U 0)) (K-k)) 23)) (.S (some ⟨W.heap.size,0,none⟩) k K):=fun xs k K hk W=>by refine ⟨fun a n c e=>?_,fun n c e=>by simp at e⟩;simp only [Value.slice.injEq,Option.some.injEq] at e;obtain ⟨rfl,rfl,rfl⟩:=e;refine ⟨rfl,rfl,fun j hj hc=>?_⟩;rw [cell_of_row _ _ _ _ _ _ (heap_alloc_new W _),Array.getElem?_append_right (by simpa [hk] using hj)];simp only [List.size_toArray,hk];exact PI _ _ ab
 rcases br.2 with ⟨rfl,rfl⟩ | ⟨g,cap,cur,rfl,Pd,hg,Q6,Bn,Ce,ay4⟩;{by_cases hm:m=0;{rw [h4.2 ⟨rfl,hm⟩];exact ZT.nil _};{have mG:=run_append_nil (P:=Tryz.prog) w 36 ty 23 i (.U 0) Tryz.underlying36 hi hz a m c news sv eh ab ab (by rw [hb];omega);rw [hr] at mG;simp only [Result.ok.injEq] at mG;obtain ⟨rfl,rfl⟩:=mG;exact tail news m _ ab w.drew}};{
 by_cases sg:n+m<=cap;{
 have We:n*i.size+news.length<=cur.size:=by rw [hs,hl,Ce];omega
 have mG:=run_append_room (P:=Tryz.prog) w 36 ty 23 i Tryz.underlying36 hi g n cap cur hg a m c news sv eh h1 sg We;rw [hr] at mG;simp only [Result.ok.injEq] at mG;obtain ⟨rfl,rfl⟩:=mG;refine ⟨fun b n' c' e=>?_,fun n c e=>by simp at e⟩;simp only [Value.slice.injEq,Option.some.injEq] at e;obtain ⟨rfl,rfl,rfl⟩:=e;obtain ⟨-,-,q⟩:=hzt.1 _ _ _ rfl;refine ⟨rfl,rfl,fun j hj hc=>?_⟩;have q1:=q j ab hc;rw [cell_of_row _ _ _ _ _ _ hg] at q1;rw [cell_of_row _ _ _ _ _ _ (setRow_heap w g cur _ _ _ hg),hs,List.getElem?_toArray,List.getElem?_append_right dx,List.getElem?_drop];rw [<-q1,<-Array.getElem?_toList]
 congr 1
 simp;omega};{
 have holds:∀ j u,xs[j]?=some u->w.cell? ((⟨g,0,none⟩:Addr).add j)=some u:=br.cells (g:=g) rfl;have hxl:xs.length=n*i.size:=by rw [hs];exact br.1
 have mG:=run_append_grow (P:=Tryz.prog) w 36 ty 23 i (.U 0) Tryz.underlying36 hi hz ⟨g,0,none⟩ n cap xs hxl holds a m c news sv eh ab ab (growslice_fits ab (by rw [hb];exact lI));rw [hr] at mG;simp only [Result.ok.injEq] at mG;obtain ⟨rfl,rfl⟩:=mG;have JV:=br.1;have e:xs.toArray++news.toArray=(xs++news).toArray:=aU;rw [e];exact tail (xs++news) (n+m) _ (by rw [List.length_append];omega) w.drew}}
theorem fw {w:World} {ops:Array Oper} {rest:List Oper} {o:Oper} {a:Act} {Q:Exit->Act->World->Prop} (jK:o.guard=none) (s x:Operand)
  (ho:o.op=.call { callee:=.builtin .append,args:=#[s,x],argTypes:=#[36,36] })
  (B:Nat) (v:Value) (l lm:List Int) (y:Int) (Gf:Hid (lm=l++[y])) (g:Nat) (hs:a.eval s=v) (hx:a.eval x=.S (some ⟨g,0,none⟩) 1 1) (br:iK B w v l) (hc:w.cell? ⟨g,0,none⟩=some (.U y))
  (hl:l.length<4194304) (hB:B<=w.heap.size)
  (h:∀ p' c' w',iK B w' (.S p' lm.length c') lm->w.grownBy w' v.ownBlock->wpList Tryz.prog ops Q rest (a.put o.dst (.S p' lm.length c')) w'):wpList Tryz.prog ops Q (o::rest) a w:=by
 obtain ⟨i,hi,mw,iT,jW⟩:=info_parts Tryz.infoU64;obtain ⟨v',w',hr,h1,h2,h3⟩:=rE w B o.type i hi mw iT jW v _ _ br.1 br.2 ⟨g,0,none⟩ 1 1 [.U y] rfl (fun j u hu=>by
  cases j with
  | zero=>simp at hu;subst hu;rw [Addr.add_lit];exact hc
  | succ j=>simp at hu) (fun u hu=>by simp at hu;subst hu;rfl) jC ab hB
 refine Lib.wpList_append_run w jK s x _ _ ho _ _ hs hx _ _ hr ?_;have e:=aa Gf;subst e;have vF:ua B w' v' (l++[y]):=by unfold ua;rw [List.length_append,List.map_append];exact h1
 obtain ⟨p',c',rfl⟩:=vF.form;exact h p' c' w' ⟨vF,h3⟩ h2
theorem iK.below {w w':World} (h:iK B w v l) (hb:Bw w w'):iK B w' v l:=⟨h.1.below hb,h.2.keep fun b e=>hb.block b (h.1.lt b e).2⟩
theorem iK.form {w:World} (h:iK B w v l):∃ p c,v=.S p l.length c:=h.1.form
theorem iK.lt {w:World} (h:iK B w v l):∀ k,v.ownBlock=some k->B<=k/\k<w.heap.size:=World.ownsRow.lt h.1
theorem iK.nil (B:Nat) (w:World):iK B w (.S none 0 0) []:=⟨by simpa [ua] using World.ownsRow_nil w B 23 1,ZT.nil w⟩
end Go.Proofs.YtcfcafeciggjeaaGreatDoor
