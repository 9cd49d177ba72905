import Derived.Test.YtcfcafeciggjeaaGreatDoorK41
namespace Go.Proofs.YtcfcafeciggjeaaGreatDoor
set_option linter.all false
set_option maxRecDepth 100000
open Go.ChangeShapes Go.WideShapes Go.ChangeAt Go.RowKit Go.Deep
variable {B L c ds g i j m1 n1 rb sb t:Nat} {D:SD} {Qs vs:List Value} {cd l:List Int} {p ps qs:Option Addr} {s:aY} {ss:List aY} {v v':Value} {w w' w0 w1 wc:World}
def ti (I:Nat) (f:aD->aD) (D:SD):SD:=match D.ns[I]? with
 | none=>D
 | some nd=>{ D with ns:=D.ns.set I (f nd) }
def BU (J:Nat) (f:aY->aY) (D:SD):SD:=match D.ss[J]? with
 | none=>D
 | some s=>{ D with ss:=D.ss.set J (f s) }
def spA (I:Nat) (D:SD):SD:=match D.ns[I]? with
 | none=>D
 | some nd=>{ D with ns:=D.ns++[nd] }
def bE (k:Nat) (v:Int) (I J:Nat) (P:List Int) (D:SD):SD:=
 if k=0 then { D with g:=4611686018427387904+v % 2 } else if k=1 then { D with x:=4611686018427387904+v % 2 } else if k=2 then { D with t:=1000000+v % 2 } else if k=3 then { D with t:=-1 }
 else if D.ns.length=0\/D.ss.length=0 then { D with e:=4611686018427387904+v % 2 }
 else if k=4 then BU J (fun s=>(0,s.2.1,s.2.2)) D
 else if k=5 then BU J (fun s=>(s.1,1000015+v % 2,s.2.2)) D
 else if k=6 then BU J (fun s=>(s.1,s.2.1,s.2.2++[(v % 6,[47,97])])) D
 else if k=7 then BU J (fun s=>(s.1,s.2.1,s.2.2++List.replicate ((7+v % 3).toNat-s.2.2.length) (1,[47,97]))) D
 else if k=8 then ti I (fun nd=>{ nd with mode:=v % 4 }) D
 else if k=9 then ti I (fun nd=>{ nd with holders:=ig nd.holders (v % 5) }) D
 else if k=10 then ti I (fun nd=>{ nd with watchers:=nd.watchers++[v % 5] }) D
 else if k=11 then ti I (fun nd=>{ nd with owner:=v % 5 }) D
 else if k=12 then ti I (fun nd=>{ nd with gen:=D.g+v % 2 }) D
 else if k=13 then ti I (fun nd=>{ nd with aB:=D.e+v % 2 }) D
 else if k=14 then AH D I
 else if k=15 then spA I D
 else if k=16 then ti I (fun nd=>{ nd with value:=List.replicate (40+v % 2).toNat 113 }) D
 else if k=17 then ti I (fun nd=>{ nd with path:=P }) D
 else if k=18 then BU J (fun s=>(s.1,-1,s.2.2)) D
 else if k=19 then { D with x:=0 }
 else if k=20 then { D with ss:=D.ss++[(v % 5,0,[])] }
 else { D with ss:=D.ss.drop 1 }
theorem BD.num (h:BD D) {e g x t:Int} (he:0<=e/\e<18446744073709551616) (hg:0<=g/\g<18446744073709551616) (hx:0<=x/\x<18446744073709551616):BD ⟨e,g,x,t,D.ss,D.ns⟩:=⟨he,hg,hx,h.sl,h.nl,h.s,h.n⟩
def NBd (nd:aD):Prop:=bM nd.path/\nd.path.length<=1000/\nd.value.length<=1000/\bM nd.value/\nd.holders.length<=1000/\nd.watchers.length<=1000
theorem BD.ti (h:BD D) (I:Nat) {f:aD->aD} (hf:∀ nd∈D.ns,NBd (f nd)):BD (ti I f D):=by
 unfold Proofs.YtcfcafeciggjeaaGreatDoor.ti;cases hk:D.ns[I]? with
 | none=>exact h
 | some nd=>
  refine ⟨h.e,h.g,h.x,h.sl,by show (List.set _ _ _).length<=_;rw [List.length_set];exact h.nl,h.s,fun y hy=>?_⟩;rcases List.mem_or_eq_of_mem_set hy with hy | rfl;{exact h.n y hy};{exact hf nd (aF hk)}
theorem BD.BU (h:BD D) (J:Nat) {f:aY->aY} (hf:∀ s∈D.ss,(f s).2.2.length<=1000/\∀ e∈(f s).2.2,bM e.2/\e.2.length<=1000):BD (BU J f D):=by
 unfold Proofs.YtcfcafeciggjeaaGreatDoor.BU;cases hk:D.ss[J]? with
 | none=>exact h
 | some s=>
  refine ⟨h.e,h.g,h.x,by show (List.set _ _ _).length<=_;rw [List.length_set];exact h.sl,h.nl,fun y hy=>?_,h.n⟩;rcases List.mem_or_eq_of_mem_set hy with hy | rfl;{exact h.s y hy};{exact hf s (aF hk)}
theorem Om:bM [47,97]:=fun z hz=>by simp at hz;omega
theorem Cw (hv:VD D) (he:0<=D.e) (k:Nat) {v:Int} (hr:0<=v/\v<256) (I J:Nat) {P:List Int} (hP:bM P) (lP:P.length<=18):BD (bE k v I J P D):=by
 have h:=hv.bd he;have e0:=h.e;have g0:=h.g;have x0:=h.x;have e1:=hv.e;have g1:=hv.g;have hq:∀ s∈D.ss,s.2.2.length<=8:=fun s hs=>(hv.s2 s hs).q.1;have hh:∀ nd∈D.ns,nd.holders.length<=50/\nd.watchers.length<=50:=fun nd aV=>⟨hv.ids (hv.n2 nd aV).h1 (hv.n2 nd aV).h2,hv.ids (hv.n2 nd aV).w1 (hv.n2 nd aV).w2⟩
 unfold bE;by_cases c0:k=0;{rw [if_pos c0];exact h.num e0 (by omega) x0};rw [if_neg c0];by_cases c1:k=1;{rw [if_pos c1];exact h.num e0 g0 (by omega)};rw [if_neg c1];by_cases c2:k=2;{rw [if_pos c2];exact h.num e0 g0 x0};rw [if_neg c2];by_cases c3:k=3;{rw [if_pos c3];exact h.num e0 g0 x0};rw [if_neg c3];by_cases c4:D.ns.length=0\/D.ss.length=0;{rw [if_pos c4];exact h.num (by omega) g0 x0};rw [if_neg c4];by_cases c5:k=4;{rw [if_pos c5];exact h.BU J (fun s hs=>h.s s hs)};rw [if_neg c5];by_cases c6:k=5;{rw [if_pos c6];exact h.BU J (fun s hs=>h.s s hs)};rw [if_neg c6];by_cases c7:k=6;{rw [if_pos c7];refine h.BU J fun s hs=>⟨by have:=hq s hs;simp;omega,fun e he=>?_⟩;rcases List.mem_append.1 he with he | he;{exact (h.s s hs).2 e he};{simp at he;rw [he];exact ⟨Om,by simp⟩}};rw [if_neg c7];by_cases c8:k=7;{rw [if_pos c8];refine h.BU J fun s hs=>⟨by have:=hq s hs;simp;omega,fun e he=>?_⟩;rcases List.mem_append.1 he with he | he;{exact (h.s s hs).2 e he};{rw [List.eq_of_mem_replicate he];exact ⟨Om,by simp⟩}};rw [if_neg c8];by_cases c9:k=8;{rw [if_pos c9];exact h.ti I fun nd aV=>h.n nd aV};rw [if_neg c9];by_cases c10:k=9;{rw [if_pos c10];refine h.ti I fun nd aV=>?_;have a:=h.n nd aV;have:=EF nd.holders (v % 5);have:=(hh nd aV).1;exact ⟨a.1,a.2.1,a.2.2.1,a.2.2.2.1,by show (ig _ _).length<=_;omega,a.2.2.2.2.2⟩};rw [if_neg c10];by_cases c11:k=10;{rw [if_pos c11];refine h.ti I fun nd aV=>?_;have a:=h.n nd aV;have:=(hh nd aV).2;exact ⟨a.1,a.2.1,a.2.2.1,a.2.2.2.1,a.2.2.2.2.1,by show (_++[_]).length<=_;simp;omega⟩};rw [if_neg c11];by_cases c12:k=11;{rw [if_pos c12];exact h.ti I fun nd aV=>h.n nd aV};rw [if_neg c12];by_cases c13:k=12;{rw [if_pos c13];exact h.ti I fun nd aV=>h.n nd aV};rw [if_neg c13];by_cases c14:k=13;{rw [if_pos c14];exact h.ti I fun nd aV=>h.n nd aV};rw [if_neg c14];by_cases c15:k=14;{rw [if_pos c15];exact ⟨h.e,h.g,h.x,h.sl,Nat.le_trans (List.Sublist.length_le (List.eraseIdx_sublist _ _)) h.nl,h.s,fun y hy=>h.n y (List.mem_of_mem_eraseIdx hy)⟩};rw [if_neg c15];by_cases c16:k=15;{
 rw [if_pos c16];unfold spA;have nl:=hv.nl;cases hk:D.ns[I]? with
 | none=>exact h
 | some nd=>
  refine ⟨h.e,h.g,h.x,h.sl,by show (_++[_]).length<=_;simp;omega,h.s,fun y hy=>?_⟩;rcases List.mem_append.1 hy with hy | hy;{exact h.n y hy};{simp at hy;rw [hy];exact h.n nd (aF hk)}};rw [if_neg c16];by_cases c17:k=16;{rw [if_pos c17];refine h.ti I fun nd aV=>?_;have a:=h.n nd aV;exact ⟨a.1,a.2.1,by show (List.replicate _ _).length<=_;rw [List.length_replicate];omega,vu _ (by omega),a.2.2.2.2⟩};rw [if_neg c17];by_cases c18:k=17;{rw [if_pos c18];refine h.ti I fun nd aV=>?_;have a:=h.n nd aV;exact ⟨hP,by show P.length<=_;omega,a.2.2⟩};rw [if_neg c18];by_cases c19:k=18;{rw [if_pos c19];exact h.BU J (fun s hs=>h.s s hs)};rw [if_neg c19];by_cases c20:k=19;{rw [if_pos c20];exact h.num e0 g0 (by omega)};rw [if_neg c20];by_cases c21:k=20;{rw [if_pos c21];have sl:=hv.sl;refine ⟨h.e,h.g,h.x,by show (_++[_]).length<=_;simp;omega,h.nl,fun y hy=>?_,h.n⟩;rcases List.mem_append.1 hy with hy | hy;{exact h.s y hy};{simp at hy;rw [hy];exact ⟨by simp,fun e he=>by simp at he⟩}};rw [if_neg c21];exact ⟨h.e,h.g,h.x,by have:=h.sl;show (List.drop _ _).length<=_;simp;omega,h.nl,fun y hy=>h.s y (List.mem_of_mem_drop hy),h.n⟩
theorem dJ.idn {g n cap:Nat} (h:dJ B w (.S (some ⟨g,0,none⟩) n cap) ss Qs) (hx:ss[i]?=some s) (d:Int) :
  dJ B (w.setCell ⟨g,i*3,none⟩ (.U d)) (.S (some ⟨g,0,none⟩) n cap) (ss.set i (d,s.2.1,s.2.2)) Qs/\Fr [35] w (w.setCell ⟨g,i*3,none⟩ (.U d)):=by
 obtain ⟨cur,hc⟩:=h.row.nJ g rfl;have hf:Fr [35] w (w.setCell ⟨g,i*3,none⟩ (.U d)):=Fr.set hc (by simp);have hi:=(aN.1 hx).1;obtain ⟨Q,hQ⟩:∃ Q,Qs[i]?=some Q:=⟨_,aK (by rw [h.len];exact hi)⟩;have hz:(ss.zip Qs)[i]?=some (s,Q):=by rw [List.getElem?_zip_eq_some];exact ⟨hx,hQ⟩
 refine ⟨⟨by rw [List.length_set];exact h.len,?_,fun k s' Q' hs hq=>?_,h.rj⟩,hf⟩;{
 have:=RT.put h.row hz (j:=0) (by omega) (.U d) ((d,s.2.1,s.2.2),Q) (fun _ _ h=>h) (fun c _ he=>by
  unfold ll at he ⊢;subst he
  rfl)
 rwa [vm,gi hQ] at this};{rw [List.getElem?_set] at hs;by_cases e:i=k;{subst e;rw [if_pos rfl,if_pos hi] at hs;cases hs;exact mu.fr (h.za i s Q' hx hq) hf};{rw [if_neg e] at hs;exact mu.fr (h.za k s' Q' hs hq) hf}}
open Go.Proofs.Tryz
def AU (w w':World) (v:Value) (L:Nat):Prop:=w.grownBy w' v.ownBlock/\∀ b,v.ownBlock=some b->((∃ cur,w'.heap[b]?=some (.cells cur 23))/\∃ cur,w.heap[b]?=some (.cells cur 23))/\((∀ j,w'.cell? ⟨b,j,none⟩=w.cell? ⟨b,j,none⟩)\/(w.cell? ⟨b,L,none⟩=some (.U 0)/\∀ j,j≠L->w'.cell? ⟨b,j,none⟩=w.cell? ⟨b,j,none⟩))
theorem TW.au (h:TW w v' l) (hz:∀ i∈l,i≠0) (ha:AU w w' v L):TW w' v' l:=by
 obtain ⟨⟨p,c,rfl,hd⟩,h2⟩:=h;refine ⟨⟨p,c,rfl,?_⟩,fun b e=>?_⟩;{
 rcases hd with hd | ⟨b,o,rfl,hd⟩;{exact .inl hd};{
 refine .inr ⟨b,o,rfl,fun i hi=>?_⟩;obtain ⟨cur,hb⟩:=h2 b rfl;by_cases e:v.ownBlock=some b;{
 rcases (ha.2 b e).2 with hk | ⟨h0,hk⟩;{rw [hk];exact hd i hi};{
 by_cases ej:o+i=L;{
 have:=hd i hi;rw [ej,h0] at this;simp only [Option.some.injEq,Value.int.injEq,true_and] at this;have hm:l.getD i 0∈l:=by rw [List.getD_eq_getElem?_getD,aK hi];exact List.getElem_mem hi
 exact absurd this.symm (hz _ hm)};{rw [hk _ ej];exact hd i hi}}};{exact (ai (ha.1.block b (cF hb) (fun e2=>e e2.symm)) _).trans (hd i hi)}}};{obtain ⟨cur,hb⟩:=h2 b e;by_cases e2:v.ownBlock=some b;{exact (ha.2 b e2).1.1};{exact ⟨cur,(ha.1.block b (cF hb) (fun e3=>e2 e3.symm)).trans hb⟩}}
theorem pF.au {w2:World} (h:pF g w w1) (ha:AU w1 w2 v L) (yB:∀ b,v.ownBlock=some b->w.heap.size<=b):pF g w w2:=
 h.tr ⟨ha.1.os,ha.1.tape,ha.1.output⟩ ha.1.size fun b hb hl=>ha.1.block b (by have:=h.2.1;omega) (fun e=>by have:=yB b e.symm;omega)
theorem Xq (h:TU B w v l) (hl:l.length<=1000) (y:Int) (g2:Nat) (c0:w.cell? ⟨g2,0,none⟩=some (.U y)) :
  ∃ p' c' w',(Builtin.append_ #[36,36] 36 #[v,.S (some ⟨g2,0,none⟩) 1 1]).run prog w=.ok (.S p' (l.length+1) c') w'/\TW w' (.S p' (l.length+1) c') (l++[y])/\AU w w' v l.length:=by
 obtain ⟨i,hi,hz,hs,hb⟩:=info_parts Tryz.infoU64;obtain ⟨⟨p,c,rfl,hd⟩,h2,hzt,-⟩:=h;have eh:∀ j u,([.U y]:List Value)[j]?=some u->w.cell? ((⟨g2,0,none⟩:Addr).add j)=some u:=fun j u hu=>by
  rw [Addr.add_lit];cases j with
  | zero=>simp at hu;subst hu;exact c0
  | succ j=>simp at hu
 have IZ:([.U y]:List Value).length=1*i.size:=by rw [hs];rfl
 cases p with
 | none=>
  have tJ:l=[]:=by rcases hd with hd | ⟨b,o,e,-⟩;{exact hd};{cases e}
  subst tJ;have ec:=hzt.2 _ _ rfl;subst ec;obtain ⟨v',w',hr,h3,h4,-⟩:=run_append_own (P:=prog) w w.heap.size 36 36 23 i (.U 0) 1 8 underlying36 hi hz hs hb rfl (by decide) (.S none 0 0) 0 [] (World.ownsRow_nil w _ _ 1) ⟨g2,0,none⟩ 1 1 [.U y] rfl eh (fun u hu=>by simp at hu;subst hu;rfl) (by unfold maxLen;omega) (by omega) aA;have ho:ua w.heap.size w' v' [y]:=h3;obtain ⟨p',c',e⟩:=ho.form;subst e;refine ⟨p',c',w',hr,⟨ho.rdu,fun b e=>?_⟩,h4,fun b e=>by simp [Value.ownBlock] at e⟩
  change (Value.S p' [y].length c').ownBlock=some b at e
  rcases ho.2 with ⟨e2,-⟩ | ⟨g,cap,cur,e2,-,hg,-⟩;{rw [e2] at e;simp [Value.ownBlock] at e};{rw [e2] at e;simp only [Value.ownBlock,Option.some.injEq] at e;subst e;exact ⟨cur,hg⟩}
 | some a=>
  obtain ⟨a1,a2,a3⟩:=hzt.1 a _ _ rfl;obtain ⟨b,o,sp⟩:=a;simp only at a1 a2 a3;subst a1 a2;obtain ⟨cur,hg⟩:=h2 b rfl;have bG:∀ j,j<l.length->w.cell? ⟨b,j,none⟩=some (.U (l.getD j 0)):=fun j hj=>by rcases hd with rfl | ⟨b',o',e,hc⟩;{simp at hj};{obtain ⟨rfl,rfl⟩:=jf e;have:=hc j hj;rwa [Nat.zero_add] at this}
  have oH:∀ j,j<(l++[y]).length->(if j=l.length then some (Value.U y) else w.cell? ⟨b,j,none⟩)=some (.U ((l++[y]).getD j 0)):=fun j hj=>by
   simp at hj;by_cases ej:j=l.length;{
 rw [if_pos ej,ej,List.getD_eq_getElem?_getD,List.getElem?_append_right aA,Nat.sub_self]
 rfl}
   {rw [if_neg ej,bG j (by omega),List.getD_eq_getElem?_getD,List.getD_eq_getElem?_getD,List.getElem?_append_left (by omega)]}
  by_cases sg:l.length+1<=c;{
 have h0:=a3 l.length aA (by omega);have bj:l.length<cur.toList.length:=by rw [cell_of_row _ _ _ _ _ _ hg] at h0;have:=(Array.getElem?_eq_some_iff.1 h0).1;simpa using this
 have hr:=run_append_room (P:=prog) w 36 36 23 i underlying36 hi b l.length c cur hg ⟨g2,0,none⟩ 1 1 [.U y] IZ eh (fun u hu=>by simp at hu;subst hu;rfl) sg (by rw [hs];simp at bj ⊢;omega);have aT3:(cur.toList.take (l.length*i.size)++[Value.U y]++cur.toList.drop (l.length*i.size+[Value.U y].length))=cur.toList.set l.length (.U y):=by rw [hs,List.set_eq_take_append_cons_drop,if_pos bj];simp
 rw [aT3] at hr;have hh:=setRow_heap w b cur (cur.toList.set l.length (.U y)).toArray _ _ hg;have hcj:∀ j,(w.setRow b (cur.toList.set l.length (.U y)).toArray).cell? ⟨b,j,none⟩=if j=l.length then some (.U y) else w.cell? ⟨b,j,none⟩:=fun j=>by rw [cell_of_row _ _ _ _ _ _ hh,cell_of_row _ _ _ _ _ _ hg,List.getElem?_toArray,List.getElem?_set];by_cases ej:l.length=j;{rw [if_pos ej,if_pos ej.symm,if_pos bj]};{rw [if_neg ej,if_neg (fun e=>ej e.symm),Array.getElem?_toList]}
 refine ⟨_,_,_,hr,⟨⟨_,_,by rw [List.length_append];rfl,.inr ⟨b,0,rfl,fun j hj=>?_⟩⟩,fun b' e=>?_⟩,⟨rfl,rfl,rfl,by simp,fun k _ hk=>setRow_other w b k _ (fun e=>hk (by simp [Value.ownBlock,e]))⟩,fun b' e=>?_⟩;{rw [Nat.zero_add,hcj];exact oH j hj};{simp only [Value.ownBlock,Option.some.injEq] at e;subst e;exact ⟨_,hh⟩};{simp only [Value.ownBlock,Option.some.injEq] at e;subst e;exact ⟨⟨⟨_,hh⟩,_,hg⟩,.inr ⟨h0,fun j hj=>by rw [hcj,if_neg hj]⟩⟩}};{
 have holds:∀ j u,(l.map (Value.int .u64))[j]?=some u->w.cell? ((⟨b,0,none⟩:Addr).add j)=some u:=fun j u hu=>by
  have hj:j<l.length:=by have:=(aN.1 hu).1;simpa using this
  rw [Addr.add_lit,Nat.zero_add,bG j hj,<-hu,List.getElem?_map,List.getD_eq_getElem?_getD,aK hj]
  rfl
 have hr:=run_append_grow (P:=prog) w 36 36 23 i (.U 0) underlying36 hi hz ⟨b,0,none⟩ l.length c (l.map (Value.int .u64)) (by rw [hs];simp) holds ⟨g2,0,none⟩ 1 1 [.U y] IZ eh (by omega) (by omega) (growslice_fits (by omega) (by rw [hb];omega));refine ⟨_,_,_,hr,⟨⟨_,_,by rw [List.length_append];rfl,.inr ⟨w.heap.size,0,rfl,fun j hj=>?_⟩⟩,fun b' e=>?_⟩,⟨rfl,rfl,rfl,by simp,fun k hk _=>Go.heap_alloc_old w.drew _ hk⟩,fun b' e=>?_⟩;{
 rw [Nat.zero_add,cell_of_row _ w.heap.size _ _ _ _ (Go.heap_alloc_new w.drew _)];rw [List.length_append] at hj;simp at hj;rw [Array.getElem?_append_left (by simp;omega),show (l.map (Value.int .u64)).toArray++[Value.U y].toArray=((l++[y]).map (Value.int .u64)).toArray by simp,List.getElem?_toArray,List.getElem?_map,List.getD_eq_getElem?_getD,aK (by simp;omega)]
 rfl}
 {simp only [Value.ownBlock,Option.some.injEq] at e;subst e;exact ⟨_,Go.heap_alloc_new w.drew _⟩};{simp only [Value.ownBlock,Option.some.injEq] at e;subst e;have hk:(w.drew.alloc (.cells ((l.map (Value.int .u64)).toArray++[Value.U y].toArray++Builtin.zeroCells (Value.cells (.U 0)) (grownCap w (l.length+1) c 23-(l.length+1))) 23)).heap[b]?=w.heap[b]?:=Go.heap_alloc_old w.drew _ (cF hg);exact ⟨⟨⟨cur,hk.trans hg⟩,cur,hg⟩,.inl fun j=>ai hk _⟩}}
theorem Ig.put {g n cap:Nat} {ns:List aD} (h:Ig B w (.S (some ⟨g,0,none⟩) n cap) ns) {nd:aD} (hx:ns[i]?=some nd) (hj:j<8) (u:Value) (nd':aD)
  (hn:∀ w' P V H U,TB w' P nd.path->TB w' V nd.value->TW w' H nd.holders->TW w' U nd.watchers->Fr [38] w w'->xF w' nd' ([P,V,.U nd.owner,.I nd.mode,H,.U nd.aB,.U nd.gen,U].set j u)) :
  Ig B (w.setCell ⟨g,i*8+j,none⟩ u) (.S (some ⟨g,0,none⟩) n cap) (ns.set i nd')/\Fr [38] w (w.setCell ⟨g,i*8+j,none⟩ u):=by
 obtain ⟨cur,hc⟩:=h.nJ g rfl;have hf:Fr [38] w (w.setCell ⟨g,i*8+j,none⟩ u):=Fr.set hc (by simp);have t1:5∉[38]:=by decide
 have t2:23∉[38]:=by decide
 refine ⟨RT.put h hx hj u nd' (xF.fr hf t1 t2) (fun c _ he=>?_),hf⟩;obtain ⟨P,V,H,U,rfl,h1,h2,h3,h4⟩:=he;exact hn _ P V H U (h1.fr hf t1) (h2.fr hf t1) (h3.fr hf t2) (h4.fr hf t2) hf
theorem Rd.z64 (h:Rd w v l) (hk:∀ b j,v.ownBlock=some b->w'.cell? ⟨b,j,none⟩=w.cell? ⟨b,j,none⟩\/w.cell? ⟨b,j,none⟩=some (.U 0)):Rd w' v l:=by
 obtain ⟨p,c,rfl,hd⟩:=h;refine ⟨p,c,rfl,?_⟩;rcases hd with hd | ⟨b,o,rfl,hd⟩;{exact .inl hd};{refine .inr ⟨b,o,rfl,fun i hi=>?_⟩;rcases hk b (o+i) rfl with e | e;{rw [e];exact hd i hi};{have:=hd i hi;rw [e] at this;simp at this}}
theorem AU.fr (h:AU w w' v L):Fr [23] w w':=Fr.grown h.1 fun b hb=>by
 obtain ⟨⟨-,cur,hc⟩,-⟩:=h.2 b hb;exact ⟨cur,_,hc,by simp⟩
theorem AU.cell (h:AU w w' v L) (b j:Nat) (hb:b<w.heap.size):w'.cell? ⟨b,j,none⟩=w.cell? ⟨b,j,none⟩\/w.cell? ⟨b,j,none⟩=some (.U 0):=by
 by_cases e:v.ownBlock=some b;{rcases (h.2 b e).2 with hc | ⟨h0,hc⟩;{exact .inl (hc j)};{by_cases ej:j=L;{rw [ej];exact .inr h0};{exact .inl (hc j ej)}}};{exact .inl (ai (h.1.block b hb (fun e2=>e e2.symm)) _)}
theorem RA.au (h:RA w0 w sb rb g p cd c t vs) (ha:AU w w1 v L) (yB:∀ b,v.ownBlock=some b->w0.heap.size<=b):RA w0 w1 sb rb g p cd c t vs:=by
 have f:=ha.fr;obtain ⟨cur,hc⟩:=h.jP.ty;have hg:=f.2 _ _ _ _ (by decide) hc;have hgk:=hg.trans hc.symm;have mn:=h.jP.lt;refine ⟨h.box.fr f,h.res.fr f,⟨(ai hgk _).trans h.jP.c0,(ai hgk _).trans h.jP.c1,⟨cur,hg⟩,?_,h.jP.lo⟩,h.dr.au ha yB,h.ne,h.lo,h.gl⟩;by_cases hcd:cd=[];{obtain ⟨q,d,e1,-⟩:=h.jP.rd;exact ⟨q,d,e1,.inl hcd⟩};{exact h.jP.rd.z64 fun b j e=>ha.cell b j (by have:=h.jP.lo hcd b e;omega)}
theorem Hx (w:World):∃ W1 W2,W1=w.alloc (.cells #[.int .u8 47,.int .u8 97] 5)/\(convert 22 22 (.S (some ⟨w.heap.size,0,none⟩) 2 2)).run prog W1=.ok (.S (some ⟨w.heap.size,0,none⟩) 2 2) W2/\Bw w W1/\Bw w W2/\TB W2 (.S (some ⟨w.heap.size,0,none⟩) 2 2) [47,97]:=by
 have hcv:=Lib.run_convert_bytes_const (P:=prog) w 22 5 #[.int .u8 47,.int .u8 97] 2 2 underlying22 underlying5;refine ⟨_,_,rfl,hcv,aJ.alloc aA _,aJ.alloc aA _,⟨_,_,rfl,.inr ⟨w.heap.size,0,rfl,fun i hi=>?_⟩⟩,fun b e=>.inr ?_,_,_,_,rfl,by omega,by unfold maxLen;omega⟩;{
 match i,hi with
 | 0,_=>(rw [Nat.zero_add,tT];rfl)
 | 1,_=>(rw [Nat.zero_add,tT];rfl)}
 {simp only [Value.ownBlock,Option.some.injEq] at e;subst e;exact ⟨#[.int .u8 47,.int .u8 97],(2,3),by show (w.heap.push _)[w.heap.size]?=_;simp⟩}
def Zx (w:World) (g j:Nat):Nat:=match w.cell? ⟨g,j*3+2,none⟩ with
 | some (.slice _ n _)=>20-n
 | _=>0
theorem KW {g n cap:Nat} (h:dJ B w (.S (some ⟨g,0,none⟩) n cap) ss Qs) (hs:ss[j]?=some s):Zx w g j=20-s.2.2.length:=by
 obtain ⟨g',Q,e,-,-,-,-,-,hc,hq,-⟩:=dJ.at h hs;obtain ⟨rfl,-⟩:=jf e;obtain ⟨p,c,rfl,-⟩:=RT.form hq;unfold Zx;rw [hc]
theorem Ay {ops:Array Oper} {o:Oper} {a:Act} {K:Act->World->Prop} {Q:Exit->Act->World->Prop} {E:Prop} {t tn:TypeId} {vs vx:Value} (hr:(Builtin.append_ #[t,tn] o.type #[vs,vx]).run prog w=.ok v' w') (h:K (a.put o.dst v') w') {s x:Operand} (jK:o.guard=none:=by rfl) (ho:o.op=.call { callee:=.builtin .append,args:=#[s,x],argTypes:=#[t,tn] }:=by rfl) (hs:a.eval s=vs:=by rfl) (hx:a.eval x=vx:=by rfl) :
  if Region.wanted o (yielded ops a.tmps)=true then Oper.wp prog o a w K Q else E:=by
 have hw:Region.wanted o (yielded ops a.tmps)=true:=by simp [Region.wanted,jK]
 rw [if_pos hw];exact Lib.wp_append_run w s x t tn ho vs vx hs hx v' w' hr h
theorem RA.row {T:List TypeId} (h:RA w0 w sb rb g p cd c t vs) {b:Nat} {u:Value} (hf:Fr T w (w.setCell ⟨b,j,none⟩ u)) (ht:27∉T) (hb:w0.heap.size<=b):RA w0 (w.setCell ⟨b,j,none⟩ u) sb rb g p cd c t vs:=
 h.fr hf ht (aJ.setCell (p:=⟨b,j,none⟩) hb _)
theorem ic.ak0 {gs m cs:Nat} (h:ic w (.S (some ⟨gs,0,none⟩) m cs) ss) (hm:ss.length=m) (c':Nat):ic w (.S (some ⟨gs,3,none⟩) (m-1) c') (ss.drop 1):=by
 obtain ⟨p,c,e,hd⟩:=h;simp only [Value.slice.injEq] at e;obtain ⟨rfl,-,rfl⟩:=e;refine ⟨_,_,by rw [List.length_drop,hm],?_⟩;rcases hd with rfl | ⟨b,o,e2,hc⟩;{exact .inl rfl};{obtain ⟨rfl,rfl⟩:=jf e2;refine .inr ⟨gs,3,rfl,fun i s hi=>?_⟩;rw [List.getElem?_drop,Nat.add_comm] at hi;have:=hc (i+1) s hi;rw [show 0+(i+1)*3=3+i*3 by omega] at this;exact this}
theorem RA.aF4 {o0 o1 o2 o3 o4 o5:Value} (h:RA w0 w sb rb g p cd c t [o0,o1,o2,o3,o4,o5]) {v0 v1 v2 v3 v4 v5:Value} {Z:World} (hZ:Z=bg w sb v0 v1 v2 v3 v4 v5):RA w0 Z sb rb g p cd c t [v0,v1,v2,v3,v4,v5]/\Fr [27] w Z:=by
 subst hZ;obtain ⟨cur,hc⟩:=h.box.2;have b2:=bt w sb v0 v1 v2 v3 v4 v5;exact ⟨⟨h.box.put _ _ _ _ _ _,h.res.rj h.ne _ _ _ _ _ _,h.jP.low (b2.mono h.lo.1) h.gl,h.dr.add (b2.mono h.lo.1),h.ne,h.lo,h.gl⟩,dT hc⟩
def qp (w0 wc:World) (sb rb g:Nat) (p:Option Addr) (cd:List Int) (c:Nat) (D:SD):Prop:=∃ t ps cs qs ds,RA w0 wc sb rb g p cd c t [.U D.e,.U D.g,.U D.x,.I D.t,.S ps D.ss.length cs,.S qs D.ns.length ds]/\∀ w',Kx wc w'->ic w' (.S ps D.ss.length cs) D.ss/\kJ w' (.S qs D.ns.length ds) D.ns
theorem qp.of {cs:Nat} (h:RA w0 wc sb rb g p cd c t [.U D.e,.U D.g,.U D.x,.I D.t,.S ps n1 cs,.S qs m1 ds]) (hS:∀ w',Kx wc w'->ic w' (.S ps n1 cs) D.ss) (hN:∀ w',Kx wc w'->kJ w' (.S qs m1 ds) D.ns):qp w0 wc sb rb g p cd c D:=by
 have e1:n1=D.ss.length:=by obtain ⟨p',c',e,-⟩:=hS wc (Fr.refl _ _);simp only [Value.slice.injEq] at e;exact e.2.1
 have e2:m1=D.ns.length:=by obtain ⟨p',c',e,-⟩:=hN wc (Fr.refl _ _);simp only [Value.slice.injEq] at e;exact e.2.1
 subst e1 e2;exact ⟨t,ps,cs,qs,ds,h,fun w' hf=>⟨hS w' hf,hN w' hf⟩⟩
theorem qp.sp {cs:Nat} {B2 B3:Nat} (h:RA w0 wc sb rb g p cd c t [.U D.e,.U D.g,.U D.x,.I D.t,.S ps n1 cs,.S qs m1 ds]) (hS:dJ B wc (.S ps n1 cs) D.ss Qs) (hN:bS B3 B2 wc (.S qs m1 ds) D.ns):qp w0 wc sb rb g p cd c D:=
 qp.of h (fun w' hf=>hS.kx hf) (fun w' hf=>bS.kx hN hf)
end Go.Proofs.YtcfcafeciggjeaaGreatDoor
