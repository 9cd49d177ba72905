import Derived.Test.YtcfcafeciggjeaaGreatDoorDW6
import Derived.Test.YtcfcafeciggjeaaGreatDoorK38
namespace Go.Proofs.YtcfcafeciggjeaaGreatDoor
set_option linter.all false
set_option maxRecDepth 100000
open Go.ChangeShapes Go.WideShapes Go.ChangeAt Go.RowKit Go.Deep Go.Proofs.Tryz
variable {B L c cs ds g j m1 n1 rb sb t:Nat} {D:SD} {Qs vs:List Value} {cd l:List Int} {p ps qs:Option Addr} {ss:List aY} {v v':Value} {w0 wc:World}
def AU (w w':World) (v:Value) (L:Nat):Prop:=w.grownBy w' v.ownBlock/\∀ b,v.ownBlock=some b->((∃ cur,w'.heap[b]?=some (.cells cur 23))/\∃ cur,w.heap[b]?=some (.cells cur 23))/\((∀ j,w'.cell? ⟨b,j,none⟩=w.cell? ⟨b,j,none⟩)\/(w.cell? ⟨b,L,none⟩=some (.U 0)/\∀ j,j≠L->w'.cell? ⟨b,j,none⟩=w.cell? ⟨b,j,none⟩))
theorem TW.au {w w':World} (h:TW w v' l) (hz:∀ i∈l,i≠0) (ha:AU w w' v L):TW w' v' l:=by
 obtain ⟨⟨p,c,rfl,hd⟩,h2⟩:=h;refine ⟨⟨p,c,rfl,?_⟩,fun b e=>?_⟩;{
 rcases hd with hd | ⟨b,o,rfl,hd⟩;{exact .inl hd};{
 refine .inr ⟨b,o,rfl,fun i hi=>?_⟩;obtain ⟨cur,hb⟩:=h2 b rfl;by_cases e:v.ownBlock=some b;{
 rcases (ha.2 b e).2 with hk | ⟨h0,hk⟩;{rw [hk];exact hd i hi};{
 by_cases ej:o+i=L;{
 have:=hd i hi;rw [ej,h0] at this;simp only [Option.some.injEq,Value.int.injEq,true_and] at this;have hm:l.getD i 0∈l:=by rw [List.getD_eq_getElem?_getD,aK hi];exact List.getElem_mem hi
 exact absurd this.symm (hz _ hm)};{rw [hk _ ej];exact hd i hi}}};{exact (ai (ha.1.block b (gN hb) (fun e2=>e e2.symm)) _).trans (hd i hi)}}};{obtain ⟨cur,hb⟩:=h2 b e;by_cases e2:v.ownBlock=some b;{exact (ha.2 b e2).1.1};{exact ⟨cur,(ha.1.block b (gN hb) (fun e3=>e2 e3.symm)).trans hb⟩}}
theorem xz.au {w w1 w2:World} (h:xz g w w1) (ha:AU w1 w2 v L) (yB:∀ b,v.ownBlock=some b->w.heap.size<=b):xz g w w2:=
 h.tr ⟨ha.1.os,ha.1.tape,ha.1.output⟩ ha.1.size fun b hb hl=>ha.1.block b (by have:=h.2.1;omega) (fun e=>by have:=yB b e.symm;omega)
theorem Xq {w:World} (h:TU B w v l) (hl:l.length<=1000) (y:Int) (g2:Nat) (c0:w.cell? ⟨g2,0,none⟩=some (.U y)) :
  ∃ p' c' w',(Builtin.append_ #[36,36] 36 #[v,.S (some ⟨g2,0,none⟩) 1 1]).run prog w=.ok (.S p' (l.length+1) c') w'/\TW w' (.S p' (l.length+1) c') (l++[y])/\AU w w' v l.length:=by
 obtain ⟨i,hi,hz,hs,hb⟩:=info_parts Tryz.infoU64;obtain ⟨⟨p,c,rfl,hd⟩,h2,hzt,-⟩:=h;have eh:∀ j u,([.U y]:List Value)[j]?=some u->w.cell? ((⟨g2,0,none⟩:Addr).add j)=some u:=fun j u hu=>by
  rw [Addr.add_lit];cases j with
  | zero=>simp at hu;subst hu;exact c0
  | succ j=>simp at hu
 have IZ:([.U y]:List Value).length=1*i.size:=by rw [hs];rfl
 cases p with
 | none=>
  have tJ:l=[]:=by rcases hd with hd | ⟨b,o,e,-⟩;{exact hd};{cases e}
  subst tJ;have ec:=hzt.2 _ _ rfl;subst ec;obtain ⟨v',w',hr,h3,h4,-⟩:=run_append_own (P:=prog) w w.heap.size 36 36 23 i (.U 0) 1 8 underlying36 hi hz hs hb rfl bl (.S none 0 0) 0 [] (World.ownsRow_nil w _ _ 1) ⟨g2,0,none⟩ 1 1 [.U y] rfl eh (fun u hu=>by simp at hu;subst hu;rfl) jC ab aA;have ho:ua w.heap.size w' v' [y]:=h3;obtain ⟨p',c',e⟩:=ho.form;subst e;refine ⟨p',c',w',hr,⟨ho.rdu,fun b e=>?_⟩,h4,fun b e=>by simp [Value.ownBlock] at e⟩
  change (Value.S p' [y].length c').ownBlock=some b at e
  rcases ho.2 with ⟨e2,-⟩ | ⟨g,cap,cur,e2,-,hg,-⟩;{rw [e2] at e;simp [Value.ownBlock] at e};{rw [e2] at e;simp only [Value.ownBlock,Option.some.injEq] at e;subst e;exact ⟨cur,hg⟩}
 | some a=>
  obtain ⟨a1,a2,a3⟩:=hzt.1 a _ _ rfl;obtain ⟨b,o,sp⟩:=a;simp only at a1 a2 a3;subst a1 a2;obtain ⟨cur,hg⟩:=h2 b rfl;have bG:∀ j,j<l.length->w.cell? ⟨b,j,none⟩=some (.U (l.getD j 0)):=fun j hj=>by rcases hd with rfl | ⟨b',o',e,hc⟩;{simp at hj};{obtain ⟨rfl,rfl⟩:=jf e;have:=hc j hj;rwa [Nat.zero_add] at this}
  have Ly:∀ j,j<(l++[y]).length->(if j=l.length then some (Value.U y) else w.cell? ⟨b,j,none⟩)=some (.U ((l++[y]).getD j 0)):=fun j hj=>by
   simp at hj;by_cases ej:j=l.length;{
 rw [if_pos ej,ej,List.getD_eq_getElem?_getD,List.getElem?_append_right aA,Nat.sub_self]
 rfl}
   {rw [if_neg ej,bG j ab,List.getD_eq_getElem?_getD,List.getD_eq_getElem?_getD,List.getElem?_append_left ab]}
  by_cases sg:l.length+1<=c;{
 have h0:=a3 l.length aA ab;have bj:l.length<cur.toList.length:=by rw [cell_of_row _ _ _ _ _ _ hg] at h0;have:=(Array.getElem?_eq_some_iff.1 h0).1;simpa using this
 have hr:=run_append_room (P:=prog) w 36 36 23 i underlying36 hi b l.length c cur hg ⟨g2,0,none⟩ 1 1 [.U y] IZ eh (fun u hu=>by simp at hu;subst hu;rfl) sg (by rw [hs];simp at bj ⊢;omega);have aT3:(cur.toList.take (l.length*i.size)++[Value.U y]++cur.toList.drop (l.length*i.size+[Value.U y].length))=cur.toList.set l.length (.U y):=by rw [hs,List.set_eq_take_append_cons_drop,if_pos bj];simp
 rw [aT3] at hr;have hh:=setRow_heap w b cur (cur.toList.set l.length (.U y)).toArray _ _ hg;have hcj:∀ j,(w.setRow b (cur.toList.set l.length (.U y)).toArray).cell? ⟨b,j,none⟩=if j=l.length then some (.U y) else w.cell? ⟨b,j,none⟩:=fun j=>by rw [cell_of_row _ _ _ _ _ _ hh,cell_of_row _ _ _ _ _ _ hg,List.getElem?_toArray,List.getElem?_set];by_cases ej:l.length=j;{rw [if_pos ej,if_pos ej.symm,if_pos bj]};{rw [if_neg ej,if_neg (fun e=>ej e.symm),Array.getElem?_toList]}
 refine ⟨_,_,_,hr,⟨⟨_,_,by rw [List.length_append];rfl,.inr ⟨b,0,rfl,fun j hj=>?_⟩⟩,fun b' e=>?_⟩,⟨rfl,rfl,rfl,aU,fun k _ hk=>setRow_other w b k _ (fun e=>hk (by simp [Value.ownBlock,e]))⟩,fun b' e=>?_⟩;{rw [Nat.zero_add,hcj];exact Ly j hj};{simp only [Value.ownBlock,Option.some.injEq] at e;subst e;exact ⟨_,hh⟩};{simp only [Value.ownBlock,Option.some.injEq] at e;subst e;exact ⟨⟨⟨_,hh⟩,_,hg⟩,.inr ⟨h0,fun j hj=>by rw [hcj,if_neg hj]⟩⟩}};{
 have holds:∀ j u,(l.map (Value.int .u64))[j]?=some u->w.cell? ((⟨b,0,none⟩:Addr).add j)=some u:=fun j u hu=>by
  have hj:j<l.length:=by have:=(aN.1 hu).1;simpa using this
  rw [Addr.add_lit,Nat.zero_add,bG j hj,<-hu,List.getElem?_map,List.getD_eq_getElem?_getD,aK hj]
  rfl
 have hr:=run_append_grow (P:=prog) w 36 36 23 i (.U 0) underlying36 hi hz ⟨b,0,none⟩ l.length c (l.map (Value.int .u64)) (by rw [hs];simp) holds ⟨g2,0,none⟩ 1 1 [.U y] IZ eh ab ab (growslice_fits ab (by rw [hb];omega));refine ⟨_,_,_,hr,⟨⟨_,_,by rw [List.length_append];rfl,.inr ⟨w.heap.size,0,rfl,fun j hj=>?_⟩⟩,fun b' e=>?_⟩,⟨rfl,rfl,rfl,aU,fun k hk _=>Go.heap_alloc_old w.drew _ hk⟩,fun b' e=>?_⟩;{
 rw [Nat.zero_add,cell_of_row _ w.heap.size _ _ _ _ (Go.heap_alloc_new w.drew _)];rw [List.length_append] at hj;simp at hj;rw [Array.getElem?_append_left dx,show (l.map (Value.int .u64)).toArray++[Value.U y].toArray=((l++[y]).map (Value.int .u64)).toArray by simp,List.getElem?_toArray,List.getElem?_map,List.getD_eq_getElem?_getD,aK dx]
 rfl}
 {simp only [Value.ownBlock,Option.some.injEq] at e;subst e;exact ⟨_,Go.heap_alloc_new w.drew _⟩};{simp only [Value.ownBlock,Option.some.injEq] at e;subst e;have hk:(w.drew.alloc (.cells ((l.map (Value.int .u64)).toArray++[Value.U y].toArray++Builtin.zeroCells (Value.cells (.U 0)) (grownCap w (l.length+1) c 23-(l.length+1))) 23)).heap[b]?=w.heap[b]?:=Go.heap_alloc_old w.drew _ (gN hg);exact ⟨⟨⟨cur,hk.trans hg⟩,cur,hg⟩,.inl fun j=>ai hk _⟩}}
theorem Ig.put {w:World} {g n cap:Nat} {ns:List aD} (h:Ig B w (.S (some ⟨g,0,none⟩) n cap) ns) {i:Nat} {nd:aD} (hx:ns[i]?=some nd) (hj:j<8) (u:Value) (nd':aD)
  (hn:∀ w' P V H U,TB w' P nd.path->TB w' V nd.value->TW w' H nd.holders->TW w' U nd.watchers->Fr [38] w w'->xF w' nd' ([P,V,.U nd.owner,.I nd.mode,H,.U nd.aB,.U nd.gen,U].set j u)) :
  Ig B (w.setCell ⟨g,i*8+j,none⟩ u) (.S (some ⟨g,0,none⟩) n cap) (ns.set i nd')/\Fr [38] w (w.setCell ⟨g,i*8+j,none⟩ u):=by
 obtain ⟨cur,hc⟩:=h.nJ g rfl;have hf:Fr [38] w (w.setCell ⟨g,i*8+j,none⟩ u):=Fr.set hc aU;have t1:5∉[38]:=bl;have t2:23∉[38]:=bl;refine ⟨RT.put h hx hj u nd' (xF.fr hf t1 t2) (fun c _ he=>?_),hf⟩;obtain ⟨P,V,H,U,rfl,h1,h2,h3,h4⟩:=he;exact hn _ P V H U (h1.fr hf t1) (h2.fr hf t1) (h3.fr hf t2) (h4.fr hf t2) hf
theorem Rd.z64 {w w':World} (h:Rd w v l) (hk:∀ b j,v.ownBlock=some b->w'.cell? ⟨b,j,none⟩=w.cell? ⟨b,j,none⟩\/w.cell? ⟨b,j,none⟩=some (.U 0)):Rd w' v l:=by
 obtain ⟨p,c,rfl,hd⟩:=h;refine ⟨p,c,rfl,?_⟩;rcases hd with hd | ⟨b,o,rfl,hd⟩;{exact .inl hd};{refine .inr ⟨b,o,rfl,fun i hi=>?_⟩;rcases hk b (o+i) rfl with e | e;{rw [e];exact hd i hi};{have:=hd i hi;rw [e] at this;simp at this}}
theorem AU.fr {w w':World} (h:AU w w' v L):Fr [23] w w':=Fr.grown h.1 fun b hb=>by
 obtain ⟨⟨-,cur,hc⟩,-⟩:=h.2 b hb;exact ⟨cur,_,hc,aU⟩
theorem AU.cell {w w':World} (h:AU w w' v L) (b j:Nat) (hb:b<w.heap.size):w'.cell? ⟨b,j,none⟩=w.cell? ⟨b,j,none⟩\/w.cell? ⟨b,j,none⟩=some (.U 0):=by
 by_cases e:v.ownBlock=some b;{rcases (h.2 b e).2 with hc | ⟨h0,hc⟩;{exact .inl (hc j)};{by_cases ej:j=L;{rw [ej];exact .inr h0};{exact .inl (hc j ej)}}};{exact .inl (ai (h.1.block b hb (fun e2=>e e2.symm)) _)}
theorem RA.au {w0 w w1:World} (h:RA w0 w sb rb g p cd c t vs) (ha:AU w w1 v L) (yB:∀ b,v.ownBlock=some b->w0.heap.size<=b):RA w0 w1 sb rb g p cd c t vs:=by
 have f:=ha.fr;obtain ⟨cur,hc⟩:=h.jP.ty;have hg:=f.2 _ _ _ _ bl hc;have hgk:=hg.trans hc.symm;have mn:=h.jP.lt;refine ⟨h.box.fr f,h.res.fr f,⟨(ai hgk _).trans h.jP.c0,(ai hgk _).trans h.jP.c1,⟨cur,hg⟩,?_,h.jP.lo⟩,h.dr.au ha yB,h.ne,h.lo,h.gl⟩;by_cases hcd:cd=[];{obtain ⟨q,d,e1,-⟩:=h.jP.rd;exact ⟨q,d,e1,.inl hcd⟩};{exact h.jP.rd.z64 fun b j e=>ha.cell b j (by have:=h.jP.lo hcd b e;omega)}
theorem Hx (w:World):∃ W1 W2,W1=w.alloc (.cells #[.int .u8 47,.int .u8 97] 5)/\(convert 22 22 (.S (some ⟨w.heap.size,0,none⟩) 2 2)).run prog W1=.ok (.S (some ⟨w.heap.size,0,none⟩) 2 2) W2/\Bw w W1/\Bw w W2/\TB W2 (.S (some ⟨w.heap.size,0,none⟩) 2 2) [47,97]:=by
 have hcv:=Lib.run_convert_bytes_const (P:=prog) w 22 5 #[.int .u8 47,.int .u8 97] 2 2 underlying22 underlying5;refine ⟨_,_,rfl,hcv,aJ.alloc aA _,aJ.alloc aA _,⟨_,_,rfl,.inr ⟨w.heap.size,0,rfl,fun i hi=>?_⟩⟩,fun b e=>.inr ?_,_,_,_,rfl,ab,jC⟩;{
 match i,hi with
 | 0,_=>(rw [Nat.zero_add,tT];rfl)
 | 1,_=>(rw [Nat.zero_add,tT];rfl)}
 {simp only [Value.ownBlock,Option.some.injEq] at e;subst e;exact ⟨#[.int .u8 47,.int .u8 97],(2,3),by show (w.heap.push _)[w.heap.size]?=_;simp⟩}
def Zx (w:World) (g j:Nat):Nat:=match w.cell? ⟨g,j*3+2,none⟩ with
 | some (.slice _ n _)=>20-n
 | _=>0
theorem V9 {w:World} {g n cap:Nat} (h:SpS B w (.S (some ⟨g,0,none⟩) n cap) ss Qs) {s:aY} (hs:ss[j]?=some s):Zx w g j=20-s.2.2.length:=by
 obtain ⟨g',Q,e,-,-,-,-,-,hc,hq,-⟩:=SpS.at h hs;obtain ⟨rfl,-⟩:=jf e;obtain ⟨p,c,rfl,-⟩:=RT.form hq;unfold Zx;rw [hc]
theorem Ay {w:World} {ops:Array Oper} {o:Oper} {a:Act} {K:Act->World->Prop} {Q:Exit->Act->World->Prop} {E:Prop} {t tn:TypeId} {vs vx:Value} {w':World} (hr:(Builtin.append_ #[t,tn] o.type #[vs,vx]).run prog w=.ok v' w') (h:K (a.put o.dst v') w') {s x:Operand} (jK:o.guard=none:=by rfl) (ho:o.op=.call { callee:=.builtin .append,args:=#[s,x],argTypes:=#[t,tn] }:=by rfl) (hs:a.eval s=vs:=by rfl) (hx:a.eval x=vx:=by rfl) :
  if Region.wanted o (yielded ops a.tmps)=true then Oper.wp prog o a w K Q else E:=by
 have hw:Region.wanted o (yielded ops a.tmps)=true:=by simp [Region.wanted,jK]
 rw [if_pos hw];exact Lib.wp_append_run w s x t tn ho vs vx hs hx v' w' hr h
theorem RA.row {T:List TypeId} {w0 w:World} (h:RA w0 w sb rb g p cd c t vs) {b:Nat} {u:Value} (hf:Fr T w (w.setCell ⟨b,j,none⟩ u)) (ht:27∉T) (hb:w0.heap.size<=b):RA w0 (w.setCell ⟨b,j,none⟩ u) sb rb g p cd c t vs:=
 h.fr hf ht (aJ.setCell (p:=⟨b,j,none⟩) hb _)
theorem ic.ak0 {w:World} {gs m:Nat} (h:ic w (.S (some ⟨gs,0,none⟩) m cs) ss) (hm:ss.length=m) (c':Nat):ic w (.S (some ⟨gs,3,none⟩) (m-1) c') (ss.drop 1):=by
 obtain ⟨p,c,e,hd⟩:=h;simp only [Value.slice.injEq] at e;obtain ⟨rfl,-,rfl⟩:=e;refine ⟨_,_,by rw [List.length_drop,hm],?_⟩;rcases hd with rfl | ⟨b,o,e2,hc⟩;{exact .inl rfl};{obtain ⟨rfl,rfl⟩:=jf e2;refine .inr ⟨gs,3,rfl,fun i s hi=>?_⟩;rw [List.getElem?_drop,Nat.add_comm] at hi;have:=hc (i+1) s hi;rw [show 0+(i+1)*3=3+i*3 by omega] at this;exact this}
theorem RA.aF4 {w0 w:World} {o0 o1 o2 o3 o4 o5:Value} (h:RA w0 w sb rb g p cd c t [o0,o1,o2,o3,o4,o5]) {v0 v1 v2 v3 v4 v5:Value} {Z:World} (hZ:Z=bg w sb v0 v1 v2 v3 v4 v5):RA w0 Z sb rb g p cd c t [v0,v1,v2,v3,v4,v5]/\Fr [27] w Z:=by
 subst hZ;obtain ⟨cur,hc⟩:=h.box.2;have b2:=bt w sb v0 v1 v2 v3 v4 v5;exact ⟨⟨h.box.put _ _ _ _ _ _,h.res.rj h.ne _ _ _ _ _ _,h.jP.low (b2.mono h.lo.1) h.gl,h.dr.add (b2.mono h.lo.1),h.ne,h.lo,h.gl⟩,dT hc⟩
def qp (w0 wc:World) (sb rb g:Nat) (p:Option Addr) (cd:List Int) (c:Nat) (D:SD):Prop:=∃ t ps cs qs ds,RA w0 wc sb rb g p cd c t [.U D.e,.U D.g,.U D.x,.I D.t,.S ps D.ss.length cs,.S qs D.ns.length ds]/\∀ w',Kx wc w'->ic w' (.S ps D.ss.length cs) D.ss/\kJ w' (.S qs D.ns.length ds) D.ns
theorem qp.of (h:RA w0 wc sb rb g p cd c t [.U D.e,.U D.g,.U D.x,.I D.t,.S ps n1 cs,.S qs m1 ds]) (hS:∀ w',Kx wc w'->ic w' (.S ps n1 cs) D.ss) (hN:∀ w',Kx wc w'->kJ w' (.S qs m1 ds) D.ns):qp w0 wc sb rb g p cd c D:=by
 have e1:n1=D.ss.length:=by obtain ⟨p',c',e,-⟩:=hS wc (Fr.refl _ _);simp only [Value.slice.injEq] at e;exact e.2.1
 have e2:m1=D.ns.length:=by obtain ⟨p',c',e,-⟩:=hN wc (Fr.refl _ _);simp only [Value.slice.injEq] at e;exact e.2.1
 subst e1 e2;exact ⟨t,ps,cs,qs,ds,h,fun w' hf=>⟨hS w' hf,hN w' hf⟩⟩
theorem qp.sp {B2 B3:Nat} (h:RA w0 wc sb rb g p cd c t [.U D.e,.U D.g,.U D.x,.I D.t,.S ps n1 cs,.S qs m1 ds]) (hS:SpS B wc (.S ps n1 cs) D.ss Qs) (hN:bS B3 B2 wc (.S qs m1 ds) D.ns):qp w0 wc sb rb g p cd c D:=
 qp.of h (fun w' hf=>hS.kx hf) (fun w' hf=>bS.kx hN hf)
end Go.Proofs.YtcfcafeciggjeaaGreatDoor
