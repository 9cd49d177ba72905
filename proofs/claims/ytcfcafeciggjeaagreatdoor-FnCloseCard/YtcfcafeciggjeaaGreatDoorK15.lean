import Derived.Test.YtcfcafeciggjeaaGreatDoorK14
namespace Go.Proofs.YtcfcafeciggjeaaGreatDoor
set_option linter.unusedVariables false
set_option linter.unusedSimpArgs false
set_option maxRecDepth 100000
open Go.ChangeShapes Go.WideShapes Go.ChangeAt Go.RowKit
variable {A A':List Lf} {B i j sz:Nat} {Ls:List (List Lf)} {ty:TypeId} {v:Value} {w w':World} {xs:List aL}
theorem dI.read {α:Type} {el:World->α->List Value->List Lf->Prop} {xs:List α} (h:dI el ty sz B w v xs Ls) :
  ∃ p cap,v=.slice p xs.length cap/\(xs=[]\/∃ g,p=some ⟨g,0,none⟩/\∀ (i:Nat) (x:α),xs[i]?=some x->∃ c l,el w x c l/\∀ (j:Nat) (u:Value),c[j]?=some u->w.cell? ⟨g,0+i*sz+j,none⟩=some u):=by
 obtain ⟨cs,h1,h2,h3,h4,h5,h6,h7⟩:=h;rcases id h4.2 with ⟨rfl,h0⟩ | ⟨g,cap,cur,rfl,hb,hg,-,-,-,-⟩;{exact ⟨none,0,by rw [h0],.inl (List.length_eq_zero_iff.1 h0)⟩};{
 refine ⟨_,cap,rfl,.inr ⟨g,rfl,fun i x hx=>?_⟩⟩;have hi:=(aJ.1 hx).1;obtain ⟨c,hc⟩:∃ x,cs[i]?=some x:=⟨_,aE (by omega)⟩;obtain ⟨l,hl⟩:∃ x,Ls[i]?=some x:=⟨_,aE (by omega)⟩;refine ⟨c,l,h5 i x c l hx hc hl,fun j u hu=>?_⟩;have hlen:c.length=sz:=h3 c (aF hc);have hj:j<sz:=by have:=(aJ.1 hu).1;omega
 have ZZ:i*sz+sz<=xs.length*sz:=by rw [<-Nat.succ_mul];exact Nat.mul_le_mul_right _ hi
 rw [Nat.zero_add,h4.cellAt (i*sz+j) (by omega),lW h3 hc hj];exact hu}
theorem dI.ev {es:List Ev} (h:dI wW 49 2 B w v es Ls):iC w v es/\∃ A,tC w v es A/\ja B w A:=by
 refine ⟨?_,h.lv (zG w) fun x c l b a mF hc hf bq jL aK=>?_⟩;{obtain ⟨p,cap,rfl,hd⟩:=h.read;refine ⟨p,cap,rfl,?_⟩;rcases hd with hd | ⟨g,rfl,hd⟩;{exact .inl hd};{refine .inr ⟨g,0,rfl,fun i e he=>?_⟩;obtain ⟨c,l,⟨p',cc,rfl,h2,h3,h4⟩,bE⟩:=hd i e he;exact ⟨bE 0 _ rfl,_,bE 1 _ rfl,h2,h3⟩}};{obtain ⟨p',cc,rfl,h2,h3,h4⟩:=mF;refine ⟨⟨b,a,.i64⟩::l,⟨p',cc,l,rfl,hc 1 _ rfl,h4⟩,?_,?_,fun y hy=>?_⟩;{rw [List.map_cons,List.nodup_cons];refine ⟨fun hm=>?_,aK⟩;obtain ⟨y,hy,e⟩:=List.mem_map.1 hm;simp only [Prod.mk.injEq] at e;exact bq y hy e.1};{intro y hy;rcases List.mem_cons.1 hy with rfl | hy;{exact ⟨⟨_,hc 0 _ rfl⟩,hf _⟩};{exact jL y hy}};{rcases List.mem_cons.1 hy with rfl | hy;{exact .inr ⟨rfl,by simp,by simp⟩};{exact .inl hy}}}
theorem dI.se {es:List aL} (h:dI ru 35 3 B w v es Ls):gh w v es/\∃ A,zE w v es A/\ja B w A:=by
 refine ⟨?_,h.lv (zy w) fun x c l b a mF hc hf bq jL aK=>?_⟩;{obtain ⟨p,cap,rfl,hd⟩:=h.read;refine ⟨p,cap,rfl,?_⟩;rcases hd with hd | ⟨g,rfl,hd⟩;{exact .inl hd};{refine .inr ⟨g,0,rfl,fun i e he=>?_⟩;obtain ⟨c,l,⟨p',cc,rfl,h2,h3⟩,bE⟩:=hd i e he;exact ⟨bE 0 _ rfl,bE 1 _ rfl,_,bE 2 _ rfl,h2⟩}};{obtain ⟨p',cc,rfl,h2,h3⟩:=mF;refine ⟨⟨b,a,.u64⟩::⟨b,a+1,.i64⟩::l,⟨p',cc,l,rfl,hc 2 _ rfl,h3⟩,?_,?_,fun y hy=>?_⟩;{rw [List.map_cons,List.nodup_cons,List.map_cons,List.nodup_cons];refine ⟨fun hm=>?_,fun hm=>?_,aK⟩;{rcases List.mem_cons.1 hm with e | hm;{simp at e};{obtain ⟨y,hy,e⟩:=List.mem_map.1 hm;simp only [Prod.mk.injEq] at e;exact bq y hy e.1}};{obtain ⟨y,hy,e⟩:=List.mem_map.1 hm;simp only [Prod.mk.injEq] at e;exact bq y hy e.1}};{intro y hy;rcases List.mem_cons.1 hy with rfl | hy;{exact ⟨⟨_,hc 0 _ rfl⟩,hf _⟩};{rcases List.mem_cons.1 hy with rfl | hy;{exact ⟨⟨_,hc 1 _ rfl⟩,hf _⟩};{exact jL y hy}}};{rcases List.mem_cons.1 hy with rfl | hy;{exact .inr ⟨rfl,by simp,by simp⟩};{rcases List.mem_cons.1 hy with rfl | hy;{exact .inr ⟨rfl,by simp,by simp⟩};{exact .inl hy}}}}
theorem uV {b a:Nat} {k1 k2:IntKind} (ic:i≠j) (h:((A++A').map fun a=>(a.b,a.o)).Nodup) (bq:∀ y∈A++A',y.b≠b\/(y.o≠a+i/\y.o≠a+j)):((A++(⟨b,a+i,k1⟩::⟨b,a+j,k2⟩::A')).map fun a=>(a.b,a.o)).Nodup:=by
 rw [List.map_append,List.nodup_append] at h ⊢;obtain ⟨n1,n2,n3⟩:=h;refine ⟨n1,?_,fun x hx y hy=>?_⟩;{rw [List.map_cons,List.nodup_cons,List.map_cons,List.nodup_cons];refine ⟨fun hm=>?_,fun hm=>?_,n2⟩;{rcases List.mem_cons.1 hm with e | hm;{simp at e;exact ic e};{obtain ⟨y,hy,e⟩:=List.mem_map.1 hm;simp only [Prod.mk.injEq] at e;rcases bq y (by simp [hy]) with h | h;{exact h e.1};{exact h.1 e.2}}};{obtain ⟨y,hy,e⟩:=List.mem_map.1 hm;simp only [Prod.mk.injEq] at e;rcases bq y (by simp [hy]) with h | h;{exact h e.1};{exact h.2 e.2}}};{obtain ⟨z,hz,rfl⟩:=List.mem_map.1 hx;have Fb:=bq z (by simp [hz]);rw [List.map_cons,List.map_cons] at hy;rcases List.mem_cons.1 hy with rfl | hy;{intro e;simp only [Prod.mk.injEq] at e;rcases Fb with h | h;{exact h e.1};{exact h.1 e.2}};{rcases List.mem_cons.1 hy with rfl | hy;{intro e;simp only [Prod.mk.injEq] at e;rcases Fb with h | h;{exact h e.1};{exact h.2 e.2}};{exact n3 _ (List.mem_map_of_mem hz) _ hy}}}
theorem dI.no {es:List aA} (h:dI jP 38 8 B w v es Ls):mi w v es/\∃ A,Af w v es A/\ja B w A:=by
 refine ⟨?_,h.lv (zF w) fun x c l b a mF hc hf bq jL aK=>?_⟩;{obtain ⟨p,cap,rfl,hd⟩:=h.read;refine ⟨p,cap,rfl,?_⟩;rcases hd with hd | ⟨g,rfl,hd⟩;{exact .inl hd};{refine .inr ⟨g,0,rfl,fun i e he=>?_⟩;obtain ⟨c,l,⟨p0,c0,p1,c1,p4,c4,p7,c7,l0,l1,l4,l7,-,rfl,⟨h3,h4,h5⟩,⟨h6,h7⟩,⟨h8,h9⟩,⟨Vg,Rw⟩⟩,bE⟩:=hd i e he;exact ⟨_,_,_,_,⟨bE 0 _ rfl,bE 1 _ rfl,bE 2 _ rfl,bE 3 _ rfl,bE 4 _ rfl,bE 5 _ rfl,bE 6 _ rfl,bE 7 _ rfl,h3,h6,h8,Vg,h4⟩⟩}};{
 obtain ⟨p0,c0,p1,c1,p4,c4,p7,c7,l0,l1,l4,l7,rfl,rfl,⟨h3,h4,h5⟩,⟨h6,h7⟩,⟨h8,h9⟩,⟨Vg,Rw⟩⟩:=mF;refine ⟨l0++(l1++(⟨b,a+2,.u64⟩::⟨b,a+3,.i64⟩::(l4++(⟨b,a+5,.u64⟩::⟨b,a+6,.u64⟩::l7)))),
  ⟨p0,c0,p1,c1,p4,c4,p7,c7,l0,l1,l4,l7,rfl,⟨hc 0 _ rfl,h5⟩,⟨hc 1 _ rfl,h7⟩,⟨hc 4 _ rfl,h9⟩,⟨hc 7 _ rfl,Rw⟩⟩,?_,?_,fun y hy=>?_⟩
 {
 have s1:(((l0++(l1++l4))++(⟨b,a+5,.u64⟩::⟨b,a+6,.u64⟩::l7)).map fun a=>(a.b,a.o)).Nodup:=uV (by decide) (by simpa using aK) (fun y hy=>.inl (bq y (by simpa using hy)));have s2:=uV (A:=l0++l1) (A':=l4++(⟨b,a+5,.u64⟩::⟨b,a+6,.u64⟩::l7)) (b:=b) (a:=a) (k1:=.u64) (k2:=.i64) (i:=2) (j:=3) (by decide) (by simpa using s1) (fun y hy=>by simp only [List.mem_append,List.mem_cons] at hy;rcases hy with (hy | hy) | hy | rfl | rfl | hy;{exact .inl (bq y (by simp [hy]))};{exact .inl (bq y (by simp [hy]))};{exact .inl (bq y (by simp [hy]))};{exact .inr (by simp)};{exact .inr (by simp)};{exact .inl (bq y (by simp [hy]))})
 simpa using s2};{intro y hy;simp only [List.mem_append,List.mem_cons] at hy;rcases hy with hy | hy | rfl | rfl | hy | rfl | rfl | hy;{exact jL y (by simp [hy])};{exact jL y (by simp [hy])};{exact ⟨⟨_,hc 2 _ rfl⟩,hf _⟩};{exact ⟨⟨_,hc 3 _ rfl⟩,hf _⟩};{exact jL y (by simp [hy])};{exact ⟨⟨_,hc 5 _ rfl⟩,hf _⟩};{exact ⟨⟨_,hc 6 _ rfl⟩,hf _⟩};{exact jL y (by simp [hy])}};{simp only [List.mem_append,List.mem_cons] at hy;rcases hy with hy | hy | rfl | rfl | hy | rfl | rfl | hy;{exact .inl (by simp [hy])};{exact .inl (by simp [hy])};{exact .inr ⟨rfl,by simp,by simp⟩};{exact .inr ⟨rfl,by simp,by simp⟩};{exact .inl (by simp [hy])};{exact .inr ⟨rfl,by simp,by simp⟩};{exact .inr ⟨rfl,by simp,by simp⟩};{exact .inl (by simp [hy])}}}
theorem zE.aM (h:zE w v xs A) (hk:∀ a∈A,w'.heap[a.b]?=w.heap[a.b]?):zE w' v xs A:=by
 refine h.imp fun x b a l hx iV hP=>?_;obtain ⟨p,c,lb,h1,h2,h3⟩:=hP;refine ⟨p,c,lb,h1,?_,tC.aM h3 (fun y hy=>hk y (iV y (by rw [h1];simp [hy])))⟩;have:w'.heap[b]?=w.heap[b]?:=hk ⟨b,a,.u64⟩ (iV _ (by rw [h1];simp));exact (ah this _).trans h2
theorem Af.aM {xs:List aA} (h:Af w v xs A) (hk:∀ a∈A,w'.heap[a.b]?=w.heap[a.b]?):Af w' v xs A:=by
 refine h.imp fun x b a l hx iV hP=>?_;obtain ⟨p0,c0,p1,c1,p4,c4,p7,c7,l0,l1,l4,l7,h1,⟨h2,h3⟩,⟨h4,h5⟩,⟨h6,h7⟩,⟨h8,h9⟩⟩:=hP;have:w'.heap[b]?=w.heap[b]?:=hk ⟨b,a+2,.u64⟩ (iV _ (by rw [h1];simp));have hc:=ah this;exact ⟨p0,c0,p1,c1,p4,c4,p7,c7,l0,l1,l4,l7,h1,⟨(hc _).trans h2,h3⟩,⟨(hc _).trans h4,h5⟩,⟨(hc _).trans h6,h7⟩,⟨(hc _).trans h8,h9⟩⟩
theorem gh.cR (h:gh w v xs) (hl:zE w v xs A) (hk:∀ a∈A,w'.heap[a.b]?=w.heap[a.b]?):gh w' v xs:=by
 obtain ⟨p,c,rfl,hd⟩:=h;refine ⟨p,c,rfl,?_⟩;rcases hd with hd | ⟨b,o,rfl,hd⟩;{exact .inl hd};{
 refine .inr ⟨b,o,rfl,fun i e he=>?_⟩;obtain ⟨Ls,en,lL,eA,fo⟩:=hl.at;obtain ⟨b',o',x,l,e1,hx,uw,hP,-,iV⟩:=fo i (aJ.1 he).1;simp only [Option.some.injEq,Addr.mk.injEq,and_true] at e1;obtain ⟨rfl,rfl⟩:=e1;rw [he] at hx;cases hx;obtain ⟨q,cc,lb,e2,h2,h3⟩:=hP;have hb:w'.heap[b]?=w.heap[b]?:=hk ⟨b,o+i*3,.u64⟩ (iV _ (by rw [e2];simp));obtain ⟨r1,r1',u,r2,r3⟩:=hd i e he;have:u=.slice q e.2.2.length cc:=by rw [h2] at r2;exact (Option.some.inj r2).symm
 subst this;exact ⟨(ah hb _).trans r1,(ah hb _).trans r1',_,(ah hb _).trans r2,r3.cR h3 (fun a ha=>hk a (iV a (by rw [e2];simp [ha])))⟩}
theorem mi.cR {xs:List aA} (h:mi w v xs) (hl:Af w v xs A) (hk:∀ a∈A,w'.heap[a.b]?=w.heap[a.b]?):mi w' v xs:=by
 obtain ⟨p,c,rfl,hd⟩:=h;refine ⟨p,c,rfl,?_⟩;rcases hd with hd | ⟨b,o,rfl,hd⟩;{exact .inl hd};{
 refine .inr ⟨b,o,rfl,fun i e he=>?_⟩;obtain ⟨Ls,en,lL,eA,fo⟩:=hl.at;obtain ⟨b',o',x,l,e1,hx,uw,hP,-,iV⟩:=fo i (aJ.1 he).1;simp only [Option.some.injEq,Addr.mk.injEq,and_true] at e1;obtain ⟨rfl,rfl⟩:=e1;rw [he] at hx;cases hx;obtain ⟨p0,c0,p1,c1,p4,c4,p7,c7,l0,l1,l4,l7,e2,⟨h2,h3⟩,⟨h4,h5⟩,⟨h6,h7⟩,⟨h8,h9⟩⟩:=hP;have hb:w'.heap[b]?=w.heap[b]?:=hk ⟨b,o+i*8+2,.u64⟩ (iV _ (by rw [e2];simp));have hc:=ah hb;obtain ⟨P,V,H,U,na⟩:=hd i e he;have q0:P=_:=Option.some.inj (na.c0.symm.trans h2);have q1:V=_:=Option.some.inj (na.c1.symm.trans h4);have q4:H=_:=Option.some.inj (na.c4.symm.trans h6);have q7:U=_:=Option.some.inj (na.c7.symm.trans h8);subst q0 q1 q4 q7;have hs:∀ y,(y∈l0\/y∈l1\/y∈l4\/y∈l7)->w'.heap[y.b]?=w.heap[y.b]?:=fun y hy=>hk y (iV y (by rw [e2];rcases hy with hy | hy | hy | hy<;>simp [hy]));exact ⟨_,_,_,_,⟨(hc _).trans na.c0,(hc _).trans na.c1,(hc _).trans na.c2,(hc _).trans na.c3,(hc _).trans na.c4,(hc _).trans na.c5,(hc _).trans na.c6,(hc _).trans na.c7,
  na.r0.cR h3 (fun a ha=>hs a (.inl ha)),na.r1.cR h5 (fun a ha=>hs a (.inr (.inl ha))),na.r4.cR h7 (fun a ha=>hs a (.inr (.inr (.inl ha)))),na.r7.cR h9 (fun a ha=>hs a (.inr (.inr (.inr ha)))),na.k0⟩⟩}
theorem yO {cs:List (List Value)} (h:∀ c∈cs,c.length=sz) {c:List Value} (hc:cs[i]?=some c) (hj:j<sz) (u:Value):(cs.set i (c.set j u)).flatten=cs.flatten.set (i*sz+j) u:=by
 induction cs generalizing i with
 | nil=>simp at hc
 | cons d cs ih=>
  cases i with
  | zero=>
   simp at hc;subst hc;rw [List.set_cons_zero,List.flatten_cons,List.flatten_cons,List.set_append_left _ _ (by rw [h d (by simp)];omega)];simp
  | succ i=>
   rw [List.set_cons_succ,List.flatten_cons,List.flatten_cons,List.set_append_right _ _ (by rw [h d (by simp),Nat.succ_mul];omega),h d (by simp),ih (fun c hc=>h c (by simp [hc])) (by simpa using hc)]
   congr 2
   rw [Nat.succ_mul];omega
theorem ja.sub (h:ja B w A) (hs:A'.Sublist A):ja B w A':=
 ⟨h.nd.sublist (hs.map _),fun a ha=>h.lo a (hs.subset ha),fun a ha=>h.qY a (hs.subset ha)⟩
theorem Ig {α:Type} {Ls:List (List α)} {l l':List α} (hl:Ls[i]?=some l) (hs:l'.Sublist l):(Ls.set i l').flatten.Sublist Ls.flatten:=by
 induction Ls generalizing i with
 | nil=>simp at hl
 | cons d Ls ih=>
  cases i with
  | zero=>
   simp at hl;subst hl;rw [List.set_cons_zero,List.flatten_cons,List.flatten_cons];exact hs.append (List.Sublist.refl _)
  | succ i=>
   rw [List.set_cons_succ,List.flatten_cons,List.flatten_cons];exact (List.Sublist.refl _).append (ih (by simpa using hl))
theorem dI.put {α:Type} {el:World->α->List Value->List Lf->Prop} {g n cap:Nat} {xs:List α} (h:dI el ty sz B w (.slice (some ⟨g,0,none⟩) n cap) xs Ls) (hn:xs.length=n)
  (cF:∀ w w' x c l,el w x c l->(∀ a∈l,w'.heap[a.b]?=w.heap[a.b]?)->el w' x c l) {x:α} (hx:xs[i]?=some x) (hj:j<sz) (u:Value) (x':α)
  (mF:∀ c l,c.length=sz->el w x c l->∃ l',l'.Sublist l/\el w x' (c.set j u) l') :
  ∃ Ls',dI el ty sz B (w.setCell ⟨g,i*sz+j,none⟩ u) (.slice (some ⟨g,0,none⟩) n cap) (xs.set i x') Ls'/\∀ a∈Ls'.flatten,a∈Ls.flatten:=by
 obtain ⟨cs,h1,h2,h3,h4,h5,h6,h7⟩:=h;have vg:=(aJ.1 hx).1;obtain ⟨c,hc⟩:∃ x,cs[i]?=some x:=⟨_,aE (by omega)⟩;obtain ⟨l,hl⟩:∃ x,Ls[i]?=some x:=⟨_,aE (by omega)⟩;have hlen:=h3 c (aF hc);obtain ⟨l',iV,ab8⟩:=mF c l hlen (h5 i x c l hx hc hl);rw [hn] at h4;have hs:=Ig hl iV;have hk:∀ a∈Ls.flatten,(w.setCell ⟨g,i*sz+j,none⟩ u).heap[a.b]?=w.heap[a.b]?:=fun a ha=>dt _ _ _ _ (fun e=>h7 a ha (by simp [Value.ownBlock,e]));refine ⟨Ls.set i l',⟨cs.set i (c.set j u),by simp [h1],by simp [h2],fun d hd=>?_,?_,fun k y d m hy hd hm=>?_,(h6.sub hs).aM (fun a ha=>hk a (hs.subset ha)),fun a ha=>h7 a (hs.subset ha)⟩,fun a ha=>hs.subset ha⟩;{rcases List.mem_or_eq_of_mem_set hd with hd | rfl;{exact h3 d hd};{rw [List.length_set,hlen]}};{rw [yO h3 hc hj,List.length_set,hn];exact (h4.stored _ u).1};{rw [List.getElem?_set] at hy hd hm;by_cases e:i=k;{subst e;rw [if_pos rfl,if_pos (by omega)] at hy hd hm;cases hy;cases hd;cases hm;exact cF _ _ _ _ _ ab8 (fun a ha=>hk a (List.mem_flatten.2 ⟨l,aF hl,iV.subset ha⟩))};{rw [if_neg e] at hy hd hm;exact cF _ _ _ _ _ (h5 k y d m hy hd hm) (fun a ha=>hk a (List.mem_flatten.2 ⟨m,aF hm,ha⟩))}}
theorem dI.cell {α:Type} {el:World->α->List Value->List Lf->Prop} {g n cap:Nat} {xs:List α} (h:dI el ty sz B w (.slice (some ⟨g,0,none⟩) n cap) xs Ls) (hn:xs.length=n) (hi:i<n) (hj:j<sz):(∃ u,w.cell? ⟨g,i*sz+j,none⟩=some u)/\∀ o,w.frozen? ⟨g,o,none⟩=false:=by
 obtain ⟨cs,h1,h2,h3,h4,h5,h6,h7⟩:=h;rw [hn] at h4;have ZZ:i*sz+sz<=n*sz:=by rw [<-Nat.succ_mul];exact Nat.mul_le_mul_right _ hi
 obtain ⟨c,hc⟩:∃ x,cs[i]?=some x:=⟨_,aE (by omega)⟩;have hlen:=h3 c (aF hc);refine ⟨⟨c[j]'(by omega),?_⟩,fun o=>h4.frozenAt o⟩;rw [h4.cellAt (i*sz+j) (by omega),lW h3 hc hj,aE]
structure StW (B:Nat) (w:World) (p:Option Addr) (n c:Nat) (q:Option Addr) (m d:Nat) (ss:List aL) (ns:List aA):Prop where
 ls:ss.length=n
 ln:ns.length=m
 ex:∃ BS BN LS LN,dI ru 35 3 BS w (.slice p n c) ss LS/\dI jP 38 8 BN w (.slice q m d) ns LN/\B<=BS/\BS<=BN/\(∀ b,(Value.slice p n c).ownBlock=some b->b<BN)/\∀ a∈LS.flatten,a.b<BN
end Go.Proofs.YtcfcafeciggjeaaGreatDoor
