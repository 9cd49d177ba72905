import Derived.Test.YtcfcafeciggjeaaGreatDoorK22
import Derived.Test.YtcfcafeciggjeaaGreatDoorK14
import Derived.Lib.ConvBytes
namespace Go.Proofs.YtcfcafeciggjeaaGreatDoor
set_option maxHeartbeats 6400000
set_option linter.all false
set_option maxRecDepth 100000
open Go.ChangeShapes Go.WideShapes Go.ChangeAt Go.RowKit Go.Maps Go.Proofs.Tryz
variable {A:List Lf} {B M N b bn bs i j:Nat} {D:DataW Unit} {E:Prop} {K:Act->World->Prop} {P:Program} {SB:List Nat} {a:Act} {e g t x:Int} {k:TypeId} {l m s xs:List Int} {nd:aD} {ns:List aD} {o:Oper} {ops:Array Oper} {ss:List aY} {v:Value} {w w' w0 w1 w2:World}
structure pO (w0 w:World) (bs:Nat) (ss:List aY) (SB:List Nat):Prop where
 len:SB.length=ss.length
 own:∃ D,w.ownsMap prog 23 aZ bs ss.length D/\fP D (List.zipWith (fun (s:aY) g=>(Lit.U s.1,g)) ss SB)
 aI:∀ (i:Nat) (s:aY) (g:Nat),ss[i]?=some s->SB[i]?=some g->w0.heap.size<=g/\∃ u,w.heap[g]?=some (.cells #[.U s.1,.I s.2.1,u] 35)/\jJ w0 u s.2.2
 me:SB.Nodup
structure nI (w0 w:World) (bn:Nat) (ns:List aD) (NB HB UB:List Nat):Prop where
 len:NB.length=ns.length
 Fp:HB.length=ns.length
 Fo:UB.length=ns.length
 own:∃ D,w.ownsMap prog 9 aZ bn ns.length D/\fP D (List.zipWith (fun (nd:aD) g=>(bN nd.path,g)) ns NB)
 aI:∀ (i:Nat) (nd:aD) (g h u:Nat),ns[i]?=some nd->NB[i]?=some g->HB[i]?=some h->UB[i]?=some u->w0.heap.size<=g/\w0.heap.size<=h/\w0.heap.size<=u ∧
  (∃ V,w.heap[g]?=some (.cells #[V,.U nd.owner,.I nd.mode,.map (some h),.U nd.aB,.U nd.gen,.map (some u)] 137)/\Rd w0 V nd.value) ∧
  (∃ D,w.ownsMap prog 23 unitElem h nd.holders.length D/\db D nd.holders)/\(∃ D,w.ownsMap prog 23 unitElem u nd.watchers.length D/\db D nd.watchers)
 me:NB.Nodup
 BF:(bn::(HB++UB)).Nodup
theorem jv {R:Value->Option (DataW Unit × List MemPlace)} {b n g:Nat} {cs:Array Value} {t:TypeId} (h:w.ownsMap P k R b n D) (hg:w.heap[g]?=some (.cells cs t)):g≠b:=by
 rintro rfl;obtain ⟨es,cl,hb,_⟩:=h;rw [hb] at hg;cases hg
theorem aG {g:Nat} {o:Obj} (h:w.heap[g]?=some o):g<w.heap.size:=(Array.getElem?_eq_some_iff.1 h).1
theorem pO.kept {row:Option Nat} (h:pO w0 w bs ss SB) (hg:w.grownBy w' row) (h1:some bs≠row) (h2:∀ g∈SB,some g≠row):pO w0 w' bs ss SB:=by
 refine ⟨h.len,?_,fun i s g hi yD=>?_,h.me⟩;{obtain ⟨D,hD,hM⟩:=h.own;exact ⟨D,hD.kept hg h1,hM⟩};{obtain ⟨a1,u,a2,a3⟩:=h.aI i s g hi yD;exact ⟨a1,u,(hg.block g (aG a2) (h2 g (aF yD))).trans a2,a3⟩}
theorem nI.kept {NB HB UB:List Nat} {row:Option Nat} (h:nI w0 w bn ns NB HB UB) (hg:w.grownBy w' row) (h1:some bn≠row) (h2:∀ g∈NB,some g≠row) (h3:∀ g∈HB++UB,some g≠row):nI w0 w' bn ns NB HB UB:=by
 refine ⟨h.len,h.Fp,h.Fo,?_,fun i nd g hh u hi yD Rf QX=>?_,h.me,h.BF⟩;{obtain ⟨D,hD,hM⟩:=h.own;exact ⟨D,hD.kept hg h1,hM⟩};{obtain ⟨a1,a2,a3,⟨V,a4,a5⟩,⟨D1,a6,a7⟩,⟨D2,a8,a9⟩⟩:=h.aI i nd g hh u hi yD Rf QX;exact ⟨a1,a2,a3,⟨V,(hg.block g (aG a4) (h2 g (aF yD))).trans a4,a5⟩,⟨D1,a6.kept hg (h3 _ (List.mem_append.2 (.inl (aF Rf)))),a7⟩,⟨D2,a8.kept hg (h3 _ (List.mem_append.2 (.inr (aF QX)))),a9⟩⟩}
theorem qj {α:Type} {l:List α} {x y:α} (h:(l++[x])[i]?=some y):l[i]?=some y\/(i=l.length/\x=y):=by
 by_cases hi:i<l.length;{rw [List.getElem?_append_left hi] at h;exact .inl h};{
 rw [List.getElem?_append_right (by omega)] at h
 right
 obtain ⟨bj,e⟩:=aN.1 h;simp at bj;refine ⟨by omega,?_⟩;simpa [show i-l.length=0 by omega] using h}
theorem Cl {α β γ:Type} (f:α->β->γ) {l:List α} {m:List β} (h:m.length=l.length) (x:α) (y:β):List.zipWith f (l++[x]) (m++[y])=List.zipWith f l m++[f x y]:=by
 rw [List.zipWith_append (by omega)]
 rfl
theorem gM {α β γ:Type} {f:α->β->γ} {l:List α} {m:List β} {z:γ} (h:z∈List.zipWith f l m):∃ (i:Nat) (x:α) (y:β),l[i]?=some x/\m[i]?=some y/\z=f x y:=by
 obtain ⟨i,hi,rfl⟩:=List.getElem_of_mem h;rw [List.length_zipWith] at hi;refine ⟨i,l[i]'(by omega),m[i]'(by omega),aK _,aK _,?_⟩;simp
theorem pO.empty (h:w.ownsMap prog 23 aZ bs 0 (.map [])):pO w0 w bs [] []:=
 ⟨rfl,⟨_,h,fP.nil⟩,fun i s g hi=>by simp at hi,List.nodup_nil⟩
theorem nI.empty (h:w.ownsMap prog 9 aZ bn 0 (.map [])):nI w0 w bn [] [] [] []:=
 ⟨rfl,rfl,rfl,⟨_,h,fP.nil⟩,fun i s g _ _ hi=>by simp at hi,List.nodup_nil,by simp⟩
theorem pO.lt (h:pO w0 w bs ss SB):∀ g∈SB,g<w.heap.size:=by
 intro g hg;obtain ⟨i,hi⟩:=List.getElem?_of_mem hg;have hl:=(aN.1 hi).1;obtain ⟨s,hs⟩:∃ s,ss[i]?=some s:=⟨_,aK (by rw [<-h.len];exact hl)⟩;obtain ⟨_,u,a2,_⟩:=h.aI i s g hs hi;exact aG a2
theorem nI.at {NB HB UB:List Nat} (h:nI w0 w bn ns NB HB UB) (hi:ns[i]?=some nd):∃ g hh u,NB[i]?=some g/\HB[i]?=some hh/\UB[i]?=some u:=by
 have hl:=(aN.1 hi).1;exact ⟨_,_,_,aK (by rw [h.len];exact hl),aK (by rw [h.Fp];exact hl),aK (by rw [h.Fo];exact hl)⟩
theorem nI.lt {NB HB UB:List Nat} (h:nI w0 w bn ns NB HB UB):(∀ g∈NB,g<w.heap.size)/\∀ g∈HB++UB,g<w.heap.size:=by
 have key:∀ i,i<ns.length->∃ g hh u,NB[i]?=some g/\HB[i]?=some hh/\UB[i]?=some u/\g<w.heap.size/\hh<w.heap.size/\u<w.heap.size:=fun i hi=>by obtain ⟨nd,aV⟩:∃ s,ns[i]?=some s:=⟨_,aK hi⟩;obtain ⟨g,hh,u,e1,e2,e3⟩:=h.at aV;obtain ⟨_,_,_,⟨V,a4,_⟩,⟨D1,a6,_⟩,⟨D2,a8,_⟩⟩:=h.aI i nd g hh u aV e1 e2 e3;exact ⟨g,hh,u,e1,e2,e3,aG a4,a6.lt,a8.lt⟩
 refine ⟨fun g hg=>?_,fun g hg=>?_⟩;{obtain ⟨i,hi⟩:=List.getElem?_of_mem hg;have hl:=(aN.1 hi).1;obtain ⟨g',_,_,e1,_,_,a,_,_⟩:=key i (by rw [<-h.len];exact hl);rw [hi] at e1;cases e1;exact a};{rcases List.mem_append.1 hg with hg | hg;{obtain ⟨i,hi⟩:=List.getElem?_of_mem hg;have hl:=(aN.1 hi).1;obtain ⟨_,g',_,_,e1,_,_,a,_⟩:=key i (by rw [<-h.Fp];exact hl);rw [hi] at e1;cases e1;exact a};{obtain ⟨i,hi⟩:=List.getElem?_of_mem hg;have hl:=(aN.1 hi).1;obtain ⟨_,_,g',_,_,e1,_,_,a⟩:=key i (by rw [<-h.Fo];exact hl);rw [hi] at e1;cases e1;exact a}}
theorem wG {l:List Nat} {x:Nat} (h:l.Nodup) (hx:∀ y∈l,y≠x):(l++[x]).Nodup:=by
 rw [List.nodup_append];exact ⟨h,by simp,fun a ha b hb=>by simp at hb;subst hb;exact hx a ha⟩
theorem pO.step (h:pO w0 w bs ss SB) (s:aY) (g:Nat) (hg:w.grownBy w1 none) (xw:w.heap.size<=g) (hw:w0.heap.size<=w.heap.size) (u:Value) (hu:jJ w0 u s.2.2) (hb:w1.heap[g]?=some (.cells #[.U s.1,.I s.2.1,u] 35))
  (hid:∀ z∈ss,z.1≠s.1) (hM:fP D (List.zipWith (fun (s:aY) g=>(Lit.U s.1,g)) ss SB)) (hD:IsMap D)
  (br:w2.ownsMap prog 23 aZ bs (ss.length+1) (D.put (.U s.1) (.lit (.I g)))) (fU:w1.grownBy w2 (some bs)):pO w0 w2 bs (ss++[s]) (SB++[g]):=by
 have nO:bs<w.heap.size:=by obtain ⟨D,hD,_⟩:=h.own;exact hD.lt
 refine ⟨by simp [h.len],⟨_,by rw [List.length_append];exact br,?_⟩,fun i z g' hi yD=>?_,wG h.me (fun y hy=>by have:=h.lt y hy;omega)⟩;{rw [Cl _ h.len];refine hM.put hD (by trivial) (fun p hp=>?_) g;obtain ⟨i,x,y,hx,hy,rfl⟩:=gM hp;intro e;simp only [Lit.int.injEq,true_and] at e;exact hid x (aF hx) e};{rcases qj hi with O0 | ⟨e1,rfl⟩;{have hl:=(aN.1 O0).1;rw [List.getElem?_append_left (by rw [h.len];exact hl)] at yD;obtain ⟨a1,v,a2,a3⟩:=h.aI i z g' O0 yD;refine ⟨a1,v,?_,a3⟩;have b1:=(hg.block g' (aG a2) (by simp)).trans a2;refine (fU.block g' (aG b1) ?_).trans b1;obtain ⟨D',hD',_⟩:=h.own;have:=jv hD' a2;simpa using this};{rw [e1,<-h.len,List.getElem?_append_right aA] at yD;simp at yD;subst yD;refine ⟨by omega,u,?_,hu⟩;exact (fU.block _ (aG hb) (by simp;omega)).trans hb}}
structure kc (w0 w:World) (b bs bn:Nat) (e g x t:Int) (ss:List aY) (ns:List aD) (SB NB HB UB:List Nat):Prop where
 hd:w.heap[b]?=some (.cells #[.U e,.U g,.U x,.I t,.map (some bs),.map (some bn)] 132)
 Fc:pO w0 w bs ss SB
 me:nI w0 w bn ns NB HB UB
 lo:w0.heap.size<=b/\w0.heap.size<=bs/\w0.heap.size<=bn
 BF:(bs::bn::(HB++UB)).Nodup
theorem kc.below {SB NB HB UB:List Nat} (h:kc w0 w b bs bn e g x t ss ns SB NB HB UB) (hb:Bw w w'):kc w0 w' b bs bn e g x t ss ns SB NB HB UB:=
 ⟨(hb.block b (aG h.hd)).trans h.hd,h.Fc.kept (az hb none) (by simp) (by simp),h.me.kept (az hb none) (by simp) (by simp) (by simp),h.lo,h.BF⟩
theorem ay {g:Nat} {cs:Array Value} {t:TypeId} (h:w.heap[g]?=some (.cells cs t)) (i:Nat):w.cell? ⟨g,i,none⟩=cs[i]?:=by
 unfold World.cell?;rw [h]
 rfl
theorem nI.step {NB HB UB:List Nat} (h:nI w0 w bn ns NB HB UB) (nd:aD) (g hb ub:Nat) (hg:w.grownBy w1 none) (xw:w.heap.size<=g) (J4:w.heap.size<=hb) (JX:w.heap.size<=ub) (bL:hb≠ub) (hw:w0.heap.size<=w.heap.size) (V:Value) (hV:Rd w0 V nd.value)
  (hbk:w1.heap[g]?=some (.cells #[V,.U nd.owner,.I nd.mode,.map (some hb),.U nd.aB,.U nd.gen,.map (some ub)] 137))
  {D1 D2:DataW Unit} (hH:w1.ownsMap prog 23 unitElem hb nd.holders.length D1) (hHs:db D1 nd.holders) (hU:w1.ownsMap prog 23 unitElem ub nd.watchers.length D2) (hUs:db D2 nd.watchers)
  (hid:∀ z∈ns,bN z.path≠bN nd.path) (hM:fP D (List.zipWith (fun (nd:aD) g=>(bN nd.path,g)) ns NB)) (hD:IsMap D)
  (br:w2.ownsMap prog 9 aZ bn (ns.length+1) (D.put (bN nd.path) (.lit (.I g)))) (fU:w1.grownBy w2 (some bn)):nI w0 w2 bn (ns++[nd]) (NB++[g]) (HB++[hb]) (UB++[ub]):=by
 have rh:bn<w.heap.size:=by obtain ⟨D,hD,_⟩:=h.own;exact hD.lt
 have bj:=h.lt;refine ⟨by simp [h.len],by simp [h.Fp],by simp [h.Fo],⟨_,by rw [List.length_append];exact br,?_⟩,fun i z g' h' u' hi yD Rf QX=>?_,wG h.me (fun y hy=>by have:=bj.1 y hy;omega),?_⟩;{rw [Cl _ h.len];refine hM.put hD (by trivial) (fun p hp=>?_) g;obtain ⟨i,x,y,hx,hy,rfl⟩:=gM hp;exact fun e=>hid x (aF hx) e};{
 rcases qj hi with O0 | ⟨e1,rfl⟩;{
 have hl:=(aN.1 O0).1;rw [List.getElem?_append_left (by rw [h.len];exact hl)] at yD;rw [List.getElem?_append_left (by rw [h.Fp];exact hl)] at Rf;rw [List.getElem?_append_left (by rw [h.Fo];exact hl)] at QX;obtain ⟨a1,a2,a3,⟨V',a4,a5⟩,⟨E1,a6,a7⟩,⟨E2,a8,a9⟩⟩:=h.aI i z g' h' u' O0 yD Rf QX;have Wi:=h.BF;rw [List.nodup_cons] at Wi;have n1:some h'≠some bn:=by intro e;cases e;exact Wi.1 (List.mem_append.2 (.inl (aF Rf)))
 have n2:some u'≠some bn:=by intro e;cases e;exact Wi.1 (List.mem_append.2 (.inr (aF QX)))
 have b1:=(hg.block g' (aG a4) (by simp)).trans a4;refine ⟨a1,a2,a3,⟨V',(fU.block g' (aG b1) ?_).trans b1,a5⟩,⟨E1,(a6.kept hg (by simp)).kept fU n1,a7⟩,⟨E2,(a8.kept hg (by simp)).kept fU n2,a9⟩⟩;obtain ⟨D',hD',_⟩:=h.own;have:=jv hD' a4;simpa using this};{rw [e1,<-h.len,List.getElem?_append_right aA] at yD;rw [e1,<-h.Fp,List.getElem?_append_right aA] at Rf;rw [e1,<-h.Fo,List.getElem?_append_right aA] at QX;simp at yD Rf QX;subst yD Rf QX;exact ⟨by omega,by omega,by omega,⟨V,(fU.block _ (aG hbk) (by simp;omega)).trans hbk,hV⟩,⟨D1,hH.kept fU (by simp;omega),hHs⟩,⟨D2,hU.kept fU (by simp;omega),hUs⟩⟩}};{
 have hp:((HB++[hb])++(UB++[ub])).Perm ((HB++UB)++[hb,ub]):=by rw [List.append_assoc,List.append_assoc];exact List.Perm.append_left HB (show (hb::(UB++[ub])).Perm (UB++hb::[ub]) from List.perm_middle.symm)
 have hq:(bn::((HB++[hb])++(UB++[ub]))).Perm ((bn::(HB++UB))++[hb,ub]):=hp.cons bn;rw [hq.nodup_iff,List.nodup_append];refine ⟨h.BF,by simp [bL],fun a ha c hc=>?_⟩;have hal:a<w.heap.size:=by rcases List.mem_cons.1 ha with rfl | ha;{exact rh};{exact bj.2 a ha}
 simp at hc;rcases hc with rfl | rfl<;>omega}
theorem oo {Q:Exit->Act->World->Prop} (jK:o.guard=none) (m x v:Operand) (t:TypeId) (DI:o.op=Op.mapUpdate t m x v)
  (k e:TypeId) (KK:Keyed P k) (ht:P.underlying t=some (.map k e)) (R:Value->Option (DataW Unit × List MemPlace)) (b n:Nat) (D:DataW Unit)
  (hm:a.eval m=.map (some b)) (br:w.ownsMap P k R b n D) (hn:n<maxLen) (key val:Value) (kl:Lit) (hx:a.eval x=key) (hv:a.eval v=val) (df:keyOf P k key=some kl)
  (d:DataW Unit) (ps:List MemPlace) (oE:R val=some (d,ps)) (hK:∀ w',w'.ownsMap P k R b (n+1) (D.put kl d)->w.grownBy w' (some b)->K (a.put o.dst undef) w') :
  if Region.wanted o (yielded ops a.tmps)=true then Oper.wp P o a w K Q else E:=by
 have hw:Region.wanted o (yielded ops a.tmps)=true:=by simp [Region.wanted,jK]
 rw [if_pos hw];obtain ⟨w',cK,r1,r2⟩:=br.update KK ht hn df oE;unfold Oper.wp;simp [execOp,DI,hm,hx,hv,cK,Result.andThen];exact hK w' r1 r2
theorem Kw {Q:Exit->Act->World->Prop} (jK:o.guard=none) (t:TypeId) (x:Operand) (DI:o.op=Op.box t x) (v:Value) (hx:a.eval x=v) (r:Value) (w':World) (cK:(Instr.box t v).run P w=.ok r w')
  (hK:K (a.put o.dst r) w'):if Region.wanted o (yielded ops a.tmps)=true then Oper.wp P o a w K Q else E:=by
 have hw:Region.wanted o (yielded ops a.tmps)=true:=by simp [Region.wanted,jK]
 rw [if_pos hw];unfold Oper.wp;simp [execOp,DI,hx,cK,Result.andThen];exact hK
theorem Cz (w:World) (V:Value) (ow mo ep ge:Int) (h u:Nat):(Instr.box 137 (.agg #[V,.U ow,.I mo,.map (some h),.U ep,.U ge,.map (some u)])).run prog w=.ok (.pointer (some ⟨w.heap.size,0,none⟩)) (w.alloc (.cells #[V,.U ow,.I mo,.map (some h),.U ep,.U ge,.map (some u)] 137)):=by
 go_simp
theorem l9 {α:Type} {l:List α} {k:Nat} {y:α} (h:l[k]?=some y):l.take (k+1)=l.take k++[y]:=by rw [List.take_add_one,h];rfl
theorem rS {α:Type} {l:List α} {k:Nat} {z:α} (h:z∈l.take k):∃ i,i<k/\l[i]?=some z:=by
 obtain ⟨i,hi⟩:=List.getElem?_of_mem h;rw [List.getElem?_take] at hi;split at hi;{exact ⟨i,by assumption,hi⟩};{cases hi}
theorem bQ (h:w'.heap[b]?=w.heap[b]?) (o:Nat):w'.cell? ⟨b,o,none⟩=w.cell? ⟨b,o,none⟩:=by
 unfold World.cell?;rw [h]
theorem pD.heap {S N:Value} (h:pD w b e g x t S N) (hb:w'.heap[b]?=w.heap[b]?):pD w' b e g x t S N:=
 ⟨(bQ hb _).trans h.1,(bQ hb _).trans h.2.1,(bQ hb _).trans h.2.2.1,(bQ hb _).trans h.2.2.2.1,(bQ hb _).trans h.2.2.2.2.1,(bQ hb _).trans h.2.2.2.2.2⟩
theorem ar {X:World} {row:Option Nat} (h:X.drew.grownBy w2 row):X.grownBy w2 row:=⟨h.os,h.tape,h.output,h.size,h.block⟩
theorem ui (e g x t:Int) (p q:Option Addr) (c n d m:Nat) (ss:List aY) (ns:List aD) (en:Hid (ss.length=n)) (em:Hid (ns.length=m)) (w:World) (h:ic w (.S p n c) ss) (hN:kJ w (.S q m d) ns) (hn:n<=1048576) (hm:m<=1048576)
  (hsu:Hid (∀ s∈ss,0<=s.1/\s.1<18446744073709551616)) (hsd:Hid (∀ (i j:Nat) (s s':aY),ss[i]?=some s->ss[j]?=some s'->i<j->s.1≠s'.1))
  (fI:Hid (∀ nd∈ns,bM nd.path/\nd.path.length<=1048576/\nd.value.length<=1048576/\nd.holders.length<=1048576/\nd.watchers.length<=1048576))
  (IY:Hid (∀ nd∈ns,(∀ i∈nd.holders,0<=i/\i<18446744073709551616)/\∀ i∈nd.watchers,0<=i/\i<18446744073709551616))
  (aV:Hid (∀ (i j:Nat) (z z':aD),ns[i]?=some z->ns[j]?=some z'->i<j->z.path≠z'.path)) :
  Calls prog 35 #[cY e g x t (.S p n c) (.S q m d)] w fun r w'=>∃ b bs bn SB NB HB UB,r=.returned (.pointer (some ⟨b,0,none⟩))/\kc w w' b bs bn e g x t ss ns SB NB HB UB/\Bw w w':=by
 have HR:=ae fun (w':World) (hb:Bw w w')=>ag (h.below hb) (hN.below hb);have HS0:=ae h;have HN0:=ae hN;clear h hN;have Be:=@run_makeMap prog;go_enter func35,ntmps35;go_wp2_with fail;obtain ⟨b,eb⟩:=ax (w.heap.size+1+1+1);obtain ⟨bn,Ui⟩:=ax (w.heap.size+1+1);obtain ⟨bs,Uh⟩:=ax (w.heap.size+1);rw [<-eb,<-Ui,<-Uh];obtain ⟨W,hW⟩:=ax ((((w.alloc (.cells #[.U e,.U g,.U x,.I t,.S p n c,.S q m d] 27)).alloc (.map #[] 0)).alloc (.map #[] 0)).alloc (.cells #[.U e,.U g,.U x,.I t,.map (some bs),.map (some bn)] 132));have bW:Bw w W:=by rw [hW];exact (((aJ.alloc aA _).alloc (by simp) _).alloc (by simp;omega) _).alloc (by simp;omega) _
 have zW:W.heap.size=w.heap.size+4:=by rw [hW];simp
 have hdW:W.heap[b]?=some (.cells #[.U e,.U g,.U x,.I t,.map (some bs),.map (some bn)] 132):=by rw [hW,eb];have:=(MapKept.heap_alloc (((w.alloc (.cells #[.U e,.U g,.U x,.I t,.S p n c,.S q m d] 27)).alloc (.map #[] 0)).alloc (.map #[] 0)) (.cells #[.U e,.U g,.U x,.I t,.map (some bs),.map (some bn)] 132)).1;simpa using this
 have oS:W.ownsMap prog 23 aZ bs 0 (.map []):=by rw [hW,Uh];have:=((World.ownsMap_made (w.alloc (.cells #[.U e,.U g,.U x,.I t,.S p n c,.S q m d] 27)) prog 23 aZ).alloc (.map #[] 0)).alloc (.cells #[.U e,.U g,.U x,.I t,.map (some (w.heap.size+1)),.map (some bn)] 132);simpa using this
 have oN:W.ownsMap prog 9 aZ bn 0 (.map []):=by rw [hW,Ui];have:=(World.ownsMap_made ((w.alloc (.cells #[.U e,.U g,.U x,.I t,.S p n c,.S q m d] 27)).alloc (.map #[] 0)) prog 9 aZ).alloc (.cells #[.U e,.U g,.U x,.I t,.map (some bs),.map (some (w.heap.size+1+1))] 132);simpa using this
 have c6:pD W w.heap.size e g x t (.S p n c) (.S q m d):=by
  have c0:pD (w.alloc (.cells #[.U e,.U g,.U x,.I t,.S p n c,.S q m d] 27)) w.heap.size e g x t (.S p n c) (.S q m d):=by simp [pD]
  rw [hW];exact c0.below (((aJ.alloc aA _).alloc (by simp) _).alloc (by simp) _)
 rw [<-hW];have HEQ:=ae (ag eb (ag Ui (ag Uh zW)));have BW:=ae bW;have Pz:=ae c6;have Il:=ae (ag hdW (ag oS oN));clear hW eb Ui Uh zW bW hdW oS oN c6 Be
 go_loopw [23] (fun iv wr=>∃ (k:Nat) (SB:List Nat),k<=n/\iv=.I k/\Hid (pO w wr bs (ss.take k) SB/\wr.heap[b]?=some (.cells #[.U e,.U g,.U x,.I t,.map (some bs),.map (some bn)] 132)/\wr.ownsMap prog 9 aZ bn 0 (.map [])/\pD wr w.heap.size e g x t (.S p n c) (.S q m d))/\Bw w wr/\W.heap.size<=wr.heap.size) (fun iv _=>n-(intOf iv).toNat)
 case atStart=>exact ⟨0,[],Nat.zero_le _,rfl,⟨pO.empty Il.2.1,Il.1,Il.2.2,Pz⟩,BW,Nat.le_refl _⟩
 case round =>(
 obtain ⟨k,SB,hk,rfl,pK,aR,Fz⟩:=hrel;by_cases bj:k<n;{
 have bm:=aT k n;have fL:k<ss.length:=by rw [aa en];exact bj
 obtain ⟨⟨I,D,Q⟩,hy⟩:∃ y,ss[k]?=some y:=⟨_,aK fL⟩;obtain ⟨b0,o,rfl,hcI,hcD,u,Yg,Tl⟩:∃ b o,p=some ⟨b,o,none⟩/\w.cell? ⟨b,o+k*3,none⟩=some (.U I)/\w.cell? ⟨b,o+k*3+1,none⟩=some (.I D)/\∃ u,w.cell? ⟨b,o+k*3+2,none⟩=some u/\jJ w u Q:=by obtain ⟨p',c',ev,hd⟩:=aa HS0;simp only [Value.slice.injEq] at ev;obtain ⟨rfl,-,-⟩:=ev;rcases hd with h0 | ⟨b,o,h1,h2⟩;{rw [h0] at fL;simp at fL};{exact ⟨b,o,h1,h2 k _ hy⟩}
 obtain ⟨pq,cq,rfl,-⟩:=id Tl;obtain ⟨mq,emq⟩:=aH Q.length;rw [emq] at Tl Yg;clear emq;replace hcI:=af hcI aR;replace hcD:=af hcD aR;replace Yg:=af Yg aR;have YH:=ae Tl;have HY:=ae hy;have hI:=aa hsu _ (aF hy);have df:keyOf prog 23 (.U I)=some (.U I):=keyOf_int_mk underlying23 (jO hI);have yM:=ae df;clear fL hy Tl hI df;go_wp2_with fail;obtain ⟨X,hX⟩:=ax (wr.alloc (.cells #[.U I,.I D,.S pq mq cq] 35));have bX:=ju hX;have Yl:X.heap[wr.heap.size]?=some (.cells #[.U I,.I D,.S pq mq cq] 35):=by rw [hX];exact (MapKept.heap_alloc wr _).1
 have hcX:X.cell? ⟨wr.heap.size,0,none⟩=some (.U I):=by rw [hX];simp
 obtain ⟨i1,i2,i3,i4⟩:=aa pK;have kO:X.heap[b]?=some (.cells #[.U e,.U g,.U x,.I t,.map (some bs),.map (some bn)] 132):=(bX.block b (aG i2)).trans i2;have DO:X.cell? ⟨b,4,none⟩=some (.map (some bs)):=ay kO 4;rw [<-hX];have zX:X.heap.size=wr.heap.size+1:=by rw [hX];simp
 clear hX hcI hcD Yg;obtain ⟨D0,oD,mD⟩:=i1.own;have hlen:(ss.take k).length=k:=by rw [List.length_take,aa en];omega
 rw [hlen] at oD;have oX:X.ownsMap prog 23 aZ bs k D0:=oD.kept (az bX none) (by simp);have nO:bs<wr.heap.size:=oD.lt;have ad7:bs≠b:=fun e=>jv oD i2 e.symm;have KX:=ae (ag DO hcX);have OX:=ae oX;clear DO hcX oX;refine bO (fun w'=>w'.cell? ⟨b,4,none⟩=some (.map (some bs))/\w'.cell? ⟨wr.heap.size,0,none⟩=some (.U I)) (by exact KX) fun hS=>?_;refine gC 0 1 2 3 hS ?_;refine fe 4 5 hS ?_;refine bH 6 fun KK hK=>?_;refine oo (by rfl) _ _ _ 129 (by rfl) 23 _ gR underlying129 aZ bs k D0 (by rfl) (by exact OX.drew) (by unfold maxLen;omega) (.U I) (.pointer (some ⟨wr.heap.size,0,none⟩)) (.U I) (by rfl) (by rfl) yM (.lit (.I wr.heap.size)) [] rfl ?_;intro w2 xr fU;have Bi:X.grownBy w2 (some bs):=ar fU;refine cg hK (by exact ⟨(bQ (Bi.block b (aG kO) (by simpa using ad7.symm)) _).trans KX.1,(bQ (Bi.block wr.heap.size (aG Yl) (by simp;omega)) _).trans KX.2⟩) fun hS=>?_;clear hK KK;refine bu ?_;have dz:pO w w2 bs (ss.take (k+1)) (SB++[wr.heap.size]):=by rw [l9 (aa HY)];refine i1.step (I,D,Q) wr.heap.size (az bX none) aA aR.size (.S pq mq cq) (aa YH) Yl (fun z hz=>?_) mD oD.isMap (by rw [hlen];exact xr) Bi;obtain ⟨i,hi,JU⟩:=rS hz;exact hsd i k z (I,D,Q) JU (aa HY) hi
 have J3:w2.ownsMap prog 9 aZ bn 0 (.map []):=(i3.kept (az bX none) (by simp)).kept Bi (by have:=(aa HEQ);simp;omega)
 have bk:w2.heap[b]?=some (.cells #[.U e,.U g,.U x,.I t,.map (some bs),.map (some bn)] 132):=(Bi.block b (aG kO) (by simpa using ad7.symm)).trans kO;have h62:pD w2 w.heap.size e g x t (.S (some ⟨b0,o,none⟩) n c) (.S q m d):=(i4.below bX).heap (Bi.block w.heap.size (by have:=aR.size;omega) (by have:=aa HEQ;simp;omega));have jL:Bw w w2:=bR (ah aR bX) Bi (by have:=aR.size;omega) (fun j hj=>by cases hj;have:=aa HEQ;omega);have jW:W.heap.size<=w2.heap.size:=by have:=Bi.size;omega
 have HIN:=ae (ag dz (ag bk (ag J3 h62)));clear dz bk J3 h62 hS xr fU Bi i1 i2 i3 i4 kO oD mD Yl bX;go_wp2;go_roundw
 case rel=>exact ⟨k+1,_,by omega,by go_num,HIN,jL,jW⟩
 case measure=>simp [intOf];omega}
 {
 have bm:=dy k n;have Ex:k=n:=by omega
 subst Ex;obtain ⟨i1,i2,i3,i4⟩:=aa pK;rw [List.take_of_length_le (by rw [aa en];exact Nat.le_refl _)] at i1;obtain ⟨j0,j1,j2,j3,j4,j5⟩:=id i4;have I1:=ae i1;have I2:=ae i2;have I3:=ae i3;have I4:=ae i4;clear i1 i2 i3 i4 pK;go_wp2_with fail;clear j0 j1 j2 j3 j4 j5;obtain ⟨Y,eY⟩:=ax wr;subst eY;have BY:=ae aR;have ZY:=ae Fz;clear aR Fz bj bm hk
 go_loopw [37] (fun iv wr=>∃ (k:Nat) (NB HB UB:List Nat),k<=m/\iv=.I k/\Hid (nI w wr bn (ns.take k) NB HB UB/\pO w wr bs ss SB/\wr.heap[b]?=some (.cells #[.U e,.U g,.U x,.I t,.map (some bs),.map (some bn)] 132)/\∀ y∈HB++UB,y≠bs)/\Bw w wr/\W.heap.size<=wr.heap.size) (fun iv _=>m-(intOf iv).toNat)
 case atStart=>exact ⟨0,[],[],[],Nat.zero_le _,rfl,⟨nI.empty (aa I3),aa I1,aa I2,by simp⟩,aa BY,aa ZY⟩
 case round =>(
 obtain ⟨j,NB,HB,UB,hk,rfl,pK,aR,Fz⟩:=hrel;by_cases bj:j<m;{
 have bm:=aT j m;have fL:j<ns.length:=by rw [aa em];exact bj
 obtain ⟨nd,hy⟩:∃ y,ns[j]?=some y:=⟨_,aK fL⟩;obtain ⟨b0,o,rfl,hA⟩:=HN0.at (by omega);obtain ⟨P,V,H,U,FG⟩:=hA j nd hy;obtain ⟨vG,jL,RC,Rz,Ad⟩:=aa fI _ (aF hy);obtain ⟨Yp,Yo⟩:=aa IY _ (aF hy);obtain ⟨pp,pc,pn,rfl,Bx⟩:=FG.r0.gD;obtain ⟨vq,vc,vn,rfl,Uk⟩:=FG.r1.gD;obtain ⟨hp,hc,hh,rfl,Gi⟩:=FG.r4.gD;obtain ⟨up,uc,un,rfl,Jk⟩:=FG.r7.gD;have Mb:pn<=1048576:=by rw [<-aa Bx];exact jL
 have J4:hh<=1048576:=by rw [<-aa Gi];exact Rz
 have JX:un<=1048576:=by rw [<-aa Jk];exact Ad
 have Ox:=ae FG;have HY:=ae hy;have HU1:Hid (∀ i∈nd.holders,0<=i/\i<18446744073709551616):=Yp;have HU2:Hid (∀ i∈nd.watchers,0<=i/\i<18446744073709551616):=Yo;have hnr:=FG.below aR;obtain ⟨c0,c1,c2,c3,c4,c5,c6,c7,-,-,-,-,-⟩:=hnr;obtain ⟨ow,mo,ep,ge,e1,e2,e3,e4⟩:∃ a b c d,nd.owner=a/\nd.mode=b/\nd.aB=c/\nd.gen=d:=⟨_,_,_,_,rfl,rfl,rfl,rfl⟩
 rw [e1] at c2;rw [e2] at c3;rw [e3] at c5;rw [e4] at c6;have HE:=ae (ag e1 (ag e2 (ag e3 e4)));clear fL hy hA FG vG jL RC Rz Ad Yp Yo e1 e2 e3 e4;go_wp2_with fail;obtain ⟨X,hX⟩:=ax (wr.alloc (.cells #[.S pp pn pc,.S vq vn vc,.U ow,.I mo,.S hp hh hc,.U ep,.U ge,.S up un uc] 38));obtain ⟨C,eC⟩:=ax wr.heap.size;have bX:=ju hX;have zX:X.heap.size=wr.heap.size+1:=by rw [hX];simp
 obtain ⟨i1,i2,i3,i4⟩:=aa pK;have kO:X.heap[b]?=some (.cells #[.U e,.U g,.U x,.I t,.map (some bs),.map (some bn)] 132):=(bX.block b (aG i3)).trans i3;have rX:Rd X (.S pp pn pc) nd.path:=Ox.r0.below (ah aR bX);have KX:Hid (X.cell? ⟨b,5,none⟩=some (.map (some bn))/\X.cell? ⟨C,0,none⟩=some (.S pp pn pc)/\X.cell? ⟨C,1,none⟩=some (.S vq vn vc)/\X.cell? ⟨C,2,none⟩=some (.U ow)/\X.cell? ⟨C,3,none⟩=some (.I mo)/\X.cell? ⟨C,4,none⟩=some (.S hp hh hc)/\X.cell? ⟨C,5,none⟩=some (.U ep)/\X.cell? ⟨C,6,none⟩=some (.U ge)/\X.cell? ⟨C,7,none⟩=some (.S up un uc)/\Rd X (.S pp pn pc) nd.path):=by refine ⟨ay kO 5,?_,?_,?_,?_,?_,?_,?_,?_,rX⟩<;>(rw [hX,eC];simp)
 have uH:nH X (.S hp hh hc) nd.holders:=Ox.r4.below (ah aR bX);have uU:nH X (.S up un uc) nd.watchers:=Ox.r7.below (ah aR bX);rw [<-hX,<-eC];have UH:=ae uH;have UU:=ae uU;have HX:=ae (ag bX (ag zX kO));have HIN:=pK;clear hX c0 c1 c2 c3 c4 c5 c6 c7 uH uU rX bX zX kO i1 i2 i3 i4 pK;have HCE:=ae eC;clear eC;have df:keyOf prog 9 (.string (aC nd.path))=some (bN nd.path):=by rw [WideMaps.keyOf_string_mk underlying9 (by rw [di,aa Bx];unfold maxLen;omega),kq]
 have yM:=ae df;clear df;refine bO (fun w'=>w'.cell? ⟨b,5,none⟩=some (.map (some bn))/\w'.cell? ⟨C,0,none⟩=some (.S pp pn pc)/\w'.cell? ⟨C,1,none⟩=some (.S vq vn vc)/\w'.cell? ⟨C,2,none⟩=some (.U ow)/\w'.cell? ⟨C,3,none⟩=some (.I mo)/\w'.cell? ⟨C,4,none⟩=some (.S hp hh hc)/\w'.cell? ⟨C,5,none⟩=some (.U ep)/\w'.cell? ⟨C,6,none⟩=some (.U ge)/\w'.cell? ⟨C,7,none⟩=some (.S up un uc)/\Rd w' (.S pp pn pc) nd.path) (by exact KX) fun hS=>?_;refine gC 0 1 2 3 hS ?_;refine fe 4 5 hS ?_;refine wpAnyH_take (i:=6) (oi:=_) (v:=?_) (by simp only [List.getElem?_toArray,List.getElem?_cons_succ,List.getElem?_cons_zero];rfl) (by kernel_rfl) (by kernel_rfl) (by kernel_rfl) (fun _ _ _ h=>h) (Or.inl ⟨by rfl,?_⟩) hS ?_;rotate_left;{(intro w' qi;(try dsimp only at qi);(have hcv:=gH (aa Bx) qi.2.2.2.2.2.2.2.2.2);go_simp;try with_reducible rfl)}
 simp only [Act.put,xa,xb,xc];refine gy 7 8 9 10 11 12 13 14 hS ?_;refine gC 15 16 17 18 hS ?_;refine fe 20 21 hS ?_;refine bH 19 fun KK hK=>?_;refine ia (yX hp hc hh nd.holders Gi _ (UH.below aJ.drew) J4 HU1) ?_;rintro r w2 ⟨D1,rfl,o1,s1,bk,uW⟩;refine ⟨_,rfl,?_⟩;have vf:Bw X w2:=ah (Below.refl X.heap.size X).drew bk;have KX2:Hid (w2.cell? ⟨b,5,none⟩=some (.map (some bn))/\w2.cell? ⟨C,0,none⟩=some (.S pp pn pc)/\w2.cell? ⟨C,1,none⟩=some (.S vq vn vc)/\w2.cell? ⟨C,2,none⟩=some (.U ow)/\w2.cell? ⟨C,3,none⟩=some (.I mo)/\w2.cell? ⟨C,4,none⟩=some (.S hp hh hc)/\w2.cell? ⟨C,5,none⟩=some (.U ep)/\w2.cell? ⟨C,6,none⟩=some (.U ge)/\w2.cell? ⟨C,7,none⟩=some (.S up un uc)/\Rd w2 (.S pp pn pc) nd.path):=by obtain ⟨k0,k1,k2,k3,k4,k5,k6,k7,k8,k9⟩:=aa KX;exact ⟨af k0 vf,af k1 vf,af k2 vf,af k3 vf,af k4 vf,af k5 vf,af k6 vf,af k7 vf,af k8 vf,k9.below vf⟩
 refine cg hK (by exact KX2) fun hS=>?_;clear hK KK;have zd:X.drew.heap.size=X.heap.size:=rfl;rw [zd] at o1 uW ⊢;obtain ⟨h1,Uf⟩:=ax X.heap.size;rw [<-Uf] at o1 uW ⊢;have Px:=ae (ag o1 (ag s1 (ag uW Uf)));have qv:=ae vf;clear o1 s1 bk uW vf zd Uf;refine bH 22 fun KK hK=>?_;refine ia (yX up uc un nd.watchers Jk _ (UU.below qv) JX HU2) ?_;rintro r w3 ⟨D2,rfl,o2,s2,dA,OY⟩;refine ⟨_,rfl,?_⟩;have KX3:Hid (w3.cell? ⟨b,5,none⟩=some (.map (some bn))/\w3.cell? ⟨C,0,none⟩=some (.S pp pn pc)/\w3.cell? ⟨C,1,none⟩=some (.S vq vn vc)/\w3.cell? ⟨C,2,none⟩=some (.U ow)/\w3.cell? ⟨C,3,none⟩=some (.I mo)/\w3.cell? ⟨C,4,none⟩=some (.S hp hh hc)/\w3.cell? ⟨C,5,none⟩=some (.U ep)/\w3.cell? ⟨C,6,none⟩=some (.U ge)/\w3.cell? ⟨C,7,none⟩=some (.S up un uc)/\Rd w3 (.S pp pn pc) nd.path):=by obtain ⟨k0,k1,k2,k3,k4,k5,k6,k7,k8,k9⟩:=aa KX2;exact ⟨af k0 dA,af k1 dA,af k2 dA,af k3 dA,af k4 dA,af k5 dA,af k6 dA,af k7 dA,af k8 dA,k9.below dA⟩
 refine cg hK (by exact KX3) fun hS=>?_;clear hK KK;obtain ⟨u1,Ub⟩:=ax w2.heap.size;rw [<-Ub] at o2 OY ⊢;have HO2:=ae (ag o2 (ag s2 (ag OY Ub)));have ra:=ae dA;clear o2 s2 dA OY Ub;refine tn 23 hS ?_;refine bH 24 fun KK hK=>?_;refine Kw (by rfl) 137 _ (by rfl) (.agg #[.S vq vn vc,.U ow,.I mo,.map (some h1),.U ep,.U ge,.map (some u1)]) (by rfl) _ _ (Cz _ _ _ _ _ _ _ _) ?_;obtain ⟨Z,eZ⟩:=ax (w3.alloc (.cells #[.S vq vn vc,.U ow,.I mo,.map (some h1),.U ep,.U ge,.map (some u1)] 137));have bZ:=ju eZ;have hZ:Z.heap[w3.heap.size]?=some (.cells #[.S vq vn vc,.U ow,.I mo,.map (some h1),.U ep,.U ge,.map (some u1)] 137):=by rw [eZ];exact (MapKept.heap_alloc w3 _).1
 rw [<-eZ];clear eZ;have KX4:Hid (Z.cell? ⟨b,5,none⟩=some (.map (some bn))/\Z.cell? ⟨C,0,none⟩=some (.S pp pn pc)/\Z.cell? ⟨C,1,none⟩=some (.S vq vn vc)/\Z.cell? ⟨C,2,none⟩=some (.U ow)/\Z.cell? ⟨C,3,none⟩=some (.I mo)/\Z.cell? ⟨C,4,none⟩=some (.S hp hh hc)/\Z.cell? ⟨C,5,none⟩=some (.U ep)/\Z.cell? ⟨C,6,none⟩=some (.U ge)/\Z.cell? ⟨C,7,none⟩=some (.S up un uc)/\Rd Z (.S pp pn pc) nd.path):=by obtain ⟨k0,k1,k2,k3,k4,k5,k6,k7,k8,k9⟩:=aa KX3;exact ⟨af k0 bZ,af k1 bZ,af k2 bZ,af k3 bZ,af k4 bZ,af k5 bZ,af k6 bZ,af k7 bZ,af k8 bZ,k9.below bZ⟩
 refine cg hK (by exact KX4) fun hS=>?_;clear hK KK;obtain ⟨g1,eg1⟩:=ax w3.heap.size;rw [<-eg1] at hZ ⊢;have XV:Bw X Z:=ah (ah qv ra) bZ;obtain ⟨i1,i2,i3,i4⟩:=aa HIN;obtain ⟨bX,zX,kO⟩:=aa HX;obtain ⟨o1,s1,uW,Uf⟩:=aa Px;obtain ⟨o2,s2,OY,Ub⟩:=aa HO2;have Oi:Bw wr Z:=ah bX XV;obtain ⟨D0,oD,mD⟩:=i1.own;have hlen:(ns.take j).length=j:=by rw [List.length_take,aa em];omega
 rw [hlen] at oD;have oZ:Z.ownsMap prog 9 aZ bn j D0:=oD.kept (az Oi none) (by simp);have q1:Z.ownsMap prog 23 unitElem h1 hh D1:=(o1.kept (az (aa ra) none) (by simp)).kept (az bZ none) (by simp);have q2:Z.ownsMap prog 23 unitElem u1 un D2:=o2.kept (az bZ none) (by simp);have lt3:=ra.size;have lt2:=qv.size;have rh:=oD.lt;have HQ:=ae (ag q1 (ag q2 (ag s1 s2)));have bb8:=ae (ag uW (ag Uf (ag OY (ag Ub (ag eg1 (ag zX (ag lt2 (ag lt3 rh))))))));have HOZ:=ae oZ;have an4:=ae (ag hZ (ag Oi (ag oD mD)));clear q1 q2 s1 s2 uW Uf OY Ub eg1 zX lt2 lt3 rh oZ hZ Oi oD mD i1 i2 i3 i4 bX kO o1 o2 XV bZ;refine bH 25 fun KK hK=>?_;refine oo (by rfl) _ _ _ 130 (by rfl) 9 _ kM underlying130 aZ bn j D0 (by rfl) (by exact HOZ) (by unfold maxLen;omega) (.string (aC nd.path)) (.pointer (some ⟨g1,0,none⟩)) (bN nd.path) (by rfl) (by rfl) yM (.lit (.I g1)) [] rfl ?_;intro w4 uw sw;obtain ⟨hZ,Oi,oD,mD⟩:=aa an4;obtain ⟨i1,i2,i3,i4⟩:=aa HIN;obtain ⟨q1,q2,s1,s2⟩:=aa HQ;obtain ⟨uW,Uf,OY,Ub,eg1,zX,lt2,lt3,rh⟩:=aa bb8;have aI8:=sw.size;have zZ:=aG hZ;have zRZ:=Oi.size;have aO9:=aR.size;obtain ⟨eb,Ui,Uh,zW⟩:=aa HEQ;have hCe:=aa HCE;have Ro:Z.heap[b]?=some (.cells #[.U e,.U g,.U x,.I t,.map (some bs),.map (some bn)] 132):=(Oi.block b (aG i3)).trans i3;have nb:b≠bn:=by omega
 have nC:C≠bn:=by omega
 have KX5:Hid (w4.cell? ⟨b,5,none⟩=some (.map (some bn))/\w4.cell? ⟨C,0,none⟩=some (.S pp pn pc)/\w4.cell? ⟨C,1,none⟩=some (.S vq vn vc)/\w4.cell? ⟨C,2,none⟩=some (.U ow)/\w4.cell? ⟨C,3,none⟩=some (.I mo)/\w4.cell? ⟨C,4,none⟩=some (.S hp hh hc)/\w4.cell? ⟨C,5,none⟩=some (.U ep)/\w4.cell? ⟨C,6,none⟩=some (.U ge)/\w4.cell? ⟨C,7,none⟩=some (.S up un uc)/\Rd w4 (.S pp pn pc) nd.path):=by
  obtain ⟨k0,k1,k2,k3,k4,k5,k6,k7,k8,k9⟩:=aa KX4;have hC:=sw.block C (by omega) (by simpa using nC);exact ⟨(bQ (sw.block b (aG Ro) (by simpa using nb)) _).trans k0,(bQ hC _).trans k1,(bQ hC _).trans k2,(bQ hC _).trans k3,(bQ hC _).trans k4,(bQ hC _).trans k5,(bQ hC _).trans k6,(bQ hC _).trans k7,(bQ hC _).trans k8,
   Ox.r0.below (bR (ah aR Oi) sw (by omega) (fun j hj=>by cases hj;omega))⟩
 refine cg hK (by exact KX5) fun hS=>?_;clear hK KK;refine bu ?_;obtain ⟨e1,e2,e3,e4⟩:=aa HE;have dz:nI w w4 bn (ns.take (j+1)) (NB++[g1]) (HB++[h1]) (UB++[u1]):=by rw [l9 (aa HY)];refine i1.step nd g1 h1 u1 (az Oi none) (by omega) (by omega) (by omega) (by omega) aR.size (.S vq vn vc) Ox.r1 (by rw [e1,e2,e3,e4];exact hZ) (by rw [aa Gi];exact q1) s1 (by rw [aa Jk];exact q2) s2 (fun z hz=>?_) mD oD.isMap (by rw [hlen];exact uw) sw;obtain ⟨i,hi,JU⟩:=rS hz;intro ee;exact aV i j z nd JU (aa HY) hi (jD (aa fI z (aF JU)).1 (aa fI nd (aF (aa HY))).1 ee)
 have hse:pO w w4 bs ss SB:=(i2.kept (az Oi none) (by simp) (by simp)).kept sw (by simp;omega) (fun y hy=>by obtain ⟨i,hi⟩:=List.getElem?_of_mem hy;obtain ⟨s,hs⟩:∃ s,ss[i]?=some s:=⟨_,aK (by rw [<-i2.len];exact (aN.1 hi).1)⟩;obtain ⟨_,u,a2,_⟩:=i2.aI i s y hs hi;have:=jv oD a2;simpa using this)
 have gL:w4.heap[b]?=some (.cells #[.U e,.U g,.U x,.I t,.map (some bs),.map (some bn)] 132):=(sw.block b (aG Ro) (by simpa using nb)).trans Ro;have Rz:Bw w w4:=bR (ah aR Oi) sw (by omega) (fun j hj=>by cases hj;omega);have hz4:W.heap.size<=w4.heap.size:=by omega
 have hd4:∀ y∈(HB++[h1])++(UB++[u1]),y≠bs:=by intro y hy;simp only [List.mem_append,List.mem_singleton] at hy;rcases hy with (hy | rfl) | (hy | rfl);{exact i4 y (List.mem_append.2 (.inl hy))};{omega};{exact i4 y (List.mem_append.2 (.inr hy))};{omega}
 have bc6:=ae (ag dz (ag hse (ag gL hd4)));clear dz hse gL hd4 hS uw sw i1 i2 i3 i4 q1 q2 s1 s2 uW Uf OY Ub eg1 zX lt2 lt3 rh eb Ui Uh zW hCe hZ Oi oD mD Ro e1 e2 e3 e4 aI8 aO9 nb nC zZ zRZ KX KX2 KX3 KX4 KX5;go_wp2;go_roundw
 case rel=>exact ⟨j+1,_,_,_,by omega,by go_num,bc6,Rz,hz4⟩
 case measure=>simp [intOf];omega}
 {
 have bm:=dy j m;have ekm:j=m:=by omega
 subst ekm;obtain ⟨i1,i2,i3,i4⟩:=aa pK;rw [List.take_of_length_le (by rw [aa em];exact Nat.le_refl _)] at i1;obtain ⟨eb,Ui,Uh,zW⟩:=aa HEQ;have FN:kc w wr b bs bn e g x t ss ns SB NB HB UB:=⟨i3,i2,i1,by omega,by rw [List.nodup_cons];refine ⟨fun fK=>?_,i1.BF⟩;rcases List.mem_cons.1 fK with hh | hh;{omega};{exact i4 _ hh rfl}⟩
 have bd2:=ae FN;clear i1 i2 i3 i4 eb Ui Uh zW FN;go_wp2;go_ret;exact ⟨b,rfl,⟨bs,bn,SB,NB,HB,UB,bd2⟩,aR⟩})})
theorem zI (X:World) (v0:Value) (l0:List Int) (N:Nat) (en:Hid (l0.length=N)) (r0:Rd X v0 l0) (hl:N<=4194304) :
  Calls prog 61 #[.S (some ⟨X.heap.size,0,none⟩) 1 1] (X.alloc (.cells #[v0] 22)) fun e w'=>∃ p' c',e=.returned (.S p' N c')/\Own X.heap.size w' (.S p' N c') l0/\Bw X w':=by
 have ba:Bw X (X.alloc (.cells #[v0] 22)):=aJ.alloc aA _;refine (xh X.heap.size [v0] [l0] l0 N 1 rfl (by show _=_;simp [cat]) en _ ⟨rfl,fun j v x e1 e2=>?_⟩ hl (by omega)).mono ?_;{
 match j,e1,e2 with
 | 0,e1,e2=>simp at e1 e2;subst e1 e2;exact ⟨by simp,r0.below ba⟩}
 {rintro e w' ⟨p',c',rfl,o,hb⟩;exact ⟨p',c',rfl,Own.mono o (by simp),ah ba hb⟩}
theorem xM (I D:Int) (p:Option Addr) (c n:Nat) (Q:List Ev) (en:Hid (Q.length=n)) (w:World) (h:jJ w (.S p n c) Q) (hn:n<=1048576) (hbq:Hid (∀ e∈Q,e.2.length<=1048576)) :
  Calls prog 100 #[.agg #[.U I,.I D,.S p n c]] w fun r w'=>∃ p' c' A,r=.returned (.agg #[.U I,.I D,.S p' n c'])/\jJ w' (.S p' n c') Q/\Ek w' (.S p' n c') Q A/\lx w.heap.size w' A/\Bw w w':=by
 obtain ⟨ie,Yb,mw,iT,jW⟩:=info_parts Tryz.infoEv;have HR:=ae fun (w':World) (hb:Bw w w')=>h.below hb;clear h;obtain ⟨W,hW⟩:=ax (w.alloc (.cells #[.U I,.I D,.S p n c] 35));have bW:=ju hW;have zW:W.heap.size=w.heap.size+1:=by rw [hW];simp
 have k0:W.cell? ⟨w.heap.size,0,none⟩=some (.U I):=by rw [hW];simp
 have k1:W.cell? ⟨w.heap.size,1,none⟩=some (.I D):=by rw [hW];simp
 have k2:W.cell? ⟨w.heap.size,2,none⟩=some (.S p n c):=by rw [hW];simp
 go_enter func100,ntmps100;go_wp2_with fail;obtain ⟨W2,iL⟩:=ax (W.alloc (.cells #[.U 0,.I 0,.S none 0 0] 35));have Uo:=ju iL;have zW2:W2.heap.size=w.heap.size+2:=by rw [iL];simp;omega
 have TG:aq W2 (w.heap.size+1) [.U 0,.I 0,.S none 0 0]:=by rw [iL,show w.heap.size+1=W.heap.size by omega];exact aq.alloc W #[.U 0,.I 0,.S none 0 0] _
 rw [<-hW,<-iL];have b2:=ah bW Uo;have HK:=ae (ag (af k0 Uo) (ag (af k1 Uo) (af k2 Uo)));have Pt:=ae TG;clear hW iL Uo k0 k1 k2 bW zW TG
 go_loopw [3,9] (fun ov iv wr=>∃ (k:Nat) (Ls:List (List Lf)),k<=n/\iv=.I k/\Hid (fu Bv 49 2 W2.heap.size wr ov (Q.take k) Ls)/\Bw W2 wr) (fun _ iv _=>n-(intOf iv).toNat)
 case atStart=>exact ⟨0,[],Nat.zero_le _,rfl,fu.nil _ _ _ _ _,Below.refl _ _⟩
 case round =>(
 obtain ⟨k,Ls,hk,rfl,ho,aR⟩:=hrel;have BB:=ah b2 aR;by_cases bj:k<n;{
 have bm:=aT k n;have fL:k<Q.length:=by rw [aa en];exact bj
 obtain ⟨⟨K,P⟩,hy⟩:∃ y,Q[k]?=some y:=⟨_,aK fL⟩;obtain ⟨b,o,rfl,hcK,u,Wk,Hk,qP⟩:∃ b o,p=some ⟨b,o,none⟩/\wr.cell? ⟨b,o+k*2,none⟩=some (.I K)/\∃ u,wr.cell? ⟨b,o+k*2+1,none⟩=some u/\Rd wr u P/\iH u:=by obtain ⟨p',c',ev,hd⟩:=aa HR _ BB;simp only [Value.slice.injEq] at ev;obtain ⟨rfl,-,-⟩:=ev;rcases hd with h0 | ⟨b,o,h1,h2⟩;{rw [h0] at fL;simp at fL};{exact ⟨b,o,h1,h2 k _ hy⟩}
 obtain ⟨pp,pc,m,rfl,em⟩:=Hk.gD;have hm:m<=1048576:=by rw [<-aa em];exact aa hbq _ (aF hy)
 have XK:=ae Hk;have HY:=ae hy;clear Hk qP hy fL;go_wp2_with fail;obtain ⟨X,hX⟩:=ax (wr.alloc (.cells #[.I K,.S pp m pc] 49));have Yl:=ju hX;have e0:X.cell? ⟨wr.heap.size,0,none⟩=some (.I K):=by rw [hX];simp
 have e1:X.cell? ⟨wr.heap.size,1,none⟩=some (.S pp m pc):=by rw [hX];simp
 obtain ⟨V,hV⟩:=ax X.drew;have hbV:Bw wr V:=by rw [hV];exact Yl.drew
 rw [<-hX];refine bO (fun w'=>w'.cell? ⟨wr.heap.size,0,none⟩=some (.I K)/\w'.cell? ⟨wr.heap.size,1,none⟩=some (.S pp m pc)) (by exact ⟨e0,e1⟩) fun hS=>?_;rw [<-hV] at hS ⊢;have KV:=ae hS;have zV:wr.heap.size<V.heap.size:=World.block_lt_of_cell? V _ hS.1;have z2r:=aR.size;clear hX Yl e0 e1 hV hcK Wk;have OV:=ae (ho.below Bv.aU hbV);have HU3:=ae fun b hb=>(ho.lt.1 b hb).2;have rV:=ae (XK.below hbV);clear ho;refine gC 0 1 2 3 hS ?_;refine tn 4 hS ?_;refine bH 5 fun KK hK=>?_;go_simp;have S5:=(Below.refl V.heap.size V).alloc aA (.cells #[.S pp m pc] 22);refine cg hK (by exact ⟨af KV.1 S5,af KV.2 S5⟩) fun hS=>?_;clear hK KK;refine bH 6 fun KK hK=>?_;refine ia (zI V (.S pp m pc) P m em rV (by omega)) ?_;rintro r v1 ⟨p6,c6,rfl,o6,DP⟩;refine ⟨_,rfl,?_⟩;have K6:=ae (ag (af KV.1 DP) (af KV.2 DP));refine cg hK (by exact K6) fun hS=>?_;clear hK KK S5;have O6:=ae o6;have B6:=ae DP;clear o6 DP;refine tn 7 hS ?_;refine bH 8 fun KK hK=>?_;go_simp;have A8:=(Below.refl v1.heap.size v1).alloc aA (.cells #[.I K,.S p6 m c6] 49);refine hK.out _ _ (by exact ⟨af K6.1 A8,af K6.2 A8⟩) (fun hS=>?_);clear hK KK;obtain ⟨Z,hZ⟩:=ax (v1.alloc (.cells #[.I K,.S p6 m c6] 49));have hcZ:∀ j u,[Value.I K,.S p6 m c6][j]?=some u->Z.cell? ⟨v1.heap.size,j,none⟩=some u:=fun j u hu=>by have:=(aq.alloc v1 #[.I K,.S p6 m c6] 49).1 j u (by simpa using hu);rw [hZ];exact this
 rw [<-hZ] at A8 hS ⊢;have bVZ:Bw V Z:=ah B6 A8;have OZ:=OV.below Bv.aU bVZ;obtain ⟨lb,q1,q2,q3,q4⟩:=KR (kd:=.u8) (Own.below O6 A8);have elz:Bv Z (K,P) [.I K,.S p6 m c6] lb:=⟨p6,c6,by rw [aa em],by rw [aa em];exact (Own.below (aa O6) A8).rd,by rw [aa em];exact ⟨_,_,_,rfl,(Own.below (aa O6) A8).cap,(Own.below (aa O6) A8).BJ⟩,by rw [aa em];exact q1⟩;obtain ⟨cs,g1,g2,g3,g4,g5,g6,g7⟩:=id OZ;have hlV:=OV.lt;have hle:(Q.take k).length<=1048576:=by rw [List.length_take];omega
 have z9:W2.heap.size<=Z.heap.size:=by have:=bVZ.size;omega
 clear hZ
 (try simp only [Act.put,xa,xb,xc])
 refine bH 9 fun KK hK=>?_;refine fR (by rfl) _ _ 33 (by rfl) W2.heap.size 49 ie _ 2 32 underlying33 Yb mw iT jW rfl (by decide) u3 _ _ (by rfl) g4 v1.heap.size 1 1 [.I K,.S p6 m c6] (by rfl) rfl hcZ (fun u hu=>by simp at hu;rcases hu with rfl | rfl<;>rfl) (by unfold maxLen;omega) (by omega) z9 ?_;intro v' w9 dW hg mr;have sn:=fu.snoc g1 g2 g3 g5 g6 g7 Bv.aU elz rfl q2 (by omega) (fun a ha=>(hlV.2 a ha).2) (fun b hb=>(hlV.1 b hb).2) dW hg mr;rw [<-l9 (aa HY)] at sn;have fo:Bw W2 w9:=(ah (ah aR hbV) bVZ).grown hg z9 (fun b hb=>(hlV.1 b hb).1);have K9:w9.cell? ⟨wr.heap.size,0,none⟩=some (.I K)/\w9.cell? ⟨wr.heap.size,1,none⟩=some (.S pp m pc):=by
  have bL:some wr.heap.size≠u3.ownBlock:=fun e=>by have:=aa HU3 _ e.symm;omega
  exact ⟨hg.cell hS.1 bL,hg.cell hS.2 bL⟩
 refine cg hK (by exact K9) fun hS=>?_;clear hK KK;refine tn 10 hS ?_;refine bu ?_;have SN:=ae sn;clear hS sn dW hg mr g1 g2 g3 g4 g5 g6 g7 elz q1 q2 q3 q4 hcZ OZ hlV;go_wp2;go_roundw
 case rel=>exact ⟨k+1,_,by omega,by go_num,SN,fo⟩
 case measure=>simp [intOf];omega}
 {
 have bm:=dy k n;have Ex:k=n:=by omega
 subst Ex;have o2:=aa ho;rw [List.take_of_length_le (by rw [aa en];exact Nat.le_refl _)] at o2;obtain ⟨JR,A,IK,BN⟩:=o2.ev;obtain ⟨pv,cv,rfl,-⟩:=id JR;rw [aa en] at JR IK ⊢;obtain ⟨q0,q1,q2⟩:=aa HK;have c0:=af q0 aR;have c1:=af q1 aR;have TG:=Pt.below (by omega) aR;have r0:=TG.1 0 _ rfl;have r1:=TG.1 1 _ rfl;have r2:=TG.1 2 _ rfl;have rf:=TG.2;have bL:¬ w.heap.size+1=w.heap.size:=by omega
 have RD:=ae (ag JR (ag IK BN));have Fz:=aR.size;clear JR IK BN o2 q0 q1 q2 TG;go_wp2;obtain ⟨JR,IK,BN⟩:=aa RD;obtain ⟨Z,hZ⟩:=ax (((wr.setCell ⟨w.heap.size+1,0,none⟩ (.U I)).setCell ⟨w.heap.size+1,1,none⟩ (.I D)).setCell ⟨w.heap.size+1,2,none⟩ (.S pv k cv));have hk:∀ a∈A,Z.heap[a.b]?=wr.heap[a.b]?:=fun a ha=>by have:=BN.lo a ha;rw [hZ];rw [dF _ _ _ _ (by simp;omega),dF _ _ _ _ (by simp;omega),dF _ _ _ _ (by simp;omega)]
 have Yk:Bw w Z:=by rw [hZ];exact ((BB.setCell (by simp) _).setCell (by simp) _).setCell (by simp) _
 refine bodyPost_ret (v:=.agg #[.U I,.I D,.S pv k cv]) (by simp [results,results100,go_sem,r0,r1,r2]) rfl ⟨pv,cv,rfl,?_⟩;rw [<-hZ];exact ⟨JR.cX IK hk,A,Ek.aU IK hk,(BN.aU hk).mono (by omega),Yk⟩})
theorem AK {ss:List Int} (h:Q.SC B w v ss):∃ p c A,v=.S p ss.length c/\nH w (.S p ss.length c) ss/\XE (.S p ss.length c) ss A/\lx B w A:=by
 rcases h with ⟨rfl,rfl⟩ | ⟨g,cap,rfl,hb,hl,hH⟩;{exact ⟨none,0,[],rfl,⟨none,0,rfl,.inl rfl⟩,⟨none,0,[],rfl,rfl,rfl,.inl rfl⟩,lx.nil _ _⟩};{
 have hc:∀ i,i<ss.length->w.cell? ⟨g,0+i,none⟩=some (.U (ss.getD i 0))/\w.frozen? ⟨g,0+i,none⟩=false:=fun i hi=>by
  have:=hH i (by simpa using hi);simp only [List.getElem!_toArray] at this;rw [List.getD_eq_getElem?_getD,aK hi];have e:ss[i]! = ss[i]:=by simp [hi]
  first | (rw [e] at this;exact this) | simpa [hi] using this
 refine ⟨some ⟨g,0,none⟩,cap,(List.range ss.length).map fun i=>⟨g,0+i,.u64⟩,rfl,⟨_,_,rfl,.inr ⟨g,0,rfl,fun i hi=>(hc i hi).1⟩⟩,⟨some ⟨g,0,none⟩,cap,(List.range ss.length).map fun i=>[⟨g,0+i,.u64⟩],rfl,by simp,?_,.inr ⟨g,0,rfl,fun i x l' hx hl=>?_⟩⟩,⟨?_,fun a ha=>?_,fun a ha=>?_⟩⟩;{
 induction (List.range ss.length) with
 | nil=>rfl
 | cons i r ih=>rw [List.map_cons,List.map_cons,List.flatten_cons,<-ih];rfl}
 {
 obtain ⟨hi,e⟩:=aN.1 hl;simp at e;rw [<-e,Nat.mul_one,Nat.zero_add]
 rfl}
 {rw [List.map_map,List.Nodup,List.pairwise_map];exact List.nodup_range.imp (fun {i j} jc=>by simpa using jc)};{obtain ⟨i,hi,rfl⟩:=List.mem_map.1 ha;exact hb};{obtain ⟨i,hi,rfl⟩:=List.mem_map.1 ha;obtain ⟨h1,h2⟩:=hc i (by simpa using hi);exact ⟨⟨_,h1⟩,h2⟩}}
theorem mW:∀ {l m:List Int},l.Pairwise (·<·)->m.Pairwise (·<·)->(∀ x,x∈l↔x∈m)->l=m
 | [],[],_,_,_=>rfl
 | [],b::m,_,_,h=>absurd ((h b).2 (by simp)) (by simp)
 | a::l,[],_,_,h=>absurd ((h a).1 (by simp)) (by simp)
 | a::l,b::m,h1,h2,h=>by
  rw [List.pairwise_cons] at h1 h2;have FR:a=b:=by rcases List.mem_cons.1 ((h a).1 (by simp)) with e | e;{exact e};{rcases List.mem_cons.1 ((h b).2 (by simp)) with e' | e';{exact e'.symm};{have:=h2.1 a e;have:=h1.1 b e';omega}}
  subst FR;rw [mW h1.2 h2.2 (fun x=>?_)];constructor;{intro hx;rcases List.mem_cons.1 ((h x).1 (by simp [hx])) with e | e;{have:=h1.1 x hx;omega};{exact e}};{intro hx;rcases List.mem_cons.1 ((h x).2 (by simp [hx])) with e | e;{have:=h2.1 x hx;omega};{exact e}}
theorem wu {ss:List Int} (h:db D s) (hs:s.Pairwise (·<·)) (ha:Q.S7 D ss):ss=s:=by
 refine mW ha.lt hs fun x=>?_;rw [ha.mem x,h];constructor;{rintro ⟨i,hi,e⟩;simp only [Lit.int.injEq,true_and] at e;rw [e];exact hi};{intro hx;exact ⟨x,hx,rfl⟩}
structure KN (w:World) (g h u:Nat) (V:Value) (nd:aD):Prop where
 aI:w.heap[g]?=some (.cells #[V,.U nd.owner,.I nd.mode,.map (some h),.U nd.aB,.U nd.gen,.map (some u)] 137)
 val:Rd w V nd.value
 Hn:∃ D,w.ownsMap Tryz.prog 23 unitElem h nd.holders.length D/\db D nd.holders
 Iq:∃ D,w.ownsMap Tryz.prog 23 unitElem u nd.watchers.length D/\db D nd.watchers
structure PB (w:World) (M N:Nat) (v:Value) (xs:List Int) (A:List Lf):Prop where
 rd:Rd w v xs
 cap:iH v
 lv:JI v xs A
 ap:lx M w A
 hi:∀ a∈A,a.b<N
structure PU (w:World) (M N:Nat) (v:Value) (xs:List Int) (A:List Lf):Prop where
 rd:nH w v xs
 lv:XE v xs A
 ap:lx M w A
 hi:∀ a∈A,a.b<N
theorem PB.below (h:PB w M N v xs A) (hb:Bw w w'):PB w' M N v xs A:=
 ⟨h.rd.below hb,h.cap,h.lv,h.ap.aU (fun a ha=>hb.block _ (h.ap.vE.lt ha)),h.hi⟩
theorem PU.below (h:PU w M N v xs A) (hb:Bw w w'):PU w' M N v xs A:=
 ⟨h.rd.below hb,h.lv,h.ap.aU (fun a ha=>hb.block _ (h.ap.vE.lt ha)),h.hi⟩
theorem Own.pb {p:Option Addr} {n c:Nat} (h:Own B w (.S p n c) l):∃ A,PB w B w.heap.size (.S p n c) l A:=by
 obtain ⟨A,q1,q2,q3,q4⟩:=KR (kd:=.u8) h;exact ⟨A,h.rd,⟨_,_,_,rfl,h.cap,h.BJ⟩,q1,q2,fun a ha=>q2.vE.lt ha⟩
theorem lx.Xs {A2:List Lf} (h:lx B w A) (h2:lx B w A2) (hd:∀ a∈A,∀ a2∈A2,a.b≠a2.b):lx B w (A++A2):=by
 refine ⟨?_,fun a ha=>?_,kK.app.2 ⟨h.vE,h2.vE⟩⟩;{rw [List.map_append,List.nodup_append];refine ⟨h.nd,h2.nd,fun x hx y hy=>?_⟩;obtain ⟨a,ha,rfl⟩:=List.mem_map.1 hx;obtain ⟨a2,sB,rfl⟩:=List.mem_map.1 hy;intro e;simp only [Prod.mk.injEq] at e;exact hd a ha a2 sB e.1};{rcases List.mem_append.1 ha with ha | ha;{exact h.lo a ha};{exact h2.lo a ha}}
theorem Al (hB:bM l) (j:Nat) (hj:j<l.length):(((aC l).data.toList.getD j 0).toNat:Int)=l.getD j 0:=by
 have VZ:j<(aC l).size:=by rw [di];exact hj
 have h:=ab5 hB j VZ;rw [<-h];have hl:j<(aC l).data.toList.length:=by rw [fM];simpa using hj
 rw [List.getD_eq_getElem?_getD,aK hl]
 rfl
theorem Hw (w:World) (hB:bM l) (hl:l.length<=1048576):∃ p' c' W A,(convert 9 22 (.string (aC l))).run prog w=.ok (.S p' l.length c') W/\PB W w.heap.size W.heap.size (.S p' l.length c') l A/\Bw w W:=by
 have cK:=Lib.run_convert_string_bytes (P:=prog) w 9 22 5 (aC l) underlying9 underlying22 underlying5;rw [di] at cK;obtain ⟨W,hW⟩:=ax (Lib.bytesWorld w 5 (aC l));have il:W.heap.size=w.heap.size+1:=by rw [hW];exact Lib.bytesWorld_size _ _ _
 have bG:∀ j,j<l.length->W.cell? ⟨w.heap.size,0+j,none⟩=some (.int .u8 (l.getD j 0)):=fun j hj=>by rw [hW,Nat.zero_add,Lib.bytesWorld_cell _ _ _ _ (by rw [di];exact hj),Al hB j hj]
 have My:∀ j,j<l.length->W.frozen? ⟨w.heap.size,0+j,none⟩=false:=fun j hj=>by
  have hn:=Lib.bytesWorld_at_new w 5 (aC l);have hs:j<(Lib.bytesCells w 5 (aC l)).size:=by simp only [Lib.bytesCells,Array.size_append,Array.size_map];have:(aC l).data.size=l.length:=di l;omega
  rw [hW,Nat.zero_add];simp only [World.frozen?,hn];simp;omega
 have hb:Bw w W:=by refine ⟨by rw [hW];rfl,by rw [hW];rfl,by rw [hW];rfl,by omega,fun k hk=>by rw [hW];exact Lib.bytesWorld_at_old _ _ _ _ hk⟩
 have qP:iH (.S (some ⟨w.heap.size,0,none⟩) l.length (grownCap w l.length 0 5)):=⟨_,_,_,rfl,grownCap_ge _ _ _ _,grownCap_le_maxLen _ _ _ _ (by unfold maxLen;omega)⟩;rw [<-hW] at cK;refine ⟨_,_,_,(List.range l.length).map fun i=>⟨w.heap.size,0+i,.u8⟩,cK,⟨⟨_,_,rfl,.inr ⟨w.heap.size,0,rfl,bG⟩⟩,qP,⟨some ⟨w.heap.size,0,none⟩,_,(List.range l.length).map fun i=>[⟨w.heap.size,0+i,.u8⟩],rfl,by simp,?_,.inr ⟨w.heap.size,0,rfl,fun i x l' hx hl=>?_⟩⟩,⟨?_,fun a ha=>?_,fun a ha=>?_⟩,fun a ha=>?_⟩,hb⟩;{
 induction (List.range l.length) with
 | nil=>rfl
 | cons i r ih=>rw [List.map_cons,List.map_cons,List.flatten_cons,<-ih];rfl}
 {
 obtain ⟨hi,e⟩:=aN.1 hl;simp at e;rw [<-e,Nat.mul_one,Nat.zero_add]
 rfl}
 {rw [List.map_map,List.Nodup,List.pairwise_map];exact List.nodup_range.imp (fun {i j} jc=>by simpa using jc)};{obtain ⟨i,hi,rfl⟩:=List.mem_map.1 ha;exact Nat.le_refl _};{obtain ⟨i,hi,rfl⟩:=List.mem_map.1 ha;exact ⟨⟨_,bG i (by simpa using hi)⟩,My i (by simpa using hi)⟩};{obtain ⟨i,hi,rfl⟩:=List.mem_map.1 ha;simp only;omega}
theorem EJ {Q:Exit->Act->World->Prop} (jK:o.guard=none) (x:Operand) (DI:o.op=Op.convert 9 22 x) (l:List Int) (hx:a.eval x=.string (aC l)) (hB:bM l) (hl:l.length<=1048576)
  (hK:∀ p' c' w' A,PB w' w.heap.size w'.heap.size (.S p' l.length c') l A->Bw w w'->K (a.put o.dst (.S p' l.length c')) w') :
  if Region.wanted o (yielded ops a.tmps)=true then Oper.wp prog o a w K Q else E:=by
 have hw:Region.wanted o (yielded ops a.tmps)=true:=by simp [Region.wanted,jK]
 rw [if_pos hw];obtain ⟨p',c',W,A,cK,hP,hb⟩:=Hw w hB hl;unfold Oper.wp;simp only [execOp,DI,hx,Sem.run_bind,Sem.run_pure,Result.andThen_ok,cK,Result.andThen];exact hK _ _ _ _ hP hb
theorem mT.mk4 {p0 p1 p4 p7:Option Addr} {c0 c1 c4 c7 M0 N0 M1 N1 M4 N4 M7 N7:Nat} {l0 l1 l4 l7:List Lf} (h0:PB w M0 N0 (.S p0 nd.path.length c0) nd.path l0) (h1:PB w M1 N1 (.S p1 nd.value.length c1) nd.value l1) (h4:PU w M4 N4 (.S p4 nd.holders.length c4) nd.holders l4) (h7:PU w M7 N7 (.S p7 nd.watchers.length c7) nd.watchers l7)
  (b0:B<=M0) (b1:B<=M1) (b4:B<=M4) (b7:B<=M7) (d01:N0<=M1\/N1<=M0) (d04:N0<=M4\/N4<=M0) (d07:N0<=M7\/N7<=M0) (d14:N1<=M4) (d17:N1<=M7) (d47:N4<=M7) :
  mT w nd [.S p0 nd.path.length c0,.S p1 nd.value.length c1,.U nd.owner,.I nd.mode,.S p4 nd.holders.length c4,.U nd.aB,.U nd.gen,.S p7 nd.watchers.length c7] (l0++(l1++(l4++l7)))/\lx B w (l0++(l1++(l4++l7))):=by
 refine ⟨⟨p0,c0,p1,c1,p4,c4,p7,c7,l0,l1,l4,l7,rfl,rfl,⟨h0.rd,h0.cap,h0.lv⟩,⟨h1.rd,h1.lv⟩,⟨h4.rd,h4.lv⟩,⟨h7.rd,h7.lv⟩⟩,?_⟩;refine (h0.ap.mono b0).Xs ((h1.ap.mono b1).Xs ((h4.ap.mono b4).Xs (h7.ap.mono b7) fun a ha a2 sB e=>?_) fun a ha a2 sB e=>?_) fun a ha a2 sB e=>?_;{have:=h4.hi a ha;have:=h7.ap.lo a2 sB;omega};{rcases List.mem_append.1 sB with sB | sB;{have:=h1.hi a ha;have:=h4.ap.lo a2 sB;omega};{have:=h1.hi a ha;have:=h7.ap.lo a2 sB;omega}};{rcases List.mem_append.1 sB with sB | sB;{have:=h0.hi a ha;have:=h0.ap.lo a ha;have:=h1.hi a2 sB;have:=h1.ap.lo a2 sB;omega};{rcases List.mem_append.1 sB with sB | sB;{have:=h0.hi a ha;have:=h0.ap.lo a ha;have:=h4.hi a2 sB;have:=h4.ap.lo a2 sB;omega};{have:=h0.hi a ha;have:=h0.ap.lo a ha;have:=h7.hi a2 sB;have:=h7.ap.lo a2 sB;omega}}}
theorem Lm (g h u:Nat) (V:Value) (nd:aD) (w:World) (hk:KN w g h u V nd) (hh:nd.holders.Pairwise (·<·)) (hu:nd.watchers.Pairwise (·<·)) (l1:nd.path.length<=1048576) (l2:nd.value.length<=1048576) (l3:nd.holders.length<=1048576) (l4:nd.watchers.length<=1048576) (fI:bM nd.path) :
  Calls prog 102 #[.pointer (some ⟨g,0,none⟩),.string (aC nd.path)] w fun r w'=>∃ c l,r=.returned (.agg c)/\mT w' nd c.toList l/\lx w.heap.size w' l/\Bw w w':=by
 obtain ⟨jd,oE,⟨D1,o1,s1⟩,⟨D2,o2,s2⟩⟩:=hk;obtain ⟨pv,cv,nv,rfl,ev⟩:=oE.gD;have hA7:S6 w g (.S pv nv cv) (.U nd.owner) (.I nd.mode) (.map (some h)) (.U nd.aB) (.U nd.gen) (.map (some u)):=⟨ay jd 0,ay jd 1,ay jd 2,ay jd 3,ay jd 4,ay jd 5,ay jd 6⟩;obtain ⟨W0,dh⟩:=ax (w.alloc (.cells #[.S none 0 0,.S none 0 0,.U 0,.I 0,.S none 0 0,.U 0,.U 0,.S none 0 0] 38));have b0:=ju dh;have z0:W0.heap.size=w.heap.size+1:=by rw [dh];simp
 have r0:aq W0 w.heap.size [.S none 0 0,.S none 0 0,.U 0,.I 0,.S none 0 0,.U 0,.U 0,.S none 0 0]:=by rw [dh];exact aq.alloc w #[.S none 0 0,.S none 0 0,.U 0,.I 0,.S none 0 0,.U 0,.U 0,.S none 0 0] _
 have SZ1:=ae (Nat.le_trans o1.size_le l3);have SZ2:=ae (Nat.le_trans o2.size_le l4);obtain ⟨ow,mo,ep,ge,e1,e2,e3,e4⟩:∃ a b c d,nd.owner=a/\nd.mode=b/\nd.aB=c/\nd.gen=d:=⟨_,_,_,_,rfl,rfl,rfl,rfl⟩
 rw [e1,e2,e3,e4] at hA7;have HE:=ae (ag e1 (ag e2 (ag e3 e4)));clear e1 e2 e3 e4;go_enter func102,ntmps102;go_wp2_with fail;rw [<-dh];obtain ⟨v,IV⟩:=ax W0.drew;have bv:Bw w v:=by rw [IV];exact b0.drew
 have zv:w.heap.size<v.heap.size:=by rw [IV];show w.heap.size<W0.heap.size;omega
 have R:Hid (aq v w.heap.size [.S none 0 0,.S none 0 0,.U 0,.I 0,.S none 0 0,.U 0,.U 0,.S none 0 0]):=by rw [IV];exact r0
 have S:=ae (hA7.below bv);refine bO (fun w'=>S6 w' g (.S pv nv cv) (.U ow) (.I mo) (.map (some h)) (.U ep) (.U ge) (.map (some u))) (by rw [<-IV];exact aa S) fun hS=>?_;rw [<-IV] at hS ⊢;have BW:=ae bv;have OH:=ae (o1.kept (az bv none) (by simp));have OU:=ae (o2.kept (az bv none) (by simp));have RV:=ae (oE.below bv);have T1:=ae s1;have T2:=ae s2;have HH:=ae hh;have HU:=ae hu;have HBY:=ae fI;clear IV dh b0 z0 r0 jd oE o1 o2 hA7 s1 s2 hh hu fI bv;refine gy 0 2 3 4 5 8 9 10 hS ?_;refine gy 11 12 13 14 15 16 17 18 hS ?_;refine gy 19 20 21 22 23 24 25 26 hS ?_;refine gC 27 29 30 31 hS ?_;refine tn 32 hS ?_
 iterate 5 (
  all_goals (first | refine AL [1] (tZ (fun KK hK=>?_) AllReadyH.nil) | refine AL [1,6] (tZ (fun KK hK=>?_) (tZ (fun KK hK=>?_) AllReadyH.nil)) | refine AL [6] (tZ (fun KK hK=>?_) AllReadyH.nil) | refine AL [1,7] (tZ (fun KK hK=>?_) (tZ (fun KK hK=>?_) AllReadyH.nil)) | refine AL [7] (tZ (fun KK hK=>?_) AllReadyH.nil) | refine AL [1,28] (tZ (fun KK hK=>?_) (tZ (fun KK hK=>?_) AllReadyH.nil)) | refine AL [28] (tZ (fun KK hK=>?_) AllReadyH.nil) | refine AL [1,33] (tZ (fun KK hK=>?_) (tZ (fun KK hK=>?_) AllReadyH.nil)) | refine AL [33] (tZ (fun KK hK=>?_) AllReadyH.nil))
  all_goals (first
   | (
    refine Tag.go 1 ?_;refine EJ (by rfl) _ (by rfl) nd.path (by rfl) HBY l1 ?_;intro pC cC v' lC fC hb;have FC:=ae fC;clear fC)
   | (
    refine Tag.go 6 ?_;go_simp;obtain ⟨v',hv⟩:=ax (v.alloc (.cells #[.S pv nv cv] 22));have hb:=ju hv;have HP:Hid (uK v' v.heap.size [.S pv nv cv] [nd.value]):=⟨rfl,fun j y x q1 q2=>by
     match j,q1,q2 with
     | 0,q1,q2=>simp at q1 q2;subst q1 q2;exact ⟨by rw [hv];simp,RV.below hb⟩⟩
    rw [<-hv];obtain ⟨GB,hGB⟩:=ax v.heap.size;rw [<-hGB] at HP ⊢;clear hv hGB)
   | (
    refine Tag.go 7 ?_;refine ia (xh GB [.S pv nv cv] [nd.value] nd.value nd.value.length 1 rfl (by show _=_;simp [cat]) (by show _=_;rfl) _ (aa HP) (by omega) (by omega)) ?_;rintro r v' ⟨pJ,cJ,rfl,oJ,hb⟩;refine ⟨_,rfl,?_⟩;obtain ⟨lJ,fJ⟩:=Own.pb oJ;have FJ:=ae fJ;clear fJ oJ HP)
   | (
    refine Tag.go 28 ?_;refine ia (Q.mB h _ D1 _ OH SZ1) ?_;rintro r v' ⟨y,ss,rfl,Ez,Ca,hb⟩;refine ⟨_,rfl,?_⟩;rw [wu (aa T1) (aa HH) Ez] at Ca;obtain ⟨pH,cH,lH,rfl,q1,q2,q3⟩:=AK Ca;have FH:Hid (PU v' v.heap.size v'.heap.size (.S pH nd.holders.length cH) nd.holders lH):=⟨q1,q2,q3,fun a ha=>q3.vE.lt ha⟩;clear Ez Ca q1 q2 q3)
   | (
    refine Tag.go 33 ?_;refine ia (Q.mB u _ D2 _ OU SZ2) ?_;rintro r v' ⟨y,ss,rfl,Ez,Ca,hb⟩;refine ⟨_,rfl,?_⟩;rw [wu (aa T2) (aa HU) Ez] at Ca;obtain ⟨pU,cU,lU,rfl,q1,q2,q3⟩:=AK Ca;have FU:Hid (PU v' v.heap.size v'.heap.size (.S pU nd.watchers.length cU) nd.watchers lU):=⟨q1,q2,q3,fun a ha=>q3.vE.lt ha⟩;clear Ez Ca q1 q2 q3))
  all_goals (
   have S:=ae (S.below hb);have BW:=ae (ah BW hb);have OH:=ae (OH.kept (az hb none) (by simp));have OU:=ae (OU.kept (az hb none) (by simp));have RV:=ae (RV.below hb);have R:=ae (R.below (by omega) hb);have z:v.heap.size<=v'.heap.size:=hb.size
   try have HP:=ae (HP.below hb)
   try have FC:=ae (FC.below hb)
   try have FJ:=ae (FJ.below hb)
   try have FH:=ae (FH.below hb)
   try have FU:=ae (FU.below hb)
   refine cg hK (by exact S) fun hS=>?_;clear hK KK hb
   rename World=>v
   skip))
 all_goals (
  refine tn 34 hS ?_;have rc0:=R.1 0 _ rfl;have rc1:=R.1 1 _ rfl;have rc2:=R.1 2 _ rfl;have rc3:=R.1 3 _ rfl;have rc4:=R.1 4 _ rfl;have rc5:=R.1 5 _ rfl;have rc6:=R.1 6 _ rfl;have rc7:=R.1 7 _ rfl;have rf:=R.2;refine ry [35] (cn (fun KK hK=>?_) AllReadyH.nil);go_simp;obtain ⟨Z,hZ⟩:=ax ((((((((v.setCell ⟨w.heap.size,0,none⟩ (.S pC nd.path.length cC)).setCell ⟨w.heap.size,1,none⟩ (.S pJ nd.value.length cJ)).setCell ⟨w.heap.size,2,none⟩ (.U ow)).setCell ⟨w.heap.size,3,none⟩ (.I mo)).setCell ⟨w.heap.size,4,none⟩ (.S pH nd.holders.length cH)).setCell ⟨w.heap.size,5,none⟩ (.U ep)).setCell ⟨w.heap.size,6,none⟩ (.U ge)).setCell ⟨w.heap.size,7,none⟩ (.S pU nd.watchers.length cU));have VT:∀ b,b≠w.heap.size->Z.heap[b]?=v.heap[b]?:=fun b hb=>by
   rw [hZ]
   iterate 8 rw [dF _ _ _ _ hb]
  have cZ:=(aq.dI (aq.dI (aq.dI (aq.dI (aq.dI (aq.dI (aq.dI (aq.dI (aa R) 0 (by simp) (.S pC nd.path.length cC)) 1 (by simp) (.S pJ nd.value.length cJ)) 2 (by simp) (.U ow)) 3 (by simp) (.I mo)) 4 (by simp) (.S pH nd.holders.length cH)) 5 (by simp) (.U ep)) 6 (by simp) (.U ge)) 7 (by simp) (.S pU nd.watchers.length cU));rw [<-hZ] at cZ;have Yk:Bw w Z:=by rw [hZ];exact ((((((((BW.setCell aA _).setCell aA _).setCell aA _).setCell aA _).setCell aA _).setCell aA _).setCell aA _).setCell aA _)
  obtain ⟨en,apn⟩:=mT.mk4 (B:=w.heap.size+1) FC FJ FH FU (by omega) (by omega) (by omega) (by omega) (by omega) (by omega) (by omega) (by omega) (by omega) (by omega);have fL:∀ y∈lC++(lJ++(lH++lU)),Z.heap[y.b]?=v.heap[y.b]?:=fun y hy=>VT _ (by have:=apn.lo y hy;omega);have EN:=ae (ag (mT.aU _ Z _ _ _ en fL) (ag ((apn.aU fL).mono (B':=w.heap.size) (by omega)) Yk));have SZg:S6 Z g (.S pv nv cv) (.U ow) (.I mo) (.map (some h)) (.U ep) (.U ge) (.map (some u)):=by
   have bL:g≠w.heap.size:=fun e=>by have h1:=R.1 0 _ rfl;have h2:=S.2.1;rw [e] at h2;have h3:=R.1 1 _ rfl;rw [h2] at h3;simp at h3
   obtain ⟨s0,s1,s2,s3,s4,s5,s6⟩:=aa S;have hz:=ai (VT g bL);exact ⟨(hz _).trans s0,(hz _).trans s1,(hz _).trans s2,(hz _).trans s3,(hz _).trans s4,(hz _).trans s5,(hz _).trans s6⟩
  rw [<-hZ];refine cg hK (by exact SZg) fun hS=>?_;have zc0:=cZ.1 0 _ rfl;have zc1:=cZ.1 1 _ rfl;have zc2:=cZ.1 2 _ rfl;have zc3:=cZ.1 3 _ rfl;have zc4:=cZ.1 4 _ rfl;have zc5:=cZ.1 5 _ rfl;have zc6:=cZ.1 6 _ rfl;have zc7:=cZ.1 7 _ rfl;clear hK KK hZ VT Yk en apn fL SZg cZ rc0 rc1 rc2 rc3 rc4 rc5 rc6 rc7 rf;refine bu ?_;clear hS;obtain ⟨e1,e2,e3,e4⟩:=aa HE;go_wp2;refine bodyPost_ret (v:=.agg #[.S pC nd.path.length cC,.S pJ nd.value.length cJ,.U ow,.I mo,.S pH nd.holders.length cH,.U ep,.U ge,.S pU nd.watchers.length cU]) (by simp [results,results102,go_sem,zc0,zc1,zc2,zc3,zc4,zc5,zc6,zc7]) rfl ⟨_,lC++(lJ++(lH++lU)),rfl,?_,EN.2.1,EN.2.2⟩;have Bk:=EN.1;rw [e1,e2,e3,e4] at Bk;exact Bk
  skip)
section
variable {P:Program} (w:World) {ops:Array Oper} {rest:List Oper} {o:Oper} {a:Act} {Q:Exit->Act->World->Prop}
theorem kR (hg:o.guard=none) (m x:Operand) (t:TypeId) (DI:o.op=Op.lookup t m x true) (k e:TypeId) (K:Keyed P k) (ht:P.underlying t=some (.map k e)) (hz:(zeroValue e).run P w=.ok (.pointer none) w) (b n:Nat) (D:DataW Unit) (l:List (Lit × Nat)) (hM:fP D l)
  (hm:a.eval m=.map (some b)) (br:w.ownsMap P k aZ b n D) (key:Value) (p:Lit × Nat) (hp:p∈l) (hx:a.eval x=key) (df:keyOf P k key=some p.1)
  (hK:wpList P ops Q rest (a.put o.dst (.tuple #[.pointer (some ⟨p.2,0,none⟩),.bool true])) w):wpList P ops Q (o::rest) a w:=
 wpList_lookup_own_ok w hg m x t DI k e K ht aZ hz .nil [] rfl b n D hm br key p.1 hx df (fun v ps hv=>by rw [hM.at' p hp] at hv;obtain rfl:=iB hv;rw [(hM.hs p.1).2 ⟨p,hp,rfl⟩];exact hK)
theorem qx (hg:o.guard=none) (m x:Operand) (t:TypeId) (DI:o.op=Op.lookup t m x true) (k e:TypeId) (K:Keyed P k) (ht:P.underlying t=some (.map k e)) (hz:(zeroValue e).run P w=.ok (.pointer none) w) (b n:Nat) (D:DataW Unit) (l:List (Lit × Nat)) (hM:fP D l)
  (hm:a.eval m=.map (some b)) (br:w.ownsMap P k aZ b n D) (key:Value) (kl:Lit) (jS:∀ p∈l,p.1≠kl) (hx:a.eval x=key) (df:keyOf P k key=some kl)
  (hK:wpList P ops Q rest (a.put o.dst (.tuple #[.pointer none,.bool false])) w):wpList P ops Q (o::rest) a w:=
 wpList_lookup_own_ok w hg m x t DI k e K ht aZ hz .nil [] rfl b n D hm br key kl hx df (fun v ps hv=>by
  have hh:Maps.has D kl=false:=by rw [Bool.eq_false_iff];intro h;obtain ⟨p,hp,e⟩:=(hM.hs kl).1 h;exact jS p hp e
  rw [Maps.atKey_of_not_has hh] at hv;obtain rfl:=ox hv;rw [hh];exact hK)
end
theorem ke (w:World):(zeroValue 134).run prog w=.ok (.pointer none) w:=by kernel_rfl
theorem mg (h:fE ns l=some nd):nd.path=l/\∃ i:Nat,ns[i]?=some nd:=by
 have h1:=List.find?_some h;have h2:=List.mem_of_find?_eq_some h;exact ⟨by simpa using h1,List.getElem?_of_mem h2⟩
theorem zE (h:fE ns l=none):∀ nd∈ns,nd.path≠l:=by
 intro nd aV e;have:=List.find?_eq_none.1 h nd aV;simp [e] at this
theorem Ec {SB NB HB UB:List Nat} (l:List Int) (w:World) (dz:Hid (kc w0 w b bs bn e g x t ss ns SB NB HB UB)) (hB:Hid (bM l)) (rh:Hid (∀ nd∈ns,bM nd.path)) (hl:l.length<=1048577) (B:Bool) (eB:Hid (dw ns l=B)) :
  Calls prog 121 #[.pointer (some ⟨b,0,none⟩),.string (aC l)] w fun r w'=>r=.returned (.bool B)/\Bw w w':=by
 have Pb:w.cell? ⟨b,5,none⟩=some (.map (some bn)):=ay dz.hd 5;obtain ⟨D,oD,mD⟩:=dz.me.own;have df:keyOf prog 9 (.string (aC l))=some (bN l):=by rw [WideMaps.keyOf_string_mk underlying9 (by rw [di];unfold maxLen;omega),kq]
 have OD:=ae oD;have MD:=ae mD;have yM:=ae df;have iU:((aC l).toList==(aC [47]).toList)=decide (l=[47]):=sL (aa hB) (by intro y hy;simp at hy;omega);rw [show (aC [47]).toList=[47] from dR [47]] at iU;clear oD mD df;obtain ⟨s,es⟩:=ax (aC l);rw [<-es] at iU yM ⊢;clear es;by_cases kL:l=[47];{
 have eT:B=true:=by rw [<-aa eB,dw,if_pos kL]
 subst eT;have hr:(s.toList==[47])=true:=by rw [iU];simp [kL]
 clear iU kL;go_enter func121,ntmps121;go_wp2;go_ret;exact ⟨rfl,Below.refl _ _⟩};{
 have hr:(s.toList==[47])=false:=by rw [iU];simp [kL]
 have jL:(match fE ns l with | some nd=>nd.owner==0 | none=>false)=B:=by rw [<-aa eB,dw,if_neg kL];rfl
 clear iU kL;cases hF:fE ns l with
 | none=>
  rw [hF] at jL;have eF:B=false:=jL.symm;subst eF;have jS:Hid (∀ p∈List.zipWith (fun (nd:aD) g=>(bN nd.path,g)) ns NB,p.1≠bN l):=by intro p hp;obtain ⟨i,nd,y,hx,hy,rfl⟩:=gM hp;intro ee;have hm:=aF hx;exact zE hF nd hm (jD (aa rh nd hm) hB ee)
  clear hF jL;go_enter func121,ntmps121;go_wp2_with (first
   | (at_lookup;refine qx _ rfl _ _ 130 rfl 9 _ kM underlying130 (ke _) bn _ D _ MD rfl OD _ (bN l) jS rfl yM ?_)
   | go_in)
  go_ret;exact ⟨rfl,Below.refl _ _⟩
 | some nd=>
  rw [hF] at jL;replace jL:(nd.owner==0)=B:=jL;obtain ⟨hp,i,hi⟩:=mg hF;obtain ⟨g1,h1,u1,q1,q2,q3⟩:=dz.me.at hi;obtain ⟨_,_,_,⟨V,a4,_⟩,_,_⟩:=dz.me.aI i nd g1 h1 u1 hi q1 q2 q3;have hcO:w.cell? ⟨g1,1,none⟩=some (.U nd.owner):=ay a4 1;have fK:Hid ((bN l,g1)∈List.zipWith (fun (nd:aD) g=>(bN nd.path,g)) ns NB):=by show _∈_;rw [List.mem_iff_getElem?];refine ⟨i,?_⟩;rw [List.getElem?_zipWith,hi,q1];show some (bN nd.path,g1)=some (bN l,g1);rw [hp]
  obtain ⟨ow,eow⟩:=aH nd.owner;rw [eow] at hcO jL;clear hF hp hi q1 q2 q3 a4 eow;cases B with
  | true=>
   have ho:ow=0:=by simpa using jL
   subst ho;clear jL;go_enter func121,ntmps121;go_wp2_with (first
    | (at_lookup;refine kR _ rfl _ _ 130 rfl 9 _ kM underlying130 (ke _) bn _ D _ MD rfl OD _ (bN l,g1) fK rfl yM ?_)
    | go_in)
   go_ret;exact ⟨rfl,Below.refl _ _⟩
  | false=>
   have ho:(ow==0)=false:=jL;clear jL;go_enter func121,ntmps121;go_wp2_with (first
    | (at_lookup;refine kR _ rfl _ _ 130 rfl 9 _ kM underlying130 (ke _) bn _ D _ MD rfl OD _ (bN l,g1) fK rfl yM ?_)
    | go_in)
   go_ret;exact ⟨rfl,Below.refl _ _⟩}
def wS (e g x t:Int) (n m:Nat):Bool:=decide (e<=4611686018427387904/\g<=4611686018427387904/\x<=4611686018427387904/\0<=t/\t<=1000000/\n<=50/\m<=200)
theorem Fm (e g x t:Int) (p q:Option Addr) (c n d m:Nat) (w:World) (hn:n<=1048576) (hm:m<=1048576) (B:Bool) (eB:Hid (wS e g x t n m=B)) :
  Calls prog 42 #[cY e g x t (.S p n c) (.S q m d)] w fun r w'=>r=.returned (.bool B)/\Bw w w':=by
 go_enter func42,ntmps42;go_wp2_with fail
 all_goals (
  go_ret;refine ⟨?_,aJ.alloc aA _⟩;rw [<-aa eB];simp only [wS,Ending.returned.injEq,Value.bool.injEq])
 all_goals first | (simp_all;done) | (simp_all;omega) | (show Value.bool (decide ((m:Int)<=200))=Value.bool _;congr 1;rw [Bool.eq_iff_iff,decide_eq_true_iff,decide_eq_true_iff];omega) | skip
theorem yk (e g ow mo ep ge:Int) (P V U:Value) (p:Option Addr) (c n:Nat) (w:World) (hn:n<=1048576) (B:Bool) (eB:Hid (dN e g mo n ep ge=B)) :
  Calls prog 159 #[JS P V ow mo (.S p n c) ep ge U,.U e,.U g] w fun r w'=>r=.returned (.bool B)/\Bw w w':=by
 go_enter func159,ntmps159;go_wp2_with fail
 all_goals (
  go_ret;refine ⟨?_,aJ.alloc aA _⟩;rw [<-aa eB];simp only [dN,Ending.returned.injEq,Value.bool.injEq])
 all_goals first | (simp_all;done) | (simp_all;omega) | skip
def Ei (l:List Int):Bool:=iG l.length (fun i j=>decide (l.getD i 0<l.getD j 0))
def tz (e g:Int) (nd:aD):Bool:=vp nd.path&&(decide (nd.value.length<=40)&&(dN e g nd.mode nd.holders.length nd.aB nd.gen&&(Ei nd.holders&&Ei nd.watchers)))
theorem Co (e g x t:Int) (S N:Value) (nd:aD) (pp vq hp up:Option Addr) (pc pn vc vn hc hh uc un:Nat) (Bx:Hid (nd.path.length=pn)) (Uk:Hid (nd.value.length=vn)) (Gi:Hid (nd.holders.length=hh)) (Jk:Hid (nd.watchers.length=un)) (w:World)
  (h0:Rd w (.S pp pn pc) nd.path) (h4:nH w (.S hp hh hc) nd.holders) (h7:nH w (.S up un uc) nd.watchers) (TM:Hid (bM nd.path)) (Mb:pn<=1048576) (LR:vn<=1048576) (J4:hh<=1048576) (JX:un<=1048576) (qP:iH (.S pp pn pc)) (Aa:ML w) (B:Bool) (eB:Hid (tz e g nd=B)) :
  Calls prog 117 #[JS (.S pp pn pc) (.S vq vn vc) nd.owner nd.mode (.S hp hh hc) nd.aB nd.gen (.S up un uc),cY e g x t S N] w fun r w'=>r=.returned (.bool B)/\Bw w w':=by
 obtain ⟨kH,jF⟩:=qP.of;obtain ⟨ow,mo,ep,ge,e1,e2,e3,e4⟩:∃ a b c d,nd.owner=a/\nd.mode=b/\nd.aB=c/\nd.gen=d:=⟨_,_,_,_,rfl,rfl,rfl,rfl⟩
 rw [e1,e2,e3,e4];have HR:=ae fun (w':World) (hb:Bw w w')=>ag (h0.below hb) (ag (h4.below hb) (ag (h7.below hb) (Aa.below hb)));obtain ⟨T1,E1⟩:∃ T,Hid (vp nd.path=T):=⟨_,(by show _=_;rfl)⟩;obtain ⟨T3,E3⟩:∃ T,Hid (dN e g mo hh ep ge=T):=⟨_,(by show _=_;rfl)⟩;obtain ⟨T4,E4⟩:∃ T,Hid (iG hh (fun i j=>decide (nd.holders.getD i 0<nd.holders.getD j 0))=T):=⟨_,(by show _=_;rfl)⟩;obtain ⟨T5,E5⟩:∃ T,Hid (iG un (fun i j=>decide (nd.watchers.getD i 0<nd.watchers.getD j 0))=T):=⟨_,(by show _=_;rfl)⟩;have hB:B=(T1&&(decide (vn<=40)&&(T3&&(T4&&T5)))):=by rw [<-aa eB,tz,Ei,Ei,e2,e3,e4,aa Uk,aa Gi,aa Jk,aa E1,aa E3,aa E4,aa E5]
 have HB:=ae hB;clear h0 h4 h7 Aa hB eB e1 e2 e3 e4 qP;obtain ⟨W,hW⟩:=ax ((w.alloc (.cells #[.S pp pn pc,.S vq vn vc,.U ow,.I mo,.S hp hh hc,.U ep,.U ge,.S up un uc] 38)).alloc (.cells #[.U e,.U g,.U x,.I t,S,N] 27));have bW:Bw w W:=by rw [hW];exact (aJ.alloc aA _).alloc (by simp) _
 have k0:W.cell? ⟨w.heap.size,0,none⟩=some (.S pp pn pc):=by rw [hW];simp
 have k1:W.cell? ⟨w.heap.size,1,none⟩=some (.S vq vn vc):=by rw [hW];simp
 have k2:W.cell? ⟨w.heap.size,2,none⟩=some (.U ow):=by rw [hW];simp
 have k3:W.cell? ⟨w.heap.size,3,none⟩=some (.I mo):=by rw [hW];simp
 have k4:W.cell? ⟨w.heap.size,4,none⟩=some (.S hp hh hc):=by rw [hW];simp
 have k5:W.cell? ⟨w.heap.size,5,none⟩=some (.U ep):=by rw [hW];simp
 have k6:W.cell? ⟨w.heap.size,6,none⟩=some (.U ge):=by rw [hW];simp
 have k7:W.cell? ⟨w.heap.size,7,none⟩=some (.S up un uc):=by rw [hW];simp
 have k8:W.cell? ⟨w.heap.size+1,0,none⟩=some (.U e):=by rw [hW];simp
 have k9:W.cell? ⟨w.heap.size+1,1,none⟩=some (.U g):=by rw [hW];simp
 go_enter func117,ntmps117;go_wp2_with fail;rw [<-hW];clear hW;refine (Fx pp pc pn nd.path Bx _ (aa HR _ bW).1 TM Mb kH jF (aa HR _ bW).2.2.2 T1 E1).mono ?_;rintro r w1 ⟨rfl,bq⟩;have b1:=ah bW bq;cases T1 with
 | false=>
  have eF:B=false:=by rw [aa HB];rfl
  subst eF;clear k0 k1 k2 k3 k4 k5 k6 k7 k8 k9;go_wp2;go_ret;exact ⟨rfl,b1⟩
 | true=>
  replace k0:=af k0 bq;replace k1:=af k1 bq;replace k2:=af k2 bq;replace k3:=af k3 bq;replace k4:=af k4 bq;replace k5:=af k5 bq;replace k6:=af k6 bq;replace k7:=af k7 bq;replace k8:=af k8 bq;replace k9:=af k9 bq;clear bq bW;by_cases hv:(vn:Int)<=40;{
 have qv:Hid (B=(T3&&(T4&&T5))):=by
  show _=_;rw [aa HB,show decide (vn<=40)=true by (rw [decide_eq_true_iff];omega)]
  rfl
 clear HB;go_wp2_with fail;refine (yk e g ow mo ep ge _ _ _ hp hc hh _ J4 T3 E3).mono ?_;rintro r w2 ⟨rfl,bk⟩;have b2:=ah b1 bk;cases T3 with
 | false=>
  have eF:B=false:=by rw [aa qv];rfl
  subst eF;clear k0 k1 k2 k3 k4 k5 k6 k7 k8 k9;go_wp2;go_ret;exact ⟨rfl,b2⟩
 | true=>
  replace k4:=af k4 bk;replace k7:=af k7 bk;clear k0 k1 k2 k3 k5 k6 k8 k9 bk;go_wp2_with fail;refine (Eg hp hc hh nd.holders Gi _ (aa HR _ b2).2.1 J4 T4 E4).mono ?_;rintro r w3 ⟨rfl,dA⟩;have b3:=ah b2 dA;cases T4 with
  | false=>
   have eF:B=false:=by rw [aa qv];rfl
   subst eF;clear k4 k7;go_wp2;go_ret;exact ⟨rfl,b3⟩
  | true=>
   have eT:B=T5:=by rw [aa qv];rfl
   subst eT;replace k7:=af k7 dA;clear k4 dA;go_wp2_with fail;refine (Eg up uc un nd.watchers Jk _ (aa HR _ b3).2.2.1 JX B E5).mono ?_;rintro r w4 ⟨rfl,gL⟩;have b4:=ah b3 gL;clear k7;go_wp2;go_ret;exact ⟨rfl,b4⟩};{
 have eF:B=false:=by rw [aa HB,show decide (vn<=40)=false by (rw [decide_eq_false_iff_not];omega)];rfl
 subst eF;clear k2 k3 k4 k5 k6 k7 k8 k9;go_wp2;go_ret;exact ⟨rfl,b1⟩}
def jh (x:Int) (ss:List aY):Bool:=(List.range ss.length).all (fun i=>wv x (ss.getD i (0,0,[])))&&iG ss.length (fun i j=>decide ((ss.getD i (0,0,[])).1<(ss.getD j (0,0,[])).1))
def jk (e g:Int) (ns:List aD):Bool:=(List.range ns.length).all (fun i=>tz e g (ns.getD i fq))&&iG ns.length (fun i j=>!leB (ns.getD j fq).path (ns.getD i fq).path)
theorem rC (e g x t:Int) (p:Option Addr) (c n:Nat) (N:Value) (ss:List aY) (en:Hid (ss.length=n)) (w:World) (h:ic w (.S p n c) ss) (hn:n<=1048576)
  (nO:Hid (∀ s∈ss,s.2.2.length<=1048576/\∀ e∈s.2.2,bM e.2/\e.2.length<=1048576)) (Aa:ML w) (B:Bool) (eB:Hid (jh x ss=B)) :
  Calls prog 43 #[cY e g x t (.S p n c) N] w fun r w'=>r=.returned (.bool B)/\Bw w w':=by
 have HR:=ae fun (w':World) (hb:Bw w w')=>ag (h.below hb) (Aa.below hb);obtain ⟨T2,E2⟩:∃ T,Hid (iG n (fun i j=>decide ((ss.getD i (0,0,[])).1<(ss.getD j (0,0,[])).1))=T):=⟨_,(by show _=_;rfl)⟩;have HB:Hid (B=((List.range n).all (fun i=>wv x (ss.getD i (0,0,[])))&&T2)):=by show _=_;rw [<-aa eB,jh,aa en,aa E2]
 go_enter func43,ntmps43;go_wp2_with fail;obtain ⟨W,hW⟩:=ax (w.alloc (.cells #[.U e,.U g,.U x,.I t,.S p n c,N] 27));have bW:=ju hW;have jF:W.cell? ⟨w.heap.size,2,none⟩=some (.U x):=by rw [hW];simp
 have DO:W.cell? ⟨w.heap.size,4,none⟩=some (.S p n c):=by rw [hW];simp
 rw [<-hW];have BW:=ae bW;have OE:=ae (ag jF DO)
 go_loopw [8] (fun iv wr=>∃ k:Nat,k<=n/\iv=.I k/\Hid ((List.range k).all (fun i=>wv x (ss.getD i (0,0,[])))=true)/\Bw W wr) (fun iv _=>n-(intOf iv).toNat)
 case atStart=>exact ⟨0,Nat.zero_le _,rfl,(by show _=_;rfl),Below.refl _ _⟩
 case round =>(
 obtain ⟨k,hk,rfl,iJ,aR⟩:=hrel;have BB:=ah BW aR;have i2:=af OE.1 aR;have i4:=af OE.2 aR;by_cases bj:k<n;{
 have bm:=aT k n;have fL:k<ss.length:=by rw [aa en];exact bj
 obtain ⟨⟨I,D,Q⟩,hy⟩:∃ y,ss[k]?=some y:=⟨_,aK fL⟩;have Cc:ss.getD k (0,0,[])=(I,D,Q):=by rw [List.getD_eq_getElem?_getD,hy];rfl
 obtain ⟨b,o,rfl,hcI,hcD,u,Yg,Tl⟩:∃ b o,p=some ⟨b,o,none⟩/\wr.cell? ⟨b,o+k*3,none⟩=some (.U I)/\wr.cell? ⟨b,o+k*3+1,none⟩=some (.I D)/\∃ u,wr.cell? ⟨b,o+k*3+2,none⟩=some u/\jJ wr u Q:=by obtain ⟨p',c',ev,hd⟩:=(aa HR _ BB).1;simp only [Value.slice.injEq] at ev;obtain ⟨rfl,-,-⟩:=ev;rcases hd with h0 | ⟨b,o,h1,h2⟩;{rw [h0] at fL;simp at fL};{exact ⟨b,o,h1,h2 k _ hy⟩}
 obtain ⟨hQl,hQb⟩:=aa nO _ (aF hy);obtain ⟨pq,cq,rfl,-⟩:=id Tl;obtain ⟨m,em⟩:=aH Q.length;rw [em] at Tl Yg;have hm:m<=1048576:=by rw [<-em];exact hQl
 have EM:=ae em;have HBQ:Hid (∀ e∈Q,bM e.2/\e.2.length<=1048576):=hQb;obtain ⟨V,eV⟩:=aH (wv x (I,D,Q));have EV:=ae eV;have HF:Hid (V=false->B=false):=fun h=>by rw [aa HB,dK bj (by rw [Cc,eV];exact h)];rfl
 have HT:Hid (V=true->Hid ((List.range (k+1)).all (fun i=>wv x (ss.getD i (0,0,[])))=true)):=fun h=>cM (aa iJ) (by rw [Cc,eV];exact h);have b2:Bw wr ((wr.alloc (.cells #[.U I,.I D,.S pq m cq] 35))):=aJ.alloc aA _;have YH:=ae (Tl.below b2);have HML:=ae ((aa HR _ BB).2.below b2);have j2:=af i2 b2;go_wp2_with fail;refine (AD I D x pq cq m Q EM _ (by exact YH) hm HBQ (by exact HML) V EV).mono ?_;rintro r w2 ⟨rfl,bk⟩;have b3:=ah aR (ah b2 bk);have B3:=ah BW b3;cases V with
 | false=>
  have eF:=aa HF rfl;subst eF;go_wp2;go_ret;exact ⟨rfl,B3⟩
 | true=>
  have sT:=aa HT rfl;go_wp2;go_roundw
  case rel=>exact ⟨k+1,by omega,by go_num,sT,b3⟩
  case measure=>simp [intOf];omega}
 {
 have bm:=dy k n;have Ex:k=n:=by omega
 have eT:B=T2:=by rw [aa HB,show (List.range n).all (fun i=>wv x (ss.getD i (0,0,[])))=true from Ex▸aa iJ,Bool.true_and]
 subst eT;go_wp2_with fail;refine (Oj p c n ss en _ (aa HR _ BB).1.rd hn B E2).mono ?_;rintro r w2 ⟨rfl,bk⟩;have b3:=ah BB bk;go_wp2;go_ret;exact ⟨rfl,b3⟩})
theorem vV (e g x t:Int) (S:Value) (q:Option Addr) (d m:Nat) (ns:List aD) (em:Hid (ns.length=m)) (w:World) (h:kJ w (.S q m d) ns) (hm:m<=1048576)
  (fI:Hid (∀ nd∈ns,bM nd.path/\nd.path.length<=1048576/\nd.value.length<=1048576/\nd.holders.length<=1048576/\nd.watchers.length<=1048576)) (Aa:ML w) (B:Bool) (eB:Hid (jk e g ns=B)) :
  Calls prog 44 #[cY e g x t S (.S q m d)] w fun r w'=>r=.returned (.bool B)/\Bw w w':=by
 have HR:=ae fun (w':World) (hb:Bw w w')=>ag (h.below hb) (Aa.below hb);obtain ⟨T2,E2⟩:∃ T,Hid (iG m (fun i j=>!leB (ns.getD j fq).path (ns.getD i fq).path)=T):=⟨_,(by show _=_;rfl)⟩;have HB:Hid (B=((List.range m).all (fun i=>tz e g (ns.getD i fq))&&T2)):=by show _=_;rw [<-aa eB,jk,aa em,aa E2]
 go_enter func44,ntmps44;go_wp2_with fail;obtain ⟨W,hW⟩:=ax (w.alloc (.cells #[.U e,.U g,.U x,.I t,S,.S q m d] 27));have bW:=ju hW;have Pa:pD W w.heap.size e g x t S (.S q m d):=by rw [hW];simp [pD]
 rw [<-hW];have BW:=ae bW;have Pz:=ae Pa
 go_loopw [8] (fun iv wr=>∃ k:Nat,k<=m/\iv=.I k/\Hid ((List.range k).all (fun i=>tz e g (ns.getD i fq))=true)/\Bw W wr) (fun iv _=>m-(intOf iv).toNat)
 case atStart=>exact ⟨0,Nat.zero_le _,rfl,(by show _=_;rfl),Below.refl _ _⟩
 case round =>(
 obtain ⟨k,hk,rfl,iJ,aR⟩:=hrel;have BB:=ah BW aR;obtain ⟨i0,i1,i2,i3,i4,i5⟩:=Pz.below aR;by_cases bj:k<m;{
 have bm:=aT k m;have fL:k<ns.length:=by rw [aa em];exact bj
 obtain ⟨nd,hy⟩:∃ y,ns[k]?=some y:=⟨_,aK fL⟩;have Cc:ns.getD k fq=nd:=by rw [List.getD_eq_getElem?_getD,hy];rfl
 obtain ⟨b,o,rfl,hA⟩:=(aa HR _ BB).1.at (by omega);obtain ⟨P,V,H,U,aV⟩:=hA k nd hy;obtain ⟨vG,jL,RC,Rz,Ad⟩:=aa fI _ (aF hy);obtain ⟨pp,pc,pn,rfl,Bx⟩:=aV.r0.gD;obtain ⟨OO,vc,vn,rfl,Uk⟩:=aV.r1.gD;obtain ⟨hp,hc,hh,rfl,Gi⟩:=aV.r4.gD;obtain ⟨up,uc,un,rfl,Jk⟩:=aV.r7.gD;have Mb:pn<=1048576:=by rw [<-aa Bx];exact jL
 have LR:vn<=1048576:=by rw [<-aa Uk];exact RC
 have J4:hh<=1048576:=by rw [<-aa Gi];exact Rz
 have JX:un<=1048576:=by rw [<-aa Jk];exact Ad
 have Kg:Hid (bM nd.path):=vG;obtain ⟨T,eV⟩:=aH (tz e g nd);have EV:=ae eV;have HF:Hid (T=false->B=false):=fun h=>by rw [aa HB,dK bj (by rw [Cc,eV];exact h)];rfl
 have HT:Hid (T=true->Hid ((List.range (k+1)).all (fun i=>tz e g (ns.getD i fq))=true)):=fun h=>cM (aa iJ) (by rw [Cc,eV];exact h);have b2:Bw wr (wr.alloc (.cells #[.S pp pn pc,.S OO vn vc,.U nd.owner,.I nd.mode,.S hp hh hc,.U nd.aB,.U nd.gen,.S up un uc] 38)):=aJ.alloc aA _;have ud:=ae (aV.below b2);have HML:=ae ((aa HR _ BB).2.below b2);obtain ⟨c0,c1,c2,c3,c4,c5,c6,c7,-,-,-,-,-⟩:=aV;have j0:=af i0 b2;have j1:=af i1 b2;have j2:=af i2 b2;have j3:=af i3 b2;have j4:=af i4 b2;have j5:=af i5 b2;go_wp2_with fail;refine (Co e g x t _ _ nd pp OO hp up pc pn vc vn hc hh uc un Bx Uk Gi Jk _ (by exact ud.r0) (by exact ud.r4) (by exact ud.r7) Kg Mb LR J4 JX ud.k0 (by exact HML) T EV).mono ?_;rintro r w2 ⟨rfl,bk⟩;have b3:=ah aR (ah b2 bk);have B3:=ah BW b3;cases T with
 | false=>
  have eF:=aa HF rfl;subst eF;go_wp2;go_ret;exact ⟨rfl,B3⟩
 | true=>
  have sT:=aa HT rfl;go_wp2;go_roundw
  case rel=>exact ⟨k+1,by omega,by go_num,sT,b3⟩
  case measure=>simp [intOf];omega}
 {
 have bm:=dy k m;have Ex:k=m:=by omega
 have eT:B=T2:=by rw [aa HB,show (List.range m).all (fun i=>tz e g (ns.getD i fq))=true from Ex▸aa iJ,Bool.true_and]
 subst eT;go_wp2_with fail;refine (Ol q d m ns em _ (aa HR _ BB).1 hm B E2).mono ?_;rintro r w2 ⟨rfl,bk⟩;have b3:=ah BB bk;go_wp2;go_ret;exact ⟨rfl,b3⟩})
theorem Vu:∀ (key:Value) (kl:Lit),keyOf prog 9 key=some kl->∃ s:ByteArray,key=.string s:=by
 intro key kl hk;cases key<;>simp [keyOf,underlying9,mapKey] at hk
 exact ⟨_,rfl⟩
theorem Dt {s:ByteArray} (h:keyOf prog 9 (.string s)=some (bN l)):s=aC l:=by
 simp [keyOf,underlying9,mapKey] at h;exact LF h.2
theorem mi (hl:bM l) (hm:bM m):(bN l).sameKey (bN m)=decide (l=m):=by
 rw [Bool.eq_iff_iff,WideAt.sameKey_iff (by trivial),decide_eq_true_iff];exact ⟨fun h=>jD hl hm h,fun h=>by rw [h]⟩
theorem FQ {SB NB HB UB:List Nat} (w:World) (dz:Hid (kc w0 w b bs bn e g x t ss ns SB NB HB UB)) (rh:Hid (∀ nd∈ns,bM nd.path/\nd.path.length<=1048576)) (B:Bool) (eB:Hid (ns.all (fun nd=>dw ns (dm nd.path))=B)) :
  Calls prog 45 #[.pointer (some ⟨b,0,none⟩)] w fun r w'=>r=.returned (.bool B)/\Bw w w':=by
 have Pb:w.cell? ⟨b,5,none⟩=some (.map (some bn)):=ay dz.hd 5;obtain ⟨D,oD,mD⟩:=dz.me.own;obtain ⟨m,em⟩:=aH ns.length;rw [em] at oD;have aP0:Hid (∀ nd∈ns,bM nd.path):=fun nd h=>(aa rh nd h).1;have MD:=ae mD;go_enter func45,ntmps45;go_wp2_with (first
  | (at_range;refine wpList_range_own _ rfl _ 130 rfl 9 _ kM underlying130 _ bn m _ rfl oD ?_;intro w1 pI uX Hj)
  | go_in)
 go_frame
 go_loopw [3] (fun _ wr=>∃ (left:Lit->Bool) (mV:Nat),wr.ranges prog 9 aZ bn w.heap.size m D left mV/\Hid (∀ nd∈ns,left (bN nd.path)=false->dw ns (dm nd.path)=true)/\Bw w wr) (fun _ wr=>wr.rangeLeft bn w.heap.size)
 case atStart =>(
 refine ⟨_,_,pI,fun nd aV hl=>?_,oO uX⟩;exfalso;obtain ⟨i,hi⟩:=List.getElem?_of_mem aV;obtain ⟨g1,h1,u1,q1,q2,q3⟩:=dz.me.at hi;have:Maps.has D (bN nd.path)=true:=(MD.hs _).2 ⟨(bN nd.path,g1),by rw [List.mem_iff_getElem?];refine ⟨i,?_⟩;rw [List.getElem?_zipWith,hi,q1],rfl⟩
 rw [this] at hl;cases hl)
 case round =>(
 obtain ⟨left,mV,nM,iJ,aR⟩:=hrel;have lr:=ae (dz.below aR);go_wp2_with (first
  | (at_next;refine ir _ rfl _ rfl 9 kM (fun s:ByteArray=>.string s) Vu bn w.heap.size m _ _ MD _ _ rfl nM ?_ ?_)
  | go_in)
 {
 intro _ tJ;have eT:B=true:=by rw [<-aa eB,List.all_eq_true];exact fun nd aV=>aa iJ nd aV (tJ _)
 subst eT;go_wp2;go_ret;exact ⟨rfl,aR⟩};{
 intro s pl g1 w2 vh df hp hlp uT bj fO gx Bk;obtain ⟨i,nd,g1',hi,yD,ee⟩:=gM hp;simp only [Prod.mk.injEq] at ee;obtain ⟨rfl,rfl⟩:=ee;have bk:Bw w w2:=bR aR fO aR.size (fun j hj=>by cases hj;exact Nat.le_refl _);obtain rfl:=Dt df;have aV:=aF hi;obtain ⟨vG,jL⟩:=aa rh nd aV;obtain ⟨T,eT⟩:=aH (dw ns (dm nd.path));have ET:=ae eT;have HF:Hid (T=false->B=false):=fun h=>by rw [<-aa eB,List.all_eq_false];exact ⟨nd,aV,by rw [eT,h];simp⟩
 have HT:Hid (T=true->Hid (∀ nd'∈ns,(fun z=>left z&&!z.sameKey (bN nd.path)) (bN nd'.path)=false->dw ns (dm nd'.path)=true)):=fun h nd' ab3 hl=>by simp only [mi (aa rh nd' ab3).1 vG] at hl;by_cases ep:nd'.path=nd.path;{rw [ep,eT,h]};{simp [ep] at hl;exact iJ nd' ab3 hl}
 have jN:Hid (bM nd.path):=vG;have ra:=ae (mc vG);have jR:(dm nd.path).length<=1048577:=by unfold dm;split;{simp};{rw [List.length_take];omega}
 have ba3:=ae (dz.below bk);have Wh:(Instr.entry (.pointer (some ⟨w.heap.size,0,none⟩))).run prog w2=.ok (.tuple #[.string (aC nd.path),.pointer (some ⟨g1,0,none⟩)]) w2:=Bk;go_wp2_with fail;refine (mJ nd.path _ (by show _=_;rfl) jN jL _).mono ?_;rintro r w3 ⟨rfl,rfl⟩;go_wp2_with fail;refine (Ec (dm nd.path) _ ba3 ra aP0 jR T ET).mono ?_;rintro r w4 ⟨rfl,gL⟩;have b4:=ah bk gL;cases T with
 | false=>
  have eF:=aa HF rfl;subst eF;go_wp2;go_ret;exact ⟨rfl,b4⟩
 | true=>
  have sT:=aa HT rfl;have xm:=uT.kept (az gL none) (by simp) (by simp);go_wp2;go_roundw
  case rel=>exact ⟨_,vh,xm,sT,b4⟩
  case measure=>rw [xm.left_eq,nM.left_eq];exact bj})
def sS (nd:aD) (i:Int):Prop:=(nd.owner≠0/\i=nd.owner)\/i∈nd.holders\/i∈nd.watchers
theorem db.del (h:db D s) (i:Int):db (D.del (.U i)) (s.filter fun j=>decide (j≠i)):=by
 intro k';by_cases e:k'=.U i;{subst e;rw [Maps.has_del_same];simp};{rw [Maps.has_del_other e,h k'];constructor;{rintro ⟨j,hj,rfl⟩;refine ⟨j,?_,rfl⟩;rw [List.mem_filter];exact ⟨hj,by simpa using fun hh=>e (by rw [hh])⟩};{rintro ⟨j,hj,rfl⟩;exact ⟨j,(List.mem_filter.1 hj).1,rfl⟩}}
theorem aH0:∀ (key:Value) (kl:Lit),keyOf prog 23 key=some kl->∃ i:Int,key=.U i:=by
 intro key kl hk;obtain ⟨x,rfl,_⟩:=keyOf_int_inv underlying23 hk;exact ⟨x,rfl⟩
theorem nI.uniq {NB HB UB:List Nat} (h:nI w0 w bn ns NB HB UB) {nd':aD} (hi:ns[i]?=some nd) (hj:ns[j]?=some nd') (hp:nd.path=nd'.path):nd=nd':=by
 obtain ⟨D,_,mD⟩:=h.own;obtain ⟨g1,_,_,q1,_,_⟩:=h.at hi;obtain ⟨g2,_,_,q2,_,_⟩:=h.at hj;have m1:(bN nd.path,g1)∈List.zipWith (fun (nd:aD) g=>(bN nd.path,g)) ns NB:=by rw [List.mem_iff_getElem?];exact ⟨i,by rw [List.getElem?_zipWith,hi,q1]⟩
 have m2:(bN nd'.path,g2)∈List.zipWith (fun (nd:aD) g=>(bN nd.path,g)) ns NB:=by rw [List.mem_iff_getElem?];exact ⟨j,by rw [List.getElem?_zipWith,hj,q2]⟩
 have e1:=mD.at' _ m1 .nil;have e2:=mD.at' _ m2 .nil;simp only [hp] at e1;simp only at e2;rw [e1] at e2;simp only [DataW.lit.injEq,Lit.int.injEq,true_and,Int.natCast_inj] at e2;subst e2;have l1:=(aN.1 q1).1;have l2:=(aN.1 q2).1;have uV:=List.pairwise_iff_getElem.1 h.me;have v1:=(aN.1 q1).2;have v2:=(aN.1 q2).2;have:i=j:=by rcases Nat.lt_trichotomy i j with hh | hh | hh;{exact absurd (v1.trans v2.symm) (uV i j l1 l2 hh)};{exact hh};{exact absurd (v2.trans v1.symm) (uV j i l2 l1 hh)}
 subst this;rw [hi] at hj;cases hj
 rfl
theorem yl {SB NB HB UB:List Nat} (w:World) (dz:Hid (kc w0 w b bs bn e g x t ss ns SB NB HB UB)) (rh:Hid (∀ nd∈ns,bM nd.path/\nd.holders.length<=1048576/\nd.watchers.length<=1048576)) (OQ:Hid (∀ nd∈ns,0<=nd.owner/\nd.owner<18446744073709551616)) (m:Nat) (em:Hid (ns.length=m)) (hm:m<=1048576) (n:Nat) (en:Hid (ss.length=n)) :
  Calls prog 46 #[.pointer (some ⟨b,0,none⟩)] w fun r w'=>∃ nb k D s,r=.returned (.map (some nb))/\w'.ownsMap prog 23 unitElem nb k D/\db D s/\(∀ i,i∈s↔(∃ nd∈ns,sS nd i)/\¬ ∃ z∈ss,z.1=i)/\Bw w w':=by
 have Pb:w.cell? ⟨b,5,none⟩=some (.map (some bn)):=ay dz.hd 5;have DO:w.cell? ⟨b,4,none⟩=some (.map (some bs)):=ay dz.hd 4;have Cf:b<w.heap.size:=aG dz.hd;obtain ⟨D,oD,mD⟩:=dz.me.own;obtain ⟨Ds,oS,mS⟩:=dz.Fc.own;rw [aa em] at oD;rw [aa en] at oS;have MD:=ae mD;have MS:=ae mS;have OS:=ae oS;have HC4:=ae DO;have Be:=@run_makeMap prog;have b1:Bw w (w.alloc (.map #[] 0)):=aJ.alloc aA _;have bV5:=af Pb b1;have oD1:=oD.alloc (.map #[] 0);go_enter func46,ntmps46;go_wp2_with (first
  | (at_range;refine wpList_range_own _ rfl _ 130 rfl 9 _ kM underlying130 _ bn m _ rfl oD1 ?_;intro w1 pI uX Hj)
  | go_in)
 go_frame
 have iT:(w.alloc (.map #[] 0)).heap.size=w.heap.size+1:=by simp
 have bq:Bw w w1:=ah b1 (oO uX);have o0:w1.ownsMap prog 23 (unitElem (H:=Unit)) w.heap.size 0 (.map []):=(World.ownsMap_made w _ _ _).kept uX (by simp);rw [iT] at pI ⊢;have HZ1:=ae iT
 go_loopw [5] (fun _ wr=>∃ (left:Lit->Bool) (mV k:Nat) (E:DataW Unit) (s:List Int),wr.ranges prog 9 aZ bn (w.heap.size+1) m D left mV/\k+mV*2097153<=m*2097153/\wr.ownsMap prog 23 unitElem w.heap.size k E/\Hid (db E s/\∀ i,i∈s↔∃ nd∈ns,left (bN nd.path)=false/\sS nd i)/\Bw w wr) (fun _ wr=>wr.rangeLeft bn (w.heap.size+1))
 case atStart =>(
 refine ⟨_,_,0,_,[],pI,?_,o0,⟨db.nil,fun i=>?_⟩,bq⟩;{have:=oD.size_le;omega};{
 constructor;{intro h;cases h};{
 rintro ⟨nd,aV,hl,_⟩;exfalso;obtain ⟨i,hi⟩:=List.getElem?_of_mem aV;obtain ⟨g1,h1,u1,q1,q2,q3⟩:=dz.me.at hi;have:Maps.has D (bN nd.path)=true:=(MD.hs _).2 ⟨(bN nd.path,g1),by rw [List.mem_iff_getElem?];refine ⟨i,?_⟩;rw [List.getElem?_zipWith,hi,q1],rfl⟩
 rw [this] at hl;cases hl}})
 case round =>(
 obtain ⟨left,mV,k,E,s,nM,hkc,br,nG,aR⟩:=hrel;go_wp2_with (first
  | (at_next;refine ir _ rfl _ rfl 9 kM (fun s:ByteArray=>.string s) Vu bn (w.heap.size+1) m _ _ (aa MD) _ _ (by first | rfl | (rw [<-aa HZ1];rfl)) nM ?_ ?_)
  | go_in)
 {
 intro _ tJ;have gx:Hid (∀ i,i∈s↔∃ nd∈ns,sS nd i):=fun i=>by rw [nG.2 i];constructor;{rintro ⟨nd,h1,_,h2⟩;exact ⟨nd,h1,h2⟩};{rintro ⟨nd,h1,h2⟩;exact ⟨nd,h1,tJ _,h2⟩}
 have DC:=ae nG.1;have DO:=af HC4 aR;have oS1:=OS.kept (az aR none) (by simp);obtain ⟨Y,eY⟩:=ax wr;subst eY;go_wp2_with (first
  | (at_range;refine wpList_range_own _ rfl _ 129 rfl 23 _ gR underlying129 _ bs n _ rfl oS1 ?_;intro w3 si uA hs3)
  | go_in)
 go_frame
 have zL:=br.kept uA (by simp);have dA:Bw w w3:=bR aR uA aR.size (fun j hj=>by cases hj);have hr2:w.heap.size<Y.heap.size:=br.lt
 go_loopw [6] (fun _ wr=>∃ (left:Lit->Bool) (mV:Nat) (E:DataW Unit) (s':List Int),wr.ranges prog 23 aZ bs Y.heap.size n Ds left mV/\wr.ownsMap prog 23 unitElem w.heap.size k E/\Hid (db E s'/\∀ i,i∈s'↔i∈s/\¬ ∃ z∈ss,z.1=i/\left (.U i)=false)/\Bw w wr) (fun _ wr=>wr.rangeLeft bs Y.heap.size)
 case atStart =>(
 refine ⟨_,_,E,s,si,zL,⟨DC,fun i=>?_⟩,dA⟩;constructor;{
 intro hi;refine ⟨hi,?_⟩;rintro ⟨z,hz,rfl,hl⟩;obtain ⟨j,hj⟩:=List.getElem?_of_mem hz;obtain ⟨gz,Rg⟩:∃ gz,SB[j]?=some gz:=⟨_,aK (by rw [dz.Fc.len];exact (aN.1 hj).1)⟩;have:Maps.has Ds (.U z.1)=true:=(MS.hs _).2 ⟨(.U z.1,gz),by rw [List.mem_iff_getElem?];exact ⟨j,by rw [List.getElem?_zipWith,hj,Rg]⟩,rfl⟩
 rw [this] at hl;cases hl};{exact fun h=>h.1})
 case round =>(
 obtain ⟨left,mV,E1,s',nM,nj,nG,aR⟩:=hrel;go_wp2_with (first
  | (at_next;refine ir _ rfl _ rfl 23 gR (fun i:Int=>.int .u64 i) aH0 bs Y.heap.size n _ _ MS _ _ rfl nM ?_ ?_)
  | go_in)
 {intro _ tJ;have HS:=aa nG;go_wp2;go_ret;refine ⟨w.heap.size,k,E1,s',rfl,nj,HS.1,fun i=>?_,aR⟩;rw [HS.2 i,aa gx i];constructor;{rintro ⟨h1,h2⟩;exact ⟨h1,fun ⟨z,hz,e⟩=>h2 ⟨z,hz,e,tJ _⟩⟩};{rintro ⟨h1,h2⟩;exact ⟨h1,fun ⟨z,hz,e,_⟩=>h2 ⟨z,hz,e⟩⟩}};{
 intro i0 pl g1 w4 vh df hp hlp uT bj fO aa0 Bk;obtain ⟨j,z,g1',hj,hgj,ee⟩:=gM hp;simp only [Prod.mk.injEq] at ee;obtain ⟨rfl,rfl⟩:=ee;obtain ⟨i1,e1,e2,ZQ⟩:=keyOf_int_inv underlying23 df;simp only [Value.int.injEq,true_and] at e1;simp only [Lit.int.injEq,true_and] at e2;subst e1;subst e2;have gL:Bw w w4:=bR aR fO aR.size (fun j hj=>by cases hj;omega);have uw:=nj.kept fO (by simp;omega);have Wh:(Instr.entry (.pointer (some ⟨Y.heap.size,0,none⟩))).run prog w4=.ok (.tuple #[.U z.1,.pointer (some ⟨g1,0,none⟩)]) w4:=Bk;have Gx:Hid (db (E1.del (.U z.1)) (s'.filter fun j=>decide (j≠z.1))/\∀ i,i∈(s'.filter fun j=>decide (j≠z.1))↔i∈s/\¬ ∃ y∈ss,y.1=i/\(fun q=>left q&&!q.sameKey (.U z.1)) (.U i)=false):=by
  refine ⟨nG.1.del z.1,fun i=>?_⟩;rw [List.mem_filter,nG.2 i];have hk:((Lit.U i).sameKey (.U z.1)=true)↔i=z.1:=by rw [WideAt.sameKey_iff (by trivial)];simp
  by_cases ei:i=z.1;{subst ei;simp only [ne_eq,not_true_eq_false,decide_false,Bool.false_eq_true,and_false,false_iff];rintro ⟨_,h2⟩;exact h2 ⟨z,aF hj,rfl,by simp [hk.2 rfl]⟩};{simp [ei,show (Lit.U i).sameKey (.U z.1)=false by (rw [Bool.eq_false_iff];exact fun h=>ei (hk.1 h))]}
 go_wp2_with (first
  | (at_delete;refine wpList_delete_own _ rfl _ _ 84 23 rfl _ gR underlying84 unitElem w.heap.size k _ rfl uw _ _ rfl (keyOf_int_mk underlying23 ZQ) ?_;intro w5 xn Vy;go_frame)
  | go_in)
 have qh:=Vy.grown;have ew:Bw w w5:=bR gL qh gL.size (fun j hj=>by cases hj;exact Nat.le_refl _);have tG:=uT.kept qh (by have:=OS.lt;simp;omega) (by simp;omega);go_roundw
 case rel=>exact ⟨_,vh,_,_,tG,xn,Gx,ew⟩
 case measure=>rw [tG.left_eq,nM.left_eq];exact bj})}
 {
 intro sb pl g1 w2 vh df hp hlp uT bj fO gx Bk;obtain ⟨i,nd,g1',hi,yD,ee⟩:=gM hp;simp only [Prod.mk.injEq] at ee;obtain ⟨rfl,rfl⟩:=ee;have bk:Bw w w2:=bR aR fO aR.size (fun j hj=>by cases hj;omega);obtain rfl:=Dt df;have aV:=aF hi;obtain ⟨vG,Cd,uW⟩:=aa rh nd aV;obtain ⟨g2,h1,u1,q1,q2,q3⟩:=dz.me.at hi;rw [yD] at q1;cases q1;obtain ⟨_,_,_,⟨V,a4,_⟩,⟨Dh,oh,sh⟩,⟨Du,ou,su⟩⟩:=dz.me.aI i nd g1 h1 u1 hi yD q2 q3;have DK:g1<w.heap.size:=aG a4;have k1:w.cell? ⟨g1,1,none⟩=some (.U nd.owner):=ay a4 1;have k3:w.cell? ⟨g1,3,none⟩=some (.map (some h1)):=ay a4 3;have k6:w.cell? ⟨g1,6,none⟩=some (.map (some u1)):=ay a4 6;have SH:=ae sh;have SU:=ae su;have xr:=br.kept fO (by first | (simp;done) | (simp;omega));have Wh:(Instr.entry (.pointer (some ⟨w.heap.size+1,0,none⟩))).run prog w2=.ok (.tuple #[.string (aC nd.path),.pointer (some ⟨g1,0,none⟩)]) w2:=Bk;have YN:∀ i:Int,((i∈s\/(nd.owner≠0/\i=nd.owner))\/i∈nd.holders)\/i∈nd.watchers↔∃ nd'∈ns,(fun z=>left z&&!z.sameKey (bN nd.path)) (bN nd'.path)=false/\sS nd' i:=by intro i0;rw [nG.2 i0];constructor;{rintro (((⟨nd',h1,h2,h3⟩ | h) | h) | h);{exact ⟨nd',h1,by simp [h2],h3⟩};{exact ⟨nd,aV,by simp [mi vG vG],.inl h⟩};{exact ⟨nd,aV,by simp [mi vG vG],.inr (.inl h)⟩};{exact ⟨nd,aV,by simp [mi vG vG],.inr (.inr h)⟩}};{rintro ⟨nd',h1,h2,h3⟩;by_cases ep:nd'.path=nd.path;{obtain ⟨j,hj⟩:=List.getElem?_of_mem h1;have:=dz.me.uniq hj hi ep;subst this;rcases h3 with h3 | h3 | h3;{exact .inl (.inl (.inr h3))};{exact .inl (.inr h3)};{exact .inr h3}};{refine .inl (.inl (.inl ⟨nd',h1,?_,h3⟩));simpa [mi (aa rh nd' h1).1 vG,ep] using h2}}
 have hO:=aa OQ nd aV;by_cases ho:nd.owner=0;{
 have d1:=(bQ (bk.block g1 DK) 1).trans k1;have d3:=(bQ (bk.block g1 DK) 3).trans k3;have d6:=(bQ (bk.block g1 DK) 6).trans k6;rw [ho] at d1;have M3:∀ i,i∈s↔i∈s\/(nd.owner≠0/\i=nd.owner):=fun i=>by simp [ho]
 have S3:=ae nG.1;have dA:=bk;have zL:=xr;have si:=uT;obtain ⟨w3,e3⟩:=ax w2;obtain ⟨K3,eK⟩:=ax k;obtain ⟨E3,eE⟩:=ax E;obtain ⟨s3,eS⟩:=ax s;have Rt:K3<=k+1:=by omega
 subst e3 eK eE eS;go_wp2_with fail;refine (pA w.heap.size h1 K3 nd.holders.length E3 Dh s3 nd.holders w3 zL (oh.kept (az dA none) (by simp)) S3 SH (by have:=oh.lt;omega) (by omega) Cd).mono ?_;rintro r w4 ⟨E4,s4,rfl,uw,LU,Mk,sw⟩;have gL:Bw w w4:=bR dA sw dA.size (fun j hj=>by cases hj;exact Nat.le_refl _);have f6:=(bQ (gL.block g1 DK) 6).trans k6;have S4:=ae LU;go_wp2_with fail;refine (pA w.heap.size u1 _ nd.watchers.length E4 Du s4 nd.watchers w4 uw (ou.kept (az gL none) (by simp)) S4 SU (by have:=ou.lt;omega) (by omega) uW).mono ?_;rintro r w5 ⟨E5,s5,rfl,xn,LS,Mj,qh⟩;have ew:Bw w w5:=bR gL qh gL.size (fun j hj=>by cases hj;exact Nat.le_refl _);have tG:=(si.kept sw (by have:=oD.lt;simp;omega) (by first | (simp;done) | (simp;omega))).kept qh (by have:=oD.lt;simp;omega) (by first | (simp;done) | (simp;omega));have Gx:Hid (db E5 s5/\∀ i,i∈s5↔∃ nd'∈ns,(fun z=>left z&&!z.sameKey (bN nd.path)) (bN nd'.path)=false/\sS nd' i):=⟨LS,fun i=>by rw [Mj,Mk,M3,YN]⟩
 go_wp2;go_roundw
 case rel=>first | exact ⟨_,vh,tG,_,by omega,E5,xn,s5,Gx,ew⟩ | exact ⟨_,vh,_,E5,s5,tG,by omega,xn,Gx,ew⟩
 case measure=>rw [tG.left_eq,nM.left_eq];exact bj}
 {
 have JZ:(nd.owner != 0)=true:=by simp [ho]
 have d1:=(bQ (bk.block g1 DK) 1).trans k1;have ac1:keyOf prog 23 (.U nd.owner)=some (.U nd.owner):=keyOf_int_mk underlying23 (jO hO);have M3:∀ i,i∈s++[nd.owner]↔i∈s\/(nd.owner≠0/\i=nd.owner):=fun i=>by simp [ho]
 have S3:=ae (nG.1.put br.isMap nd.owner (.agg []));go_wp2_with (first
  | (at_mapUpdate;refine wpList_mapUpdate_own _ rfl _ _ _ 84 rfl 23 _ gR underlying84 unitElem w.heap.size k _ rfl xr (by unfold maxLen;omega) _ _ _ rfl rfl ac1 (.agg []) [] unitElem_mk ?_;intro w3 zL Mv;have dA:Below w.heap.size w w3:=bR bk Mv bk.size (fun j hj=>by cases hj;exact Nat.le_refl _);have d3:=(bQ (dA.block g1 DK) 3).trans k3;have d6:=(bQ (dA.block g1 DK) 6).trans k6)
  | fail)
 have si:=uT.kept Mv (by have:=oD.lt;simp;omega) (by first | (simp;done) | (simp;omega));obtain ⟨K3,eK⟩:=ax (k+1);obtain ⟨E3,eE⟩:=ax (E.put (.U nd.owner) (.agg []));obtain ⟨s3,eS⟩:=ax (s++[nd.owner]);have Rt:K3<=k+1:=by omega
 rw [<-eK,<-eE] at zL;rw [<-eE,<-eS] at S3;rw [<-eS] at M3;refine (pA w.heap.size h1 K3 nd.holders.length E3 Dh s3 nd.holders w3 zL (oh.kept (az dA none) (by simp)) S3 SH (by have:=oh.lt;omega) (by omega) Cd).mono ?_;rintro r w4 ⟨E4,s4,rfl,uw,LU,Mk,sw⟩;have gL:Bw w w4:=bR dA sw dA.size (fun j hj=>by cases hj;exact Nat.le_refl _);have f6:=(bQ (gL.block g1 DK) 6).trans k6;have S4:=ae LU;go_wp2_with fail;refine (pA w.heap.size u1 _ nd.watchers.length E4 Du s4 nd.watchers w4 uw (ou.kept (az gL none) (by simp)) S4 SU (by have:=ou.lt;omega) (by omega) uW).mono ?_;rintro r w5 ⟨E5,s5,rfl,xn,LS,Mj,qh⟩;have ew:Bw w w5:=bR gL qh gL.size (fun j hj=>by cases hj;exact Nat.le_refl _);have tG:=(si.kept sw (by have:=oD.lt;simp;omega) (by first | (simp;done) | (simp;omega))).kept qh (by have:=oD.lt;simp;omega) (by first | (simp;done) | (simp;omega));have Gx:Hid (db E5 s5/\∀ i,i∈s5↔∃ nd'∈ns,(fun z=>left z&&!z.sameKey (bN nd.path)) (bN nd'.path)=false/\sS nd' i):=⟨LS,fun i=>by rw [Mj,Mk,M3,YN]⟩
 go_wp2;go_roundw
 case rel=>first | exact ⟨_,vh,tG,_,by omega,E5,xn,s5,Gx,ew⟩ | exact ⟨_,vh,_,E5,s5,tG,by omega,xn,Gx,ew⟩
 case measure=>rw [tG.left_eq,nM.left_eq];exact bj}})
theorem QT (ss:List aY) (ids:List Int):gq ss ids=true↔Ei ids=true/\∀ i∈ids,live ss i=true:=by
 simp only [gq,Ei,iG,List.all_eq_true,List.mem_range,yy,Bool.and_eq_true];constructor;{intro h;refine ⟨fun i hi=>(h i hi).2,fun y hy=>?_⟩;obtain ⟨i,hi,rfl⟩:=List.getElem_of_mem hy;have:=(h i hi).1;rwa [List.getD_eq_getElem?_getD,aK hi] at this};{rintro ⟨h1,h2⟩ i hi;refine ⟨h2 _ ?_,h1 i hi⟩;rw [List.getD_eq_getElem?_getD,aK hi];exact List.getElem_mem hi}
theorem ka {α:Type} (l:List α) (d:α) (f:α->Bool):(∀ i,i<l.length->f (l.getD i d)=true)↔∀ y∈l,f y=true:=by
 constructor;{intro h y hy;obtain ⟨i,hi,rfl⟩:=List.getElem_of_mem hy;have:=h i hi;rwa [List.getD_eq_getElem?_getD,aK hi] at this};{intro h i hi;rw [List.getD_eq_getElem?_getD,aK hi];exact h _ (List.getElem_mem hi)}
theorem Qg (x:Int) (ss:List aY):(List.range ss.length).all (jy x ss)=true↔jh x ss=true:=by
 simp only [jh,iG,List.all_eq_true,List.mem_range,jy,wv,Bool.and_eq_true];constructor;{intro h;exact ⟨fun i hi=>⟨(h i hi).1,(h i hi).2.1,(h i hi).2.2.2⟩,fun i hi=>(h i hi).2.2.1⟩};{rintro ⟨h1,h2⟩ i hi;exact ⟨(h1 i hi).1,(h1 i hi).2.1,h2 i hi,(h1 i hi).2.2⟩}
theorem Qz (e g:Int) (ss:List aY) (ns:List aD):(List.range ns.length).all (iP e g ss ns)=true↔jk e g ns=true/\ns.all (fun nd=>dw ns (dm nd.path))=true/\∀ nd∈ns,∀ i,sS nd i->live ss i=true:=by
 have key:∀ k,iP e g ss ns k=true↔(tz e g (ns.getD k fq)=true/\(k==0||!leB (ns.getD k fq).path (ns.getD (k-1) fq).path)=true)/\dw ns (dm (ns.getD k fq).path)=true/\(fun nd=>decide (nd.owner=0)||live ss nd.owner) (ns.getD k fq)=true/\(fun nd:aD=>nd.holders.all (live ss)) (ns.getD k fq)=true/\(fun nd:aD=>nd.watchers.all (live ss)) (ns.getD k fq)=true:=by
  intro k;simp only [iP,tz,Bool.and_eq_true,QT,List.all_eq_true];have:((ns.getD k fq).owner==0||live ss (ns.getD k fq).owner)=(decide ((ns.getD k fq).owner=0)||live ss (ns.getD k fq).owner):=by
   congr 1
  rw [this];constructor;{rintro ⟨⟨a1,a2⟩,a3,a4,a5,⟨a6,a7⟩,⟨a8,a9⟩,a10⟩;exact ⟨⟨⟨a1,a4,a10,a6,a8⟩,a2⟩,a3,a5,a7,a9⟩};{rintro ⟨⟨⟨a1,a4,a10,a6,a8⟩,a2⟩,a3,a5,a7,a9⟩;exact ⟨⟨a1,a2⟩,a3,a4,a5,⟨a6,a7⟩,⟨a8,a9⟩,a10⟩}
 simp only [jk,iG,List.all_eq_true,List.mem_range,Bool.and_eq_true,key];rw [<-ka ns fq];constructor;{intro h;refine ⟨⟨fun i hi=>(h i hi).1.1,fun i hi=>(h i hi).1.2⟩,fun i hi=>(h i hi).2.1,?_⟩;have h3:=(ka ns fq (fun nd=>decide (nd.owner=0)||live ss nd.owner)).1 (fun i hi=>(h i hi).2.2.1);have h4:=(ka ns fq (fun nd:aD=>nd.holders.all (live ss))).1 (fun i hi=>List.all_eq_true.2 (h i hi).2.2.2.1);have h5:=(ka ns fq (fun nd:aD=>nd.watchers.all (live ss))).1 (fun i hi=>List.all_eq_true.2 (h i hi).2.2.2.2);rintro nd aV i (⟨h1,rfl⟩ | h1 | h1);{have:=h3 nd aV;simpa [h1] using this};{exact List.all_eq_true.1 (h4 nd aV) i h1};{exact List.all_eq_true.1 (h5 nd aV) i h1}};{rintro ⟨⟨h1,h2⟩,h3,h4⟩ i hi;refine ⟨⟨h1 i hi,h2 i hi⟩,h3 i hi,?_,?_,?_⟩;{refine (ka ns fq (fun nd=>decide (nd.owner=0)||live ss nd.owner)).2 (fun nd aV=>?_) i hi;by_cases ho:nd.owner=0;{simp [ho]};{simp [ho,h4 nd aV nd.owner (.inl ⟨ho,rfl⟩)]}};{exact List.all_eq_true.1 ((ka ns fq (fun nd:aD=>nd.holders.all (live ss))).2 (fun nd aV=>List.all_eq_true.2 fun j hj=>h4 nd aV j (.inr (.inl hj))) i hi)};{exact List.all_eq_true.1 ((ka ns fq (fun nd:aD=>nd.watchers.all (live ss))).2 (fun nd aV=>List.all_eq_true.2 fun j hj=>h4 nd aV j (.inr (.inr hj))) i hi)}}
theorem Cv (e g x t:Int) (ss:List aY) (ns:List aD):jY e g x t ss ns=true↔wS e g x t ss.length ns.length=true/\jh x ss=true/\jk e g ns=true/\ns.all (fun nd=>dw ns (dm nd.path))=true/\∀ nd∈ns,∀ i,sS nd i->live ss i=true:=by
 rw [jY,Bool.and_eq_true,Bool.and_eq_true,Qg,Qz];exact Iff.rfl
theorem Di (ss:List aY) (i:Int):live ss i=true↔∃ z∈ss,z.1=i:=by
 rw [live,List.any_eq_true];simp
theorem pB:∀ a:List UInt8,Op.bytesLess a a=false
 | []=>rfl
 | x::a=>by simp [Op.bytesLess,pB a,UInt8.lt_irrefl]
theorem sO:∀ {a b c:List UInt8},Op.bytesLess a b=true->Op.bytesLess b c=true->Op.bytesLess a c=true
 | _,[],_,h,_=>by simp [Op.bytesLess] at h
 | _,_::_,[],_,h=>by simp [Op.bytesLess] at h
 | [],_::_,_::_,_,_=>rfl
 | x::a,y::b,z::c,h,k=>by simp only [Op.bytesLess,Bool.or_eq_true,decide_eq_true_eq,Bool.and_eq_true,beq_iff_eq] at h k ⊢;rcases h with h | ⟨rfl,h⟩;{rcases k with k | ⟨rfl,k⟩;{exact .inl (UInt8.lt_trans h k)};{exact .inl h}};{rcases k with k | ⟨rfl,k⟩;{exact .inl k};{exact .inr ⟨rfl,sO h k⟩}}
theorem Ee:∀ {a b:List UInt8},Op.bytesLess a b=false->a≠b->Op.bytesLess b a=true
 | [],[],_,h=>absurd rfl h
 | [],_::_,h,_=>by simp [Op.bytesLess] at h
 | _::_,[],_,_=>rfl
 | x::a,y::b,h,bL=>by
  simp only [Op.bytesLess,Bool.or_eq_false_iff,decide_eq_false_iff_not] at h;simp only [Op.bytesLess,Bool.or_eq_true,decide_eq_true_eq,Bool.and_eq_true,beq_iff_eq];by_cases hxy:x=y;{
 subst hxy
 right
 refine ⟨rfl,Ee ?_ (fun e=>bL (by rw [e]))⟩;simpa using h.2};{exact .inl (UInt8.lt_of_le_of_ne (UInt8.not_lt.1 h.1) (Ne.symm hxy))}
theorem sP {n:Nat} {lt:Nat->Nat->Bool} (h:iG n lt=true) (tr:∀ i j k,lt i j=true->lt j k=true->lt i k=true):∀ (j i:Nat),j<n->i<j->lt i j=true:=by
 have hs:∀ j,j+1<n->lt j (j+1)=true:=fun j hj=>by have:=List.all_eq_true.1 h (j+1) (List.mem_range.2 hj);simpa using this
 intro j
 induction j with
 | zero=>intro i _ hi;omega
 | succ j ih=>
  intro i hj hi;by_cases e:i=j;{subst e;exact hs i hj};{exact tr i j (j+1) (ih i (by omega) (by omega)) (hs j hj)}
theorem yY (h:jh x ss=true):∀ (i j:Nat) (s s':aY),ss[i]?=some s->ss[j]?=some s'->i<j->s.1≠s'.1:=by
 intro i j s s' hi hj jc;rw [jh,Bool.and_eq_true] at h;have:=sP h.2 (fun i j k h1 h2=>by simp at h1 h2 ⊢;omega) j i (aN.1 hj).1 jc;simp only [List.getD_eq_getElem?_getD,hi,hj,Option.getD_some,decide_eq_true_eq] at this;omega
theorem j8 :(!leB l m)=true↔Op.bytesLess (aC m).toList (aC l).toList=true:=by
 simp only [leB,Bool.not_eq_true',Bool.or_eq_false_iff,beq_eq_false_iff_ne];constructor;{rintro ⟨h1,h2⟩;exact Ee h1 h2};{intro h;refine ⟨?_,fun e=>?_⟩;{rw [Bool.eq_false_iff];intro h2;have:=sO h h2;rw [pB] at this;cases this};{rw [e,pB] at h;cases h}}
theorem zy (h:jk e g ns=true):∀ (i j:Nat) (z z':aD),ns[i]?=some z->ns[j]?=some z'->i<j->z.path≠z'.path:=by
 intro i j z z' hi hj jc;rw [jk,Bool.and_eq_true] at h;have:=sP h.2 (fun i j k h1 h2=>j8.2 (sO (j8.1 h1) (j8.1 h2))) j i (aN.1 hj).1 jc;simp only [List.getD_eq_getElem?_getD,hi,hj,Option.getD_some] at this;intro e;rw [e,j8,pB] at this;cases this
theorem GO (h:jh x ss=true) (hx:x<=4611686018427387904):∀ s∈ss,0<=s.1/\s.1<18446744073709551616:=by
 rw [jh,Bool.and_eq_true,List.all_eq_true] at h;have H:=(ka ss (0,0,[]) (wv x)).1 fun i hi=>h.1 i (List.mem_range.2 hi);intro s hs;have:=H s hs;simp only [wv,Bool.and_eq_true,decide_eq_true_eq] at this;omega
theorem LJ (e g x t:Int) (p q:Option Addr) (c n d m:Nat) (ss:List aY) (ns:List aD) (en:Hid (ss.length=n)) (em:Hid (ns.length=m)) (w:World) (h:ic w (.S p n c) ss) (hN:kJ w (.S q m d) ns) (hn:n<=1048576) (hm:m<=1048576)
  (nO:Hid (∀ s∈ss,s.2.2.length<=1048576/\∀ e∈s.2.2,bM e.2/\e.2.length<=1048576))
  (fI:Hid (∀ nd∈ns,bM nd.path/\nd.path.length<=1048576/\nd.value.length<=1048576/\nd.holders.length<=1048576/\nd.watchers.length<=1048576))
  (IY:Hid (∀ nd∈ns,(∀ i∈nd.holders,0<=i/\i<18446744073709551616)/\∀ i∈nd.watchers,0<=i/\i<18446744073709551616))
  (OQ:Hid (∀ nd∈ns,0<=nd.owner/\nd.owner<18446744073709551616)) (Aa:ML w) (B:Bool) (eB:Hid (jY e g x t ss ns=B)) :
  Calls prog 15 #[cY e g x t (.S p n c) (.S q m d)] w fun r w'=>r=.returned (.bool B)/\Bw w w':=by
 have HR:=ae fun (w':World) (hb:Bw w w')=>ag (h.below hb) (ag (hN.below hb) (Aa.below hb));have HI:Hid (B=true↔wS e g x t n m=true/\jh x ss=true/\jk e g ns=true/\ns.all (fun nd=>dw ns (dm nd.path))=true/\∀ nd∈ns,∀ i,sS nd i->live ss i=true):=by show _↔_;rw [<-aa eB,Cv,aa en,aa em]
 obtain ⟨T1,E1⟩:∃ T,Hid (wS e g x t n m=T):=⟨_,(by show _=_;rfl)⟩;obtain ⟨T2,E2⟩:∃ T,Hid (jh x ss=T):=⟨_,(by show _=_;rfl)⟩;obtain ⟨T3,E3⟩:∃ T,Hid (jk e g ns=T):=⟨_,(by show _=_;rfl)⟩;obtain ⟨T4,E4⟩:∃ T,Hid (ns.all (fun nd=>dw ns (dm nd.path))=T):=⟨_,(by show _=_;rfl)⟩;obtain ⟨W,hW⟩:=ax (w.alloc (.cells #[.U e,.U g,.U x,.I t,.S p n c,.S q m d] 27));have bW:=ju hW;have Pa:pD W w.heap.size e g x t (.S p n c) (.S q m d):=by rw [hW];simp [pD]
 have Pz:=ae Pa;go_enter func15,ntmps15;go_wp2_with fail;rw [<-hW];refine (Fm e g x t p q c n d m _ hn hm T1 E1).mono ?_;rintro r w1 ⟨rfl,bq⟩;have b1:=ah bW bq;cases T1 with
 | false=>
  have eF:B=false:=by rw [Bool.eq_false_iff];intro hB;have:=(HI.1 hB).1;rw [aa E1] at this;cases this
  subst eF;go_wp2;go_ret;exact ⟨rfl,b1⟩
 | true=>
  obtain ⟨i0,i1,i2,i3,i4,i5⟩:=Pz.below bq;go_wp2_with fail;refine (rC e g x t p c n _ ss en _ (aa HR _ b1).1 hn nO (aa HR _ b1).2.2 T2 E2).mono ?_;rintro r w2 ⟨rfl,bk⟩;have b2:=ah b1 bk;cases T2 with
  | false=>
   have eF:B=false:=by rw [Bool.eq_false_iff];intro hB;have:=(HI.1 hB).2.1;rw [aa E2] at this;cases this
   subst eF;go_wp2;go_ret;exact ⟨rfl,b2⟩
  | true=>
   replace i0:=af i0 bk;replace i1:=af i1 bk;replace i2:=af i2 bk;replace i3:=af i3 bk;replace i4:=af i4 bk;replace i5:=af i5 bk;go_wp2_with fail;refine (vV e g x t _ q d m ns em _ (aa HR _ b2).2.1 hm fI (aa HR _ b2).2.2 T3 E3).mono ?_;rintro r w3 ⟨rfl,dA⟩;have b3:=ah b2 dA;cases T3 with
   | false=>
    have eF:B=false:=by rw [Bool.eq_false_iff];intro hB;have:=(HI.1 hB).2.2.1;rw [aa E3] at this;cases this
    subst eF;go_wp2;go_ret;exact ⟨rfl,b3⟩
   | true=>
    replace i0:=af i0 dA;replace i1:=af i1 dA;replace i2:=af i2 dA;replace i3:=af i3 dA;replace i4:=af i4 dA;replace i5:=af i5 dA;have hx:x<=4611686018427387904:=by have:=aa E1;simp only [wS,decide_eq_true_eq] at this;exact this.2.2.1
    have H1:=ae (GO E2 hx);have H2:=ae (yY E2);have H3:=ae (zy E3);go_wp2_with fail;refine (ui e g x t p q c n d m ss ns en em _ (aa HR _ b3).1 (aa HR _ b3).2.1 hn hm H1 H2 fI IY H3).mono ?_;rintro r w4 ⟨b,bs,bn,SB,NB,HB,UB,rfl,dz,gL⟩;have b4:=ah b3 gL;have lr:=ae dz;go_wp2_with fail;refine (FQ _ lr (fun nd aV=>⟨(aa fI nd aV).1,(aa fI nd aV).2.1⟩) T4 E4).mono ?_;rintro r w5 ⟨rfl,ew⟩;have b5:=ah b4 ew;cases T4 with
    | false=>
     have eF:B=false:=by rw [Bool.eq_false_iff];intro hB;have:=(HI.1 hB).2.2.2.1;rw [aa E4] at this;cases this
     subst eF;go_wp2;go_ret;exact ⟨rfl,b5⟩
    | true=>
     have ba2:=ae (lr.below ew);go_wp2_with fail;refine (yl _ ba2 (fun nd aV=>⟨(aa fI nd aV).1,(aa fI nd aV).2.2.2⟩) OQ m em hm n en).mono ?_;rintro r w6 ⟨nb,k,D,s,rfl,oD,sD,hs,DP⟩;have b6:=ah b5 DP;have hlen:∀ ty,(Builtin.len_ #[84] ty #[.map (some nb)]).run prog w6=.ok (.I (Maps.size D)) w6:=fun ty=>oD.len underlying84 ty;have il:Maps.size D=0↔s=[]:=sD.am5 oD.isMap (fun es ee p hp=>by obtain ⟨RN,e',_,hk⟩:=oD.entries gR;rw [ee] at e';cases e';exact hk p hp)
     have hB:B=true↔s=[]:=by rw [aa HI];constructor;{rintro ⟨_,_,_,_,h5⟩;apply List.eq_nil_iff_forall_not_mem.2;intro i hi;obtain ⟨⟨nd,aV,hN⟩,jS⟩:=(hs i).1 hi;exact jS ((Di ss i).1 (h5 nd aV i hN))};{intro Hj;refine ⟨E1,E2,E3,E4,fun nd aV i hN=>?_⟩;rw [Di];by_cases hh:∃ z∈ss,z.1=i;{exact hh};{have:=(hs i).2 ⟨⟨nd,aV,hN⟩,hh⟩;rw [Hj] at this;cases this}}
     have hb:((Maps.size D:Int)==0)=B:=by rw [Bool.eq_iff_iff,hB,<-il];simp
     go_wp2;go_ret;exact ⟨rfl,b6⟩
def aF8 (nd:aD):aD:={ nd with watchers:=[] }
theorem oy {R:Value->Option (DataW Unit × List MemPlace)} {b n:Nat} (h:w.ownsMap Tryz.prog k R b n D) (K:∀ es c,w.heap[b]?=some (.map es c)->w'.heap[b]?=some (.map es c)):w'.ownsMap Tryz.prog k R b n D:=by
 obtain ⟨es,clock,h1,h2⟩:=h;exact ⟨es,clock,K _ _ h1,h2⟩
theorem CG {R:Value->Option (DataW Unit × List MemPlace)} {b r n:Nat} {left:Lit->Bool} {mV:Nat} (h:w.ranges P k R b r n D left mV) (h1:w'.heap[b]?=w.heap[b]?) (h2:w'.heap[r]?=w.heap[r]?):w'.ranges P k R b r n D left mV:=by
 obtain ⟨es,clock,since,seen,c0,hb,F,hs,hD,hr,rest⟩:=h;exact ⟨es,clock,since,seen,c0,h1.trans hb,F,hs,hD,h2.trans hr,rest⟩
theorem IG {l:List Nat} (h:l.Nodup) {a:Nat} (hi:l[i]?=some a) (hj:l[j]?=some a):i=j:=by
 have l1:=(aN.1 hi).1;have l2:=(aN.1 hj).1;have uV:=List.pairwise_iff_getElem.1 h;have v1:=(aN.1 hi).2;have v2:=(aN.1 hj).2;rcases Nat.lt_trichotomy i j with hh | hh | hh;{exact absurd (v1.trans v2.symm) (uV i j l1 l2 hh)};{exact hh};{exact absurd (v2.trans v1.symm) (uV j i l2 l1 hh)}
def GI (f:aY->aY) (left:Lit->Bool) (ss:List aY):List aY:=ss.map fun s=>if left (.U s.1) then s else f s
def GJ (left:Lit->Bool) (ns:List aD):List aD:=ns.map fun s=>if left (bN s.path) then s else aF8 s
theorem Iz {mty kt et:TypeId} {R:Value->Option (DataW Unit × List MemPlace)} {b n:Nat} (hm:P.underlying mty=some (.map kt et)) (h:w.ownsMap P k R b n D) (ty:TypeId) :
  ∃ v w',(Builtin.clear_ #[mty] ty #[.map (some b)]).run P w=.ok v w'/\w'.ownsMap P k R b 0 (.map [])/\w.grownBy w' (some b)/\w'.heap.size=w.heap.size:=by
 obtain ⟨es,clock,hb,F,hs,hD⟩:=h;have cK:∃ v,(Builtin.clear_ #[mty] ty #[.map (some b)]).run P w=.ok v { w with heap:=w.heap.setIfInBounds b (.map #[] clock) }:=by simp [Builtin.clear_,run_underlying hm,MapKept.run_getObj_map hb,MapKept.run_setObj_map _ hb,Result.andThen]
 obtain ⟨v,hv⟩:=cK;refine ⟨v,_,hv,?_,⟨rfl,rfl,rfl,by simp,fun i _ bL=>(MapKept.heap_set hb).2 i (fun e=>bL (by rw [e]))⟩,by simp⟩;exact ⟨#[],clock,(MapKept.heap_set hb).1,⟨by simp,MapKept.stamped_empty _,by simp⟩,Nat.le_refl _,rfl⟩
end Go.Proofs.YtcfcafeciggjeaaGreatDoor
