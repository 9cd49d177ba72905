import Derived.Test.YtcfcafeciggjeaaGreatDoorK32
import Derived.Test.YtcfcafeciggjeaaGreatDoorAS1
import Derived.Test.YtcfcafeciggjeaaGreatDoorK20
import Derived.Lib.ConvBytes
namespace Go.Proofs.YtcfcafeciggjeaaGreatDoor
set_option maxHeartbeats 8000000
set_option linter.unusedVariables false
set_option linter.unusedSimpArgs false
set_option maxRecDepth 100000
open Go.ChangeShapes Go.WideShapes Go.ChangeAt Go.RowKit
variable {A A2:List Lf} {B a b c g t:Nat} {cd l:List Int} {cs:List Value} {k:Int} {p:Option Addr} {v:Value} {w w' w1 w2:World} {xs:List (List Int)}
def iT (w:World) (A:List Lf) (k:Int):Prop:=∀ (i:Nat) (a:Lf),A[i]?=some a->w.cell? ⟨a.b,a.o,none⟩=some (.int a.k (Ow a.k (k+i)))
theorem iT.below (h:iT w A k) (hb:Below w.heap.size w w'):iT w' A k:=fun i a ha=>af (h i a ha) hb
theorem iT.app (h:iT w (A++A2) k):iT w A k/\iT w A2 (k+A.length):=by
 refine ⟨fun i a ha=>h i a ?_,fun i a ha=>?_⟩;{rw [List.getElem?_append_left (aJ.1 ha).1];exact ha};{
 have:=h (A.length+i) a (by rw [List.getElem?_append_right (by omega)];simpa using ha);rw [this]
 congr 3
 push_cast
 omega}
theorem iT.cons {a:Lf} (h:iT w (a::A2) k):w.cell? ⟨a.b,a.o,none⟩=some (.int a.k (Ow a.k k))/\iT w A2 (k+1):=by
 have h1:=(iT.app (A:=[a]) (A2:=A2) (by simpa using h));refine ⟨?_,by simpa using h1.2⟩;have:=h1.1 0 a (by simp);simpa using this
theorem zG.below {x:Ev} {l:List Lf} (h:zG w x b a l) (hb:Below w.heap.size w w'):zG w' x b a l:=h.mk (Mk.gW hb 0) (dm.nil _)
theorem tC.below {xs:List Ev} {l:List Lf} (h:tC w v xs l) (hb:Below w.heap.size w w'):tC w' v xs l:=tC.mk h (Mk.gW hb 0) (dm.nil _)
theorem zy.below {x:aL} {l:List Lf} (h:zy w x b a l) (hb:Below w.heap.size w w'):zy w' x b a l:=h.mk (Mk.gW hb 0) (dm.nil _)
theorem zE.below {xs:List aL} {l:List Lf} (h:zE w v xs l) (hb:Below w.heap.size w w'):zE w' v xs l:=zE.mk h (Mk.gW hb 0) (dm.nil _)
theorem zF.below {x:aA} {l:List Lf} (h:zF w x b a l) (hb:Below w.heap.size w w'):zF w' x b a l:=h.mk (Mk.gW hb 0) (dm.nil _)
theorem Af.below {xs:List aA} {l:List Lf} (h:Af w v xs l) (hb:Below w.heap.size w w'):Af w' v xs l:=Af.mk h (Mk.gW hb 0) (dm.nil _)

def L6 (w:World) (x:List Int) (b a:Nat) (l:List Lf):Prop:=∃ p c,w.cell? ⟨b,a,none⟩=some (.slice p x.length c)/\EF (.slice p x.length c) x l
abbrev Dw (w:World) (v:Value) (xs:List (List Int)) (A:List Lf):Prop:=EA (L6 w) 1 v xs A
theorem L6.mk {x:List Int} {l:List Lf} (h:L6 w x b a l) (hm:Mk w w' A k) (hA:dm w A):L6 w' x b a l:=by
 obtain ⟨p,c,h1,h2⟩:=h;exact ⟨p,c,hm.head hA h1,h2⟩
theorem Dw.mk {l:List Lf} (h:Dw w v xs l) (hm:Mk w w' A k) (hA:dm w A):Dw w' v xs l:=h.imp fun x b a l _ _ hP=>hP.mk hm hA
theorem Dw.below {l:List Lf} (h:Dw w v xs l) (hb:Below w.heap.size w w'):Dw w' v xs l:=Dw.mk h (Mk.gW hb 0) (dm.nil _)
def LU (w:World) (v:Value) (xs:List (List Int)):Prop:=∃ (p:Option Addr) (c:Nat),v=.slice p xs.length c/\(xs=[]\/∃ b o,p=some ⟨b,o,none⟩/\∀ (i:Nat) (x:List Int),xs[i]?=some x->∃ u,w.cell? ⟨b,o+i,none⟩=some u/\Rd w u x)
theorem LU.below (h:LU w v xs) (hb:Below w.heap.size w w'):LU w' v xs:=by
 obtain ⟨p,c,rfl,h⟩:=h;refine ⟨p,c,rfl,?_⟩;rcases h with h | ⟨b,o,rfl,h⟩;{exact .inl h};{refine .inr ⟨b,o,rfl,fun i x hx=>?_⟩;obtain ⟨u,h1,h2⟩:=h i x hx;exact ⟨u,af h1 hb,h2.below hb⟩}
open Go.Proofs.Tryz
abbrev Vj (se pa:Bool) (lo hi vs:Int) (sq jo:Bool):Value:=.agg #[.bool se,.bool pa,.int .i64 lo,.int .i64 hi,.int .i64 vs,.bool sq,.bool jo]
theorem zs (se:Bool) (s:Int):se=true\/(se=false/\s=0)\/(se=false/\(s==0)=false):=by
 cases se;{exact .inr ((zf 0 s).imp (⟨rfl,·⟩) (⟨rfl,·⟩))};{exact .inl rfl}
theorem zp (pa:Bool) (n:Nat):pa=true\/(pa=false/\n=0)\/(pa=false/\((n:Int)==0)=false):=by
 rcases zs pa n with h | ⟨h,h2⟩ | h;{exact .inl h};{exact .inr (.inl ⟨h,by omega⟩)};{exact .inr (.inr h)}
theorem Ih (se pa:Bool) (lo hi vs:Int) (sq jo:Bool) (k s f e g:Int) (p q:Option Addr) (n m c d:Nat) (w:World) (B:Bool) (eB:Hid (Ll se pa lo hi vs sq s f n m e g=B)) :
  Calls prog 127 #[Vj se pa lo hi vs sq jo,SQ k s (.slice p n c) f (.slice q m d) e g] w fun r w'=>r=.returned (.bool B)/\Below w.heap.size w w':=by
 rcases zs se s with rfl | ⟨rfl,rfl⟩ | ⟨rfl,dd⟩
 all_goals (first | (have x:=dd;clear x) | rcases zp pa n with rfl | ⟨rfl,rfl⟩ | ⟨rfl,dd⟩)
 all_goals (first | (have x:=dd;clear x) | rcases Decidable.em (lo<=f) with h1 | dd)
 all_goals (first | (have x:=dd;clear x) | rcases Decidable.em (f<=hi) with h2 | dd)
 all_goals (first | (have x:=dd;clear x) | rcases Decidable.em ((m:Int)<=vs) with h3 | dd)
 all_goals (first | (have x:=dd;clear x) | rcases zs sq e with rfl | ⟨rfl,rfl⟩ | ⟨rfl,dd⟩)
 all_goals (first | (have x:=dd;clear x) | rcases zf 0 g with rfl | hg)
 all_goals (cases B<;>first | (exfalso;have h:=aa eB;clear eB;simp_all [Ll]<;>omega) | clear eB)
 all_goals (go_enter func127,ntmps127;go_wp2;go_ret;exact ⟨rfl,(ay.alloc ax _).alloc (by simp) _⟩)
abbrev qP (w:World) (G o:Nat) (se pa:Bool) (lo hi vs:Int) (sq jo:Bool):Prop:=w.cell? ⟨G,o,none⟩=some (.bool se)/\w.cell? ⟨G,o+1,none⟩=some (.bool pa)/\w.cell? ⟨G,o+2,none⟩=some (.int .i64 lo)/\w.cell? ⟨G,o+3,none⟩=some (.int .i64 hi)/\w.cell? ⟨G,o+4,none⟩=some (.int .i64 vs)/\w.cell? ⟨G,o+5,none⟩=some (.bool sq)/\w.cell? ⟨G,o+6,none⟩=some (.bool jo)
theorem qP.below {G o:Nat} {se pa:Bool} {lo hi vs:Int} {sq jo:Bool} (h:qP w G o se pa lo hi vs sq jo) (hb:Below w.heap.size w w'):qP w' G o se pa lo hi vs sq jo:=
 ⟨af h.1 hb,af h.2.1 hb,af h.2.2.1 hb,af h.2.2.2.1 hb,af h.2.2.2.2.1 hb,af h.2.2.2.2.2.1 hb,af h.2.2.2.2.2.2 hb⟩
theorem rP (k:Nat) (oe:1<=k) (z8:k<=13) (se pa:Bool) (lo hi vs:Int) (sq jo:Bool) (s f e g:Int) (p q:Option Addr) (n m c d:Nat) (w:World) (hT:qP w 0 (k*7) se pa lo hi vs sq jo) (B:Bool) (eB:Hid (Ll se pa lo hi vs sq s f n m e g=B)) :
  Calls prog 60 #[SQ k s (.slice p n c) f (.slice q m d) e g] w fun r w'=>r=.returned (.bool B)/\Below w.heap.size w w':=by
 have h1:(1:Int)<=(k:Int):=by omega
 have h2:(k:Int)<=13:=by omega
 have h3:(k:Int)<14:=by omega
 have h4:k<14:=by omega
 have h5:(0:Int)<=(k:Int):=by omega
 go_enter func60,ntmps60;go_wp2_with fail;obtain ⟨W,hW⟩:=ar (w.alloc (.cells #[.int .i64 k,.int .u64 s,.slice p n c,.int .i64 f,.slice q m d,.int .u64 e,.int .u64 g] 29));have bW:Below w.heap.size w W:=by rw [hW];exact ay.alloc ax _
 have hA:Mm W w.heap.size (.int .i64 k) (.int .u64 s) (.slice p n c) (.int .i64 f) (.slice q m d) (.int .u64 e) (.int .u64 g):=by rw [hW];simp [Mm,go_sem]
 have hTW:=hT.below bW;rw [<-hW];clear hW hT
 go_region_held3 (fun w'=>Mm w' w.heap.size (.int .i64 k) (.int .u64 s) (.slice p n c) (.int .i64 f) (.slice q m d) (.int .u64 e) (.int .u64 g)/\qP w' 0 (k*7) se pa lo hi vs sq jo) (first | exact ⟨hA,hTW⟩ | exact ⟨hA1,hT1⟩)
  (first | (go_at_call 127;refine (Ih se pa lo hi vs sq jo k s f e g p q n m c d _ B eB).mono ?_;rintro r w1 ⟨rfl,bf⟩;have cL:Below W.heap.size W w1:=(by first | exact bf | exact ai (Below.refl W.heap.size W).drew bf);have hA1:=hA.below cL;have hT1:=hTW.below cL))
 have b1:=ai bW cL;clear hA hTW hA1 hT1 bf cL bW;go_wp2;go_ret;exact ⟨rfl,b1⟩
theorem rG:∀ (l m:List Int),l.Nodup->(∀ x∈l,x∈m)->l.length<=m.length
 | [],m,_,_=>Nat.zero_le _
 | x::l,m,hd,hs=>by rw [List.nodup_cons] at hd;have hx:=hs x (by simp);have h:=rG l (m.erase x) hd.2 fun y hy=>(List.mem_erase_of_ne (fun e=>hd.1 (by rw [<-e];exact hy))).2 (hs y (by simp [hy]));rw [List.length_erase_of_mem hx] at h;have:=List.length_pos_of_mem hx;rw [List.length_cons];omega
theorem Ix {α:Type} [DecidableEq α] (c:α) (s:List α):((cG c s).map fun n=>n.length+1).sum=s.length+1:=by
 induction s with
 | nil=>rfl
 | cons x l ih=>
  rw [cG];split;{rw [List.map_cons,List.sum_cons,ih,List.length_cons,List.length_nil];omega};{
 cases h:cG c l with
 | nil=>have:=Iv c l;rw [h] at this;simp at this
 | cons n ns=>
  rw [h] at ih;simp only [List.map_cons,List.sum_cons,List.length_cons] at ih ⊢;omega}
theorem FM (C:Nat):∀ l:List Nat,(∀ x∈l,x<=C)->l.sum<=C*l.length
 | [],_=>Nat.zero_le _
 | x::l,h=>by have h1:=FM C l fun y hy=>h y (by simp [hy]);have h2:=h x (by simp);rw [List.sum_cons,List.length_cons,Nat.mul_succ];omega
theorem kR {p:List Int} (h:vp p=true):p.length<=136:=by
 cases p with
 | nil=>simp
 | cons c t=>
  rw [vp,st,Bool.and_eq_true,Bool.and_eq_true,decide_eq_true_eq,List.all_eq_true] at h;obtain ⟨-,h1,h2⟩:=h;have h3:=FM 17 ((cG 47 t).map fun n=>n.length+1) (fun x hx=>by obtain ⟨n,hn,rfl⟩:=List.mem_map.1 hx;have:=h2 n hn;simp only [gr,Bool.and_eq_true,decide_eq_true_eq] at this;omega)
  rw [Ix,List.length_map] at h3;rw [List.length_cons];omega

open Go.Deep
theorem Rd.J7 {H:Type} {enc:TypeId × Value->H} {n:Nat} {x:DataW H × List MemPlace} (h:DataW.trod enc prog w 0 (fun _=>true) true n 22 cs=some x) :
  ∃ (p:Option Addr) (l:List Int) (c:Nat),cs=[.slice p l.length c]/\Rd w (.slice p l.length c) l/\l.length<=maxLen/\(∀ z∈l,(Lit.int .u8 z).wf=true):=by
 rcases open_ints underlying22 underlying5 (by kernel_rfl) h with ⟨rfl,_⟩ | ⟨a,len,cap,zs,rfl,_,hl,hm,hz,_,bE,hwz⟩;{exact ⟨none,[],0,rfl,Rd.nil w,by simp,by simp⟩};{
 simp only [if_true] at hz;have e:(zs.take len).length=len:=by simp;omega
 refine ⟨some a,zs.take len,cap,by rw [e],?_,by omega,fun z h=>hwz z (List.mem_of_mem_take h)⟩;refine ⟨some a,cap,rfl,?_⟩;by_cases h0:len=0;{left;subst h0;simp}
 {
 right
 obtain ⟨b,o,spot⟩:=a;have hs:spot=none:=by simpa [Addr.add] using World.cell?_spot (bE 0 (by omega))
 subst hs;refine ⟨b,o,rfl,fun i hi=>?_⟩;rw [e] at hi;have:=bE i (by omega);simp only [Addr.add_lit] at this;rw [this];simp [List.getD,List.getElem?_take,hi]}}
theorem Rd.xQ {H:Type} {enc:TypeId × Value->H} {n:Nat} {x:DataW H × List MemPlace} (h:DataW.trod enc prog w 0 (fun _=>true) true n 22 cs=some x) :
  ∃ (p:Option Addr) (l:List Int) (c:Nat),cs=[.slice p l.length c]/\Rd w (.slice p l.length c) l/\l.length<=maxLen/\l.length<=c/\(∀ z∈l,0<=z/\z<256):=by
 obtain ⟨p,l,c,e,hr,hm,hw⟩:=Rd.J7 h;refine ⟨p,l,c,e,hr,hm,?_,fun z hz=>?_⟩;{rcases open_ints underlying22 underlying5 (by kernel_rfl) h with ⟨rfl,_⟩ | ⟨a,len,cap,zs,rfl,_,hl,_⟩;{simp at e;omega};{simp at e;omega}};{have:=hw z hz;simp [Lit.wf,IntKind.min,IntKind.max,IntKind.signed,IntKind.bits] at this;omega}
theorem aV (cd:List Int) (hb:∀ z∈cd,0<=z/\z<256) (t:Nat):0<=cd.getD t 0/\cd.getD t 0<256:=by
 by_cases h:t<cd.length;{rw [List.getD,aE h];exact hb _ (List.getElem_mem h)};{rw [List.getD,List.getElem?_eq_none (by omega)];simp}
theorem gM (x:Int) (n:Nat) (w:World) (hn:n<=300000) :
  Calls prog 81 #[.int .u8 x,.int .i64 n] w fun e w'=>∃ p' c',e=.returned (.slice p' n c')/\Own w.heap.size w' (.slice p' n c') (List.replicate n x)/\Below w.heap.size w w':=by
 go_enter func81,ntmps81;go_wp2
 go_loopw [5,6] (fun v i wr=>∃ (k:Nat) (p:Option Addr) (c:Nat) (l:List Int),k<=n/\i=.int .i64 k/\Hid (l=List.replicate k x)/\l.length=k/\v=.slice p k c/\Own w.heap.size wr (.slice p k c) l/\Below w.heap.size w wr) (fun _ i _=>n-(intOf i).toNat)
 case atStart=>exact ⟨0,none,0,[],Nat.zero_le _,rfl,rfl,rfl,rfl,World.ownsRow_nil _ _ _ _,Below.refl _ _⟩
 case round =>(
 obtain ⟨k,p,c,l,hk,rfl,el,hl,rfl,ho,aT⟩:=hrel;by_cases br:k<n;{
 obtain ⟨lm,Lq⟩:=ar (l++[x]);have Rg:lm.length=k+1:=by simp [Lq,hl]
 have HLM:=ae Rg;have XT:Hid (lm=List.replicate (k+1) x):=by show _=_;rw [Lq,aa el,List.replicate_succ']
 have Jo:=ae Lq;clear Rg el Lq;go_wp2_with (at_builtin;refine fL rfl _ _ rfl w.heap.size (.slice p k c) l lm x Jo wr.heap.size rfl rfl (Own.below ho (ay.alloc ax _)) (by simp) (by omega) (by have:=aT.size;simp;omega) ?_);intro p' c' w2 um dV;have b2:Below w.heap.size w w2:=(aT.alloc aT.size (.cells #[.int .u8 x] 5)).grown dV (by have:=aT.size;simp;omega) (fun k hk=>(ho.lt k hk).1);simp only [aa HLM];have TJ:Own w.heap.size w2 (.slice p' (k+1) c') lm:=by have h2:=um;simp only [aa HLM] at h2;exact h2
 clear um dV ho aT hl Jo;go_wp2;go_roundw
 case rel=>exact ⟨k+1,p',c',lm,by omega,by go_num,XT,HLM,rfl,TJ,b2⟩
 case measure=>simp [intOf];omega}
 {
 have e:k=n:=by omega
 subst e;rw [aa el] at ho;clear el hl;go_wp2;go_ret;exact ⟨p,c,rfl,ho,aT⟩})
theorem AM (p:Option Addr) (c:Nat) (l:List Int) (w:World) (hl:l.length<=1048576) (hc:l.length<=c) :
  Calls prog 30 #[.slice p l.length c] w fun e w'=>e=.returned (.pointer (some ⟨w.heap.size,0,none⟩))/\w'=w.alloc (.cells #[.slice p (l.take 500).length c,.int .i64 0] 117):=by
 by_cases h:500<l.length;{
 have e:(l.take 500).length=500:=by simp;omega
 rw [e];go_enter func30,ntmps30;go_wp2;go_ret;exact ⟨rfl,rfl⟩};{
 have e:(l.take 500).length=l.length:=by simp;omega
 rw [e];go_enter func30,ntmps30;go_wp2;go_ret;exact ⟨rfl,rfl⟩}
theorem Ch (l:List Int):l.take (l.take 500).length=l.take 500:=by
 by_cases h:500<=l.length;{rw [show (l.take 500).length=500 by simp;omega]};{rw [show (l.take 500).length=l.length by simp;omega,List.take_length,List.take_of_length_le (by omega)]}
theorem Rd.Ch (h:Rd w (.slice p l.length c) l):Rd w (.slice p (l.take 500).length c) (l.take 500):=by
 obtain ⟨q,d,e,hh⟩:=h;simp only [Value.slice.injEq] at e;obtain ⟨rfl,-,rfl⟩:=e;refine ⟨p,c,rfl,?_⟩;rcases hh with rfl | ⟨b,o,rfl,hc⟩;{left;rfl}
 {
 right
 refine ⟨b,o,rfl,fun i hi=>?_⟩;rw [List.length_take] at hi;rw [hc i (by omega)];simp [List.getD,List.getElem?_take,show i<500 by omega]}
theorem Rd.Ra (h:Rd w v l) (hl:l≠[]):∀ b,v.ownBlock=some b->b<w.heap.size:=by
 obtain ⟨p,cap,rfl,h⟩:=h;intro b e;rcases h with rfl | ⟨b',o,rfl,hc⟩;{exact absurd rfl hl};{simp [Value.ownBlock] at e;subst e;have hp:0<l.length:=List.length_pos_iff.2 hl;exact World.block_lt_of_cell? w _ (hc 0 hp)}
structure ji (w:World) (g:Nat) (p:Option Addr) (cd:List Int) (c t:Nat):Prop where
 c0:w.cell? ⟨g,0,none⟩=some (.slice p cd.length c)
 c1:w.cell? ⟨g,1,none⟩=some (.int .i64 (min t cd.length:Nat))
 ty:∃ cur,w.heap[g]?=some (.cells cur 117)
 rd:Rd w (.slice p cd.length c) cd
 lo:cd≠[]->∀ b,(Value.slice p cd.length c).ownBlock=some b->b<g
theorem ji.lt (h:ji w g p cd c t):g<w.heap.size:=World.block_lt_of_cell? w _ h.c0
theorem ji.fz (h:ji w g p cd c t) (o:Nat):w.frozen? ⟨g,o,none⟩=false:=by
 obtain ⟨cur,hc⟩:=h.ty;simp [World.frozen?,hc]
theorem Rd.Te (h:Rd w v l) (lo:l≠[]->∀ b,v.ownBlock=some b->b<B) (hb:∀ b,b<B->w'.heap[b]?=w.heap[b]?):Rd w' v l:=by
 obtain ⟨p,c,rfl,hd⟩:=h;refine ⟨p,c,rfl,?_⟩;rcases hd with hd | ⟨b,o,rfl,hd⟩;{exact .inl hd};{by_cases hl:l=[];{exact .inl hl};{exact .inr ⟨b,o,rfl,fun i hi=>(ah (hb b (lo hl b rfl)) _).trans (hd i hi)⟩}}
theorem ji.aM (h:ji w g p cd c t) (hb:∀ b,b<=g->w'.heap[b]?=w.heap[b]?):ji w' g p cd c t:=
 ⟨(ah (hb g ax) _).trans h.c0,(ah (hb g ax) _).trans h.c1,h.ty.imp fun cur hc=>(hb g ax).trans hc,h.rd.Te h.lo fun b hl=>hb b (by omega),h.lo⟩
theorem ji.low (h:ji w g p cd c t) (hb:Below B w w') (hB:g<B):ji w' g p cd c t:=by
 have:=h.lt;by_cases hz:B<=w.heap.size;{exact h.aM fun b hl=>hb.block b (by omega)};{exact h.aM fun b hl=>hb.block b (by omega)}
theorem ji.step (h:ji w g p cd c t) (br:t<cd.length):ji (w.setCell ⟨g,1,none⟩ (.int .i64 ((t:Int)+1))) g p cd c (t+1):=by
 have hh:∀ b,b≠g->(w.setCell ⟨g,1,none⟩ (.int .i64 ((t:Int)+1))).heap[b]?=w.heap[b]?:=fun b hb=>dt _ _ _ _ hb;refine ⟨?_,?_,(aZ h.ty).1,h.rd.Te h.lo fun b hl=>hh b (by omega),h.lo⟩;{rw [World.cell?_setCell_other w ⟨g,1,none⟩ ⟨g,0,none⟩ _ (by simp)];exact h.c0};{
 rw [World.cell?_setCell_same w ⟨g,1,none⟩ _ h.c1];have e:((min (t+1) cd.length:Nat):Int)=(t:Int)+1:=by omega
 rw [e]}
theorem ji.stay (h:ji w g p cd c t) (br:¬ t<cd.length):ji w g p cd c (t+1):=by
 refine ⟨h.c0,?_,h.ty,h.rd,h.lo⟩;rw [h.c1];have e:min t cd.length=min (t+1) cd.length:=by omega
 rw [e]
def Dr (g:Nat) (w w':World):Prop:=Fr [117] w w'/\Below g w w'/\∀ b,b≠g->b<w.heap.size->w'.heap[b]?=w.heap[b]?
theorem Dr.trans (h:Dr g w w1) (h2:Dr g w1 w2):Dr g w w2:=⟨h.1.trans h2.1,h.2.1.trans h2.2.1,fun b hb hl=>(h2.2.2 b hb (by have:=h.2.1.size;omega)).trans (h.2.2 b hb hl)⟩
theorem Dr.below (h:Below w.heap.size w w1) (hg:g<w.heap.size):Dr g w w1:=⟨Fr.below h,h.mono (by omega),fun b _ hl=>h.block b hl⟩
theorem Dr.refl (g:Nat) (w:World):Dr g w w:=⟨Fr.refl _ _,Below.refl _ _,fun _ _ _=>rfl⟩
theorem Dr.add (h:Dr g w w1) (h2:Below w.heap.size w1 w2) (hg:g<w.heap.size):Dr g w w2:=
 ⟨⟨Nat.le_trans h.1.1 h2.size,fun b cur ty m ht hb=>(h2.block b (cD hb)).trans (h.1.2 b cur ty m ht hb)⟩,h.2.1.trans (h2.mono (by omega)),fun b hb hl=>(h2.block b hl).trans (h.2.2 b hb hl)⟩
theorem cY (g:Nat) (p:Option Addr) (cd:List Int) (c t:Nat) (w:World) (h:ji w g p cd c t) (hb:bQ cd) (hl:cd.length<=500) :
  Calls prog 48 #[.pointer (some ⟨g,0,none⟩)] w fun e w'=>e=.returned (.int .i64 (cd.getD t 0))/\ji w' g p cd c (t+1)/\Dr g w w':=by
 obtain ⟨c0,c1,⟨cur,ty⟩,rd,lo⟩:=id h;by_cases br:t<cd.length;{
 have em:min t cd.length=t:=by omega
 rw [em] at c1;obtain ⟨q,d,e1,hh⟩:=id rd;simp only [Value.slice.injEq] at e1;obtain ⟨rfl,-,rfl⟩:=e1;rcases hh with rfl | ⟨b,o,rfl,hc⟩;{simp at br};{
 have mx:w.cell? ⟨b,o+t,none⟩=some (.int .u8 cd[t]):=by rw [hc t br];simp [br]
 have hx:=hb _ (List.getElem_mem br);have f1:=h.fz 1;have i1:(t:Int)<(cd.length:Int):=by omega
 have i0:(0:Int)<=(t:Int):=by omega
 have hng:¬ ((cd.length:Int)<=t):=by omega
 have ab2:decide ((cd.length:Int)<=t)=false:=by simp;omega
 have HG:Hid (cd.getD t 0=cd[t]):=by show _=_;simp [br]
 have H:=ae h;have HN:b≠g:=fun e=>by have:=lo (by intro e0;subst e0;simp at br) b rfl;omega
 have TY:=ae ty;clear hc rd lo h ty;go_enter func48,ntmps48;go_wp2
 go_quiet (fail)
 go_wp2
 go_quiet (fail)
 go_wp2;go_ret;exact ⟨by rw [HG.out];rfl,ji.step (ji.low (aa H) (below_drewN (Below.refl w.heap.size w) _) H.lt) br,Fr.set (w:=w.drewN _) (aa TY) (by simp),Below.setCell (p:=⟨g,1,none⟩) ((below_drewN (Below.refl w.heap.size w) _).mono (Nat.le_of_lt H.lt)) ax _,fun b' cL uw=>dt _ _ _ _ cL⟩}};{
 have em:min t cd.length=cd.length:=by omega
 rw [em] at c1;have ab2:decide ((cd.length:Int)<=(cd.length:Int))=true:=by simp
 have HG:Hid (cd.getD t 0=0):=by show _=_;rw [List.getD,List.getElem?_eq_none (by omega)];rfl
 have H:=ae h;clear rd lo h ty;go_enter func48,ntmps48;go_wp2
 go_quiet (fail)
 go_wp2;go_ret;exact ⟨by rw [HG.out];rfl,(H.low (below_drewN (Below.refl w.heap.size w) _) H.lt).stay br,Dr.below (below_drewN (Below.refl w.heap.size w) _) H.lt⟩}
theorem Tf (g:Nat) (p:Option Addr) (cd:List Int) (c t:Nat) (w:World) (h:ji w g p cd c t) (hl:cd.length<=500) :
  Calls prog 135 #[.pointer (some ⟨g,0,none⟩)] w fun e w'=>e=.returned (.int .i64 ((cd.length-t:Nat):Int))/\Below w.heap.size w w':=by
 have c0:=h.c0;have c1:=h.c1;have E:=ae (show ((cd.length-t:Nat):Int)=(cd.length:Int)-((min t cd.length:Nat):Int) by omega);obtain ⟨m,em⟩:=ar (min t cd.length);rw [<-em] at c1 E;have hm:m<=cd.length:=by omega
 generalize cd.length=n at *;clear h em;go_enter func135,ntmps135;go_wp2
 go_quiet (fail)
 go_wp2;go_ret;exact ⟨by rw [aa E];rfl,below_drewN ay _⟩
def Cc (B:Nat) (w:World) (v:Value) (l:List Int):Prop:=∃ g C,v=.slice (some ⟨g,0,none⟩) l.length C.size/\B<=g/\w.heap[g]?=some (.cells C 5 (C.size,C.size+1))/\C.size<=maxLen/\l.length<=C.size/\C.toList.take l.length=l.map (Value.int .u8)
theorem Cc.tb (h:Cc B w v l):TB w v l:=by
 obtain ⟨g,C,rfl,hB,hg,hm,hl,ht⟩:=h;refine ⟨⟨_,_,rfl,.inr ⟨g,0,rfl,fun i hi=>?_⟩⟩,fun b e=>.inr ?_,_,_,_,rfl,hl,hm⟩;{
 rw [Nat.zero_add,cell_of_row _ _ _ _ _ _ hg,<-Array.getElem?_toList];have:(C.toList.take l.length)[i]?=(l.map (Value.int .u8))[i]?:=by rw [ht]
 rw [List.getElem?_take,if_pos hi] at this;rw [this,List.getElem?_map,List.getD_eq_getElem?_getD,aE hi]
 rfl}
 {simp only [Value.ownBlock,Option.some.injEq] at e;subst e;exact ⟨C,_,hg⟩}
theorem Cc.lt (h:Cc B w v l):∀ b,v.ownBlock=some b->B<=b/\b<w.heap.size:=fun b e=>by
 obtain ⟨g,C,rfl,hB,hg,-⟩:=h;simp only [Value.ownBlock,Option.some.injEq] at e;subst e;exact ⟨hB,cD hg⟩
theorem Cc.fr {T:List TypeId} (h:Cc B w v l) (hf:Fr T w w') (ht:5∉T):Cc B w' v l:=by
 obtain ⟨g,C,rfl,hB,hg,r⟩:=h;exact ⟨g,C,rfl,hB,hf.2 _ _ _ _ ht hg,r⟩
theorem Cc.mono {B':Nat} (h:Cc B w v l) (hB:B'<=B):Cc B' w v l:=by
 obtain ⟨g,C,rfl,h1,r⟩:=h;exact ⟨g,C,rfl,by omega,r⟩
theorem rK (w:World) (hB:bQ l) (hl:l.length<=1048576):∃ c W,(convert 9 22 (.string (aY l))).run prog w=.ok (.slice (some ⟨w.heap.size,0,none⟩) l.length c) W/\Cc w.heap.size W (.slice (some ⟨w.heap.size,0,none⟩) l.length c) l/\Below w.heap.size w W:=by
 have du:=Lib.run_convert_string_bytes (P:=prog) w 9 22 5 (aY l) underlying9 underlying22 underlying5;rw [cW] at du;have MK:l.length<=grownCap w l.length 0 5:=grownCap_ge w l.length 0 5;have hle:grownCap w l.length 0 5<=maxLen:=grownCap_le_maxLen w l.length 0 5 (by unfold maxLen;omega);have hdl:(aY l).data.size=l.length:=cW l;have CM:(Lib.bytesCells w 5 (aY l)).size=grownCap w l.length 0 5:=by simp only [Lib.bytesCells,Array.size_append,Array.size_map,Array.size_replicate,hdl,cW];omega
 refine ⟨_,_,du,⟨w.heap.size,Lib.bytesCells w 5 (aY l),by rw [CM],Nat.le_refl _,Lib.bytesWorld_at_new w 5 (aY l),by rw [CM];exact hle,by rw [CM];exact MK,?_⟩,⟨rfl,rfl,rfl,by rw [Lib.bytesWorld_size];omega,fun k hk=>Lib.bytesWorld_at_old _ _ _ _ hk⟩⟩;simp only [Lib.bytesCells,Array.toList_append,Array.toList_map];have e:(aY l).data.toList.map (fun b=>Value.int .u8 b.toNat)=l.map (Value.int .u8):=by rw [fe,List.map_map];refine List.map_congr_left fun z hz=>?_;have:=hB z hz;simp;omega
 rw [e,List.take_append_of_le_length (by simp),List.take_of_length_le (by simp)]
theorem qE (P:Program) (g o:Nat) (t:TypeId) (fz:Nat × Nat):∀ (vs:List Value) (i:Nat) (cur:Array Value) (w:World),w.heap[g]?=some (.cells cur t fz)->o+i+vs.length<=fz.1->o+i+vs.length<=cur.size->(∀ v∈vs,v.oneCell'=true) →
  (storeCells ⟨g,o,none⟩ vs i).run P w=.ok () (w.setRow g (cur.toList.take (o+i)++vs++cur.toList.drop (o+i+vs.length)).toArray)
 | [],i,cur,w,hg,_,_,_=>by
  simp only [storeCells,List.append_nil,List.length_nil,Nat.add_zero,List.take_append_drop,Array.toArray_toList];rw [setRow_self w g cur t fz hg]
  rfl
 | v::rest,i,cur,w,hg,Jf,hl,h1=>by
  have hi:o+i<cur.size:=by simp at hl;omega
  have K4:(⟨g,o,none⟩:Addr).add i=⟨g,o+i,none⟩:=by unfold Addr.add;split<;>simp_all
  have bE:w.cell? ⟨g,o+i,none⟩=some cur[o+i]:=by simp [World.cell?,hg,hi]
  have ab3:w.frozen? ⟨g,o+i,none⟩=false:=by
   obtain ⟨lo,Je⟩:=fz;simp only [World.frozen?,hg,Bool.and_eq_false_iff,decide_eq_false_iff_not]
   left
   simp only [List.length_cons] at Jf;omega
  have cF:(store ((⟨g,o,none⟩:Addr).add i) v).run P w=.ok () (w.setRow g (cur.setIfInBounds (o+i) v)):=by rw [K4,run_store P w _ v _ (h1 v (by simp)),bE];simp [ab3,setCell_eq_setRow w g (o+i) cur t fz v hg]
  have ih:=qE P g o t fz rest (i+1) (cur.setIfInBounds (o+i) v) (w.setRow g (cur.setIfInBounds (o+i) v)) (setRow_heap w g cur _ t _ hg) (by simp at Jf ⊢;omega) (by simp at hl ⊢;omega) (fun x hx=>h1 x (by simp [hx]));simp only [storeCells,Sem.run_bind,cF,Result.andThen_ok,ih,setRow_setRow]
  congr 3
  have e:=list_seg_step cur.toList (o+i) v rest (by simp at hl ⊢;omega);simpa [Array.toList_setIfInBounds,Nat.add_assoc] using e
theorem QC (h:Cc B w v l) (hl:l.length<=1000) (x y:Int) (g2:Nat) (c0:w.cell? ⟨g2,0,none⟩=some (.int .u8 x)) (c1:w.cell? ⟨g2,1,none⟩=some (.int .u8 y)) (hB:B<=w.heap.size) :
  ∃ p' c' w',(Builtin.append_ #[22,22] 22 #[v,.slice (some ⟨g2,0,none⟩) 2 2]).run prog w=.ok (.slice p' (l.length+2) c') w'/\TB w' (.slice p' (l.length+2) c') (l++[x,y])/\w.grownBy w' v.ownBlock:=by
 obtain ⟨i,hi,hz,hs,hb⟩:=info_parts Tryz.infoByte;obtain ⟨g,C,rfl,hBg,hg,hm,hlc,ht⟩:=h;have dR:∀ j u,([.int .u8 x,.int .u8 y]:List Value)[j]?=some u->w.cell? ((⟨g2,0,none⟩:Addr).add j)=some u:=fun j u hu=>by rw [Addr.add_lit];rcases j with _ | _ | j;{simp at hu;subst hu;exact c0};{simp at hu;subst hu;exact c1};{simp at hu}
 have Ff:([.int .u8 x,.int .u8 y]:List Value).length=2*i.size:=by rw [hs];rfl
 by_cases oW:l.length+2<=C.size;{
 have hf:=run_firstCells_some (P:=prog) w i.size 2 ⟨g2,0,none⟩ 2 2 [.int .u8 x,.int .u8 y] Ff dR;have cF:=qE prog g (l.length*i.size) 5 (C.size,C.size+1) [.int .u8 x,.int .u8 y] 0 C w hg (by rw [hs];simp;omega) (by rw [hs];simp;omega) (fun u hu=>by simp at hu;rcases hu with rfl | rfl<;>rfl);simp only [Nat.add_zero,hs,Nat.mul_one] at cF;refine ⟨some ⟨g,0,none⟩,C.size,w.setRow g (C.toList.take l.length++[Value.int .u8 x,Value.int .u8 y]++C.toList.drop (l.length+2)).toArray,?_,⟨⟨_,_,by rw [List.length_append];rfl,.inr ⟨g,0,rfl,fun j hj=>?_⟩⟩,fun b e=>.inr ?_,_,_,_,rfl,oW,hm⟩,⟨rfl,rfl,rfl,by simp,fun k _ hk=>setRow_other w g k _ (fun e=>hk (by simp [Value.ownBlock,e]))⟩⟩;{rw [hs] at hf;simp [Builtin.append_,run_underlying underlying22,sizeOf,typeInfo,hi,Builtin.lenOf,oW,hf,Addr.add_lit,cF,hs]};{
 rw [Nat.zero_add,cell_of_row _ _ _ _ _ _ (setRow_heap w g C _ _ _ hg),List.getElem?_toArray,ht];rw [List.length_append] at hj;simp at hj;rw [List.getElem?_append_left (by simp;omega),List.getD_eq_getElem?_getD];by_cases h1:j<l.length;{
 rw [List.getElem?_append_left (by simpa using h1),List.getElem?_append_left h1,List.getElem?_map,aE h1]
 rfl}
 {
 rw [List.getElem?_append_right (by simpa using h1),List.getElem?_append_right (by omega)];simp only [List.length_map];have:j-l.length=0\/j-l.length=1:=by omega
 rcases this with e | e<;>rw [e]<;>rfl}}
 {simp only [Value.ownBlock,Option.some.injEq] at e;subst e;exact ⟨_,_,setRow_heap w g C _ _ _ hg⟩}};{
 have holds:∀ j u,(l.map (Value.int .u8))[j]?=some u->w.cell? ((⟨g,0,none⟩:Addr).add j)=some u:=fun j u hu=>by
  rw [Addr.add_lit,Nat.zero_add,cell_of_row _ _ _ _ _ _ hg,<-Array.getElem?_toList];have hj:j<l.length:=by have:=(aJ.1 hu).1;simpa using this
  have:(C.toList.take l.length)[j]?=(l.map (Value.int .u8))[j]?:=by rw [ht]
  rw [List.getElem?_take,if_pos hj] at this;rw [this,hu]
 have hr:=run_append_grow (P:=prog) w 22 22 5 i (.int .u8 0) underlying22 hi hz ⟨g,0,none⟩ l.length C.size (l.map (Value.int .u8)) (by rw [hs];simp) holds ⟨g2,0,none⟩ 2 2 [.int .u8 x,.int .u8 y] Ff dR (by omega) (by omega) (growslice_fits (by omega) (by rw [hb];omega));refine ⟨_,_,_,hr,⟨⟨_,_,by rw [List.length_append];rfl,.inr ⟨w.heap.size,0,rfl,fun j hj=>?_⟩⟩,fun b e=>.inr ?_,_,_,_,rfl,grownCap_ge _ _ _ _,grownCap_le_maxLen _ _ _ _ (by unfold maxLen;omega)⟩,⟨rfl,rfl,rfl,by simp,fun k hk _=>Go.heap_alloc_old w.drew _ hk⟩⟩;{
 rw [Nat.zero_add,cell_of_row _ w.heap.size _ _ _ _ (Go.heap_alloc_new w.drew _)];rw [List.length_append] at hj;simp at hj;rw [Array.getElem?_append_left (by simp;omega),show (l.map (Value.int .u8)).toArray++[Value.int .u8 x,.int .u8 y].toArray=((l++[x,y]).map (Value.int .u8)).toArray by simp,List.getElem?_toArray,List.getElem?_map,List.getD_eq_getElem?_getD,aE (by simp;omega)]
 rfl}
 {simp only [Value.ownBlock,Option.some.injEq] at e;subst e;exact ⟨_,_,Go.heap_alloc_new w.drew _⟩}}
def xM:List (List Int):=[[47,97],[47,97,47,120],[47,97,47,121],[47,98],[47,97,47,120,47,107],[47,98,45,49],[47,99],[47,122,122,47,116,111,112],[47,98,47,113],[47,97,47,120,47,107,47,109]]
def Oq:List (List Int):=[[],[47],[97],[47,47],[47,97,47],[47,65],[47,97,32,98],[47,97,97,97,97,97,97,97,97,97,97,97,97,97,97,97,97],[47,97,97,97,97,97,97,97,97,97,97,97,97,97,97,97,97,97],[47,49,47,50,47,51,47,52,47,53,47,54,47,55,47,56],[47,49,47,50,47,51,47,52,47,53,47,54,47,55,47,56,47,57],[47,95],[47,97,47,45],[47,97,0],[47,97,47,47,98]]
theorem FL {T:List (List Int)} (h:(T.all fun l=>decide (l.length<=18)&&l.all fun z=>decide (0<=z)&&decide (z<256))=true) (m:Nat):bQ (T.getD m [])/\(T.getD m []).length<=18:=by
 rw [List.getD_eq_getElem?_getD];cases hm:T[m]? with
 | none=>exact ⟨fun z hz=>by simp at hz,by simp⟩
 | some l=>
  have:=List.all_eq_true.1 h l (aF hm);simp only [Bool.and_eq_true,decide_eq_true_eq,List.all_eq_true] at this;exact ⟨fun z hz=>this.2 z hz,this.1⟩
theorem rE (m:Nat):bQ (xM.getD m [])/\(xM.getD m []).length<=18:=FL (by decide) m
theorem J8 (m:Nat):bQ (Oq.getD m [])/\(Oq.getD m []).length<=18:=FL (by decide) m
theorem jc (w:World):Calls prog 134 #[] w fun r w'=>r=.returned (.slice (some ⟨w.heap.size,0,none⟩) 10 10)/\(∀ m,m<10->w'.cell? ⟨w.heap.size,m,none⟩=some (.string (aY (xM.getD m []))))/\Below w.heap.size w w'/\w'.heap.size=w.heap.size+1/\∃ cur,w'.heap[w.heap.size]?=some (.cells cur 9):=by
 go_enter func134,ntmps134;go_wp2;go_ret;refine ⟨rfl,fun m hm=>?_,ay.alloc ax _,by simp,_,heap_alloc_new w _⟩;rw [cell_of_row _ _ _ _ _ _ (heap_alloc_new w _)];have:m=0\/m=1\/m=2\/m=3\/m=4\/m=5\/m=6\/m=7\/m=8\/m=9:=by omega
 rcases this with rfl | rfl | rfl | rfl | rfl | rfl | rfl | rfl | rfl | rfl<;>rfl
def WB (cd:List Int) (t:Nat) (P:List Int):Prop:=
 ∀ (g:Nat) (p:Option Addr) (c:Nat) (w:World),ji w g p cd c t->Calls prog 80 #[.pointer (some ⟨g,0,none⟩)] w fun r w'=>∃ pp cp,r=.returned (.slice pp P.length cp)/\Cc w.heap.size w' (.slice pp P.length cp) P/\ji w' g p cd c (t+1)/\Dr g w w'
theorem dW (cd:List Int) (t:Nat) (hb:bQ cd) (hl:cd.length<=500):∃ P,bQ P/\P.length<=18/\WB cd t P:=by
 have hr:=aV cd hb t;obtain ⟨x,ex⟩:=ar (cd.getD t 0);rw [<-ex] at hr;by_cases a1:x<200;{
 obtain ⟨m,hm,em⟩:∃ m:Nat,m<7/\x % 7=m:=⟨(x % 7).toNat,by omega,by omega⟩;obtain ⟨P,eP⟩:∃ P,Hid (xM.getD m []=P):=⟨_,ae rfl⟩;obtain ⟨bP,lP⟩:=rE m;rw [aa eP] at bP lP;refine ⟨P,bP,lP,fun g p c w h=>?_⟩;have EX:=ae ex;clear ex;go_enter func80,ntmps80;go_wp2_with fail;refine (cY g p cd c t _ h hb hl).mono ?_;rintro r w1 ⟨rfl,h1,d1⟩;rw [<-aa EX];go_wp2_with fail;refine (jc w1).mono ?_;rintro r w2 ⟨rfl,jN,b2,z2,-⟩;have wN:=jN m (by omega);rw [aa eP] at wN;obtain ⟨cc,W,hcv,rq,bW⟩:=rK w2 bP (by omega);have ZR:(m:Int)<10:=by omega
 have HH:=ae (ag h (ag h1 (ag d1 (ag b2 (ag rq (ag bW z2))))));clear jN h h1 d1 b2 rq bW bP lP z2;go_wp2;go_ret;obtain ⟨h,h1,d1,b2,rq,bW,z2⟩:=aa HH;have hz:=d1.2.1.size;have iu:=h1.lt;exact ⟨_,_,rfl,rq.mono (B':=w.heap.size) (by omega),(h1.low b2 h1.lt).low bW (by omega),(d1.trans (Dr.below b2 h1.lt)).trans (Dr.below bW (by omega))⟩};{
 by_cases a2:x<235;{
 obtain ⟨m,hm,em⟩:∃ m:Nat,m<10/\x % 10=m:=⟨(x % 10).toNat,by omega,by omega⟩;obtain ⟨P,eP⟩:∃ P,Hid (xM.getD m []=P):=⟨_,ae rfl⟩;obtain ⟨bP,lP⟩:=rE m;rw [aa eP] at bP lP;refine ⟨P,bP,lP,fun g p c w h=>?_⟩;have EX:=ae ex;clear ex;go_enter func80,ntmps80;go_wp2_with fail;refine (cY g p cd c t _ h hb hl).mono ?_;rintro r w1 ⟨rfl,h1,d1⟩;rw [<-aa EX];go_wp2_with fail;refine (jc w1).mono ?_;rintro r w2 ⟨rfl,jN,b2,z2,-⟩;have wN:=jN m (by omega);rw [aa eP] at wN;obtain ⟨cc,W,hcv,rq,bW⟩:=rK w2 bP (by omega);have ZR:(m:Int)<10:=by omega
 have HH:=ae (ag h (ag h1 (ag d1 (ag b2 (ag rq (ag bW z2))))));clear jN h h1 d1 b2 rq bW bP lP z2;go_wp2;go_ret;obtain ⟨h,h1,d1,b2,rq,bW,z2⟩:=aa HH;have hz:=d1.2.1.size;have iu:=h1.lt;exact ⟨_,_,rfl,rq.mono (B':=w.heap.size) (by omega),(h1.low b2 h1.lt).low bW (by omega),(d1.trans (Dr.below b2 h1.lt)).trans (Dr.below bW (by omega))⟩};{
 obtain ⟨m,hm,em⟩:∃ m:Nat,m<15/\x % 15=m:=⟨(x % 15).toNat,by omega,by omega⟩;obtain ⟨P,eP⟩:∃ P,Hid (Oq.getD m []=P):=⟨_,ae rfl⟩;obtain ⟨bP,lP⟩:=J8 m;rw [aa eP] at bP lP;refine ⟨P,bP,lP,fun g p c w h=>?_⟩;have EX:=ae ex;clear ex;go_enter func80,ntmps80;go_wp2_with fail;refine (cY g p cd c t _ h hb hl).mono ?_;rintro r w1 ⟨rfl,h1,d1⟩;rw [<-aa EX];go_wp2_with fail;refine (jc w1).mono ?_;rintro r w2 ⟨rfl,jN,b2,z2,-⟩;have aW5:(m:Int)<15:=by omega
 have HH:=ae (ag h (ag h1 (ag d1 (ag b2 z2))));clear jN h h1 d1 b2 z2
 go_upto_region 8 with fail
 generalize j8:w2.alloc _=W3;have b3:Below w2.heap.size w2 W3:=by rw [<-j8];exact ay.alloc ax _
 have z3:W3.heap.size=w2.heap.size+1:=by rw [<-j8];simp
 have wN:W3.cell? ⟨w2.heap.size,m,none⟩=some (.string (aY P)):=by
  rw [<-aa eP,<-j8,cell_of_row _ _ _ _ _ _ (heap_alloc_new w2 _)];have:m=0\/m=1\/m=2\/m=3\/m=4\/m=5\/m=6\/m=7\/m=8\/m=9\/m=10\/m=11\/m=12\/m=13\/m=14:=by omega
  rcases this with rfl | rfl | rfl | rfl | rfl | rfl | rfl | rfl | rfl | rfl | rfl | rfl | rfl | rfl | rfl<;>rfl
 obtain ⟨cc,W,hcv,rq,bW⟩:=rK W3 bP (by omega);have NF:=ae (ag b3 (ag rq (ag bW z3)));clear j8 b3 rq bW bP lP z3;go_wp2;go_ret;obtain ⟨h,h1,d1,b2,z2⟩:=aa HH;obtain ⟨b3,rq,bW,z3⟩:=aa NF;have hz:=d1.2.1.size;have iu:=h1.lt;exact ⟨_,_,rfl,rq.mono (B':=w.heap.size) (by omega),((h1.low b2 h1.lt).low b3 (by omega)).low bW (by omega),((d1.trans (Dr.below b2 h1.lt)).trans (Dr.below b3 (by omega))).trans (Dr.below bW (by omega))⟩}}
def Iu (x:Int):Int:=if x<230 then 1+x % 4 else if x<245 then x % 12 else 18446744073709551615-x % 3
theorem Ep {x:Int} (h:0<=x/\x<256):0<=Iu x/\Iu x<18446744073709551616:=by
 unfold Iu;split;{omega};{split<;>omega}
theorem BH (g:Nat) (p:Option Addr) (cd:List Int) (c t:Nat) (w:World) (h:ji w g p cd c t) (hb:bQ cd) (hl:cd.length<=500) :
  Calls prog 78 #[.pointer (some ⟨g,0,none⟩)] w fun r w'=>r=.returned (.int .u64 (Iu (cd.getD t 0)))/\ji w' g p cd c (t+1)/\Dr g w w':=by
 have hr:=aV cd hb t;go_enter func78,ntmps78;go_wp2_with fail;refine (cY g p cd c t _ h hb hl).mono ?_;rintro r w1 ⟨rfl,h1,d1⟩;obtain ⟨x,ex⟩:=ar (cd.getD t 0);rw [<-ex] at hr ⊢;have HH:=ae (ag h1 d1);have EX:=ae ex;clear ex h h1 d1;by_cases a1:x<230;{have E1:=ae (show Iu x=1+x % 4 by unfold Iu;rw [if_pos a1]);go_wp2;go_ret;exact ⟨by rw [<-aa EX,aa E1];rfl,aa HH⟩};{by_cases a2:x<245;{have E1:=ae (show Iu x=x % 12 by unfold Iu;rw [if_neg a1,if_pos a2]);go_wp2;go_ret;exact ⟨by rw [<-aa EX,aa E1];rfl,aa HH⟩};{have E1:=ae (show Iu x=18446744073709551615-x % 3 by unfold Iu;rw [if_neg a1,if_neg a2]);go_wp2;go_ret;exact ⟨by rw [<-aa EX,aa E1];rfl,aa HH⟩}}
theorem tX.YU {es:List Ev} (h:tX B w v es):iC w v es:=by
 obtain ⟨p,c,rfl,-,-,hp⟩:=RT.form h;refine ⟨p,c,rfl,?_⟩;by_cases h0:es=[];{exact .inl h0};{obtain ⟨g,rfl⟩:=hp (List.length_pos_iff.2 h0);refine .inr ⟨g,0,rfl,fun i e hi=>?_⟩;obtain ⟨cc,-,⟨P,ec,tP⟩,hc,-⟩:=RT.at h hi;subst ec;exact ⟨by have:=hc 0 _ rfl;simpa using this,P,by have:=hc 1 _ rfl;simpa using this,tP.1,tP.2.2⟩}
theorem de.YT {ss:List aL} {Qs:List Value} (h:de B w v ss Qs):gh w v ss:=by
 have hz:(ss.zip Qs).length=ss.length:=by rw [List.length_zip,h.len];simp
 obtain ⟨p,c,e,-,-,hp⟩:=RT.form h.row;rw [hz] at e hp;subst e;refine ⟨p,c,rfl,?_⟩;by_cases h0:ss=[];{exact .inl h0};{obtain ⟨g,rfl⟩:=hp (List.length_pos_iff.2 h0);refine .inr ⟨g,0,rfl,fun i s hi=>?_⟩;have vg:=(aJ.1 hi).1;obtain ⟨Q,hQ⟩:∃ Q,Qs[i]?=some Q:=⟨_,aE (by rw [h.len];exact vg)⟩;obtain ⟨cc,-,ec,hc,-⟩:=RT.at h.row (i:=i) (x:=(s,Q)) (by rw [List.getElem?_zip_eq_some];exact ⟨hi,hQ⟩);rw [show cc=_ from ec] at hc;exact ⟨by have:=hc 0 _ rfl;simpa using this,by have:=hc 1 _ rfl;simpa using this,Q,by have:=hc 2 _ rfl;simpa using this,(h.xm i s Q hi hQ).YU⟩}
theorem kL.news {a:Addr} (h:kL w (.slice (some a) l.length c) l):(l.map (Value.int .u64)).length=l.length*1/\(∀ j u,(l.map (Value.int .u64))[j]?=some u->w.cell? (a.add j)=some u)/\(∀ u∈l.map (Value.int .u64),u.oneCell'=true):=by
 refine ⟨by simp,fun j u hu=>?_,fun u hu=>by obtain ⟨n,-,rfl⟩:=List.mem_map.1 hu;rfl⟩;have hj:j<l.length:=by have:=(aJ.1 hu).1;simpa using this
 obtain ⟨p,c',e,hd⟩:=h;simp only [Value.slice.injEq] at e;obtain ⟨rfl,-,-⟩:=e;rcases hd with h0 | ⟨b,o,e1,hc⟩;{rw [h0] at hj;simp at hj};{simp only [Option.some.injEq] at e1;subst e1;rw [Addr.add_lit,hc j hj,<-hu];simp [List.getD_eq_getElem?_getD,hj]}
theorem Cz (p:Option Addr) (c n:Nat) (l:List Int) (en:Hid (l.length=n)) (w:World) (h:kL w (.slice p n c) l) (hl:n<=1048576) :
  Calls prog 155 #[.slice p n c] w fun e w'=>∃ p' c',e=.returned (.slice p' n c')/\gi w.heap.size w' (.slice p' n c') l/\Below w.heap.size w w':=by
 have e:=aa en;subst e;obtain ⟨i,hi,mX,ik,jv⟩:=info_parts Tryz.infoU64;go_enter func155,ntmps155;have uo:w.ownsRow w.heap.size 23 1 (.slice none 0 0) 0 []:=World.ownsRow_nil w _ _ 1;cases p with
 | none=>
  have e0:l=[]:=by obtain ⟨p,c',e,hd⟩:=h;simp only [Value.slice.injEq] at e;rcases hd with h0 | ⟨b,o,e1,hc⟩;{exact h0};{rw [e1] at e;simp at e}
  subst e0;have Ji:=dx (P:=prog) w w.heap.size 36 36 23 i 1 underlying36 hi _ _ _ c uo;go_wp2_with (at_builtin;refine Lib.wpList_append_run w rfl _ _ 36 36 rfl _ _ rfl rfl _ _ Ji ?_);go_ret;exact ⟨_,_,rfl,gi.nil _ _,Below.refl _ _⟩
 | some ad=>
  obtain ⟨n1,n2,n3⟩:=h.news;obtain ⟨v',w',hr,h1,h2,h3⟩:=oy w w.heap.size 36 i hi mX ik jv _ _ _ uo (ZT.nil w) ad l.length c (l.map (Value.int .u64)) n1 n2 n3 (by unfold maxLen;omega) (by omega) ax;go_wp2_with (at_builtin;refine Lib.wpList_append_run w rfl _ _ 36 36 rfl _ _ rfl rfl _ _ hr ?_);have ho:gi w.heap.size w' v' l:=⟨by simpa [mO] using h1,h3⟩;obtain ⟨p',c',rfl⟩:=ho.form;have hb:Below w.heap.size w w':=⟨h2.os,h2.tape,h2.output,h2.size,fun k hk=>h2.block k hk (by simp [Value.ownBlock])⟩;clear h1 h2 h3 hr n1 n2 n3 h;go_wp2;go_ret;exact ⟨_,_,rfl,ho,hb⟩
end Go.Proofs.YtcfcafeciggjeaaGreatDoor
