import Derived.Test.YtcfcafeciggjeaaGreatDoorK33
import Derived.Test.YtcfcafeciggjeaaGreatDoorK34
namespace Go.Proofs.YtcfcafeciggjeaaGreatDoor
set_option maxHeartbeats 6400000
set_option linter.unusedVariables false
set_option linter.unusedSimpArgs false
set_option maxRecDepth 100000
open Go.ChangeShapes Go.WideShapes Go.ChangeAt Go.RowKit Go.Maps
variable {B b bn bs i j k:Nat} {D:SD} {Ls:List (List Lf)} {f:aA->aA} {left:Lit->Bool} {nd nd' s:aA} {ns:List aA} {ss ss':List aL} {v:Value} {w w' w0:World}
def Vt (w:World) (x:List Int) (c:List Value) (l:List Lf):Prop:=∃ p cc,c=[.slice p x.length cc]/\Rd w (.slice p x.length cc) x/\EF (.slice p x.length cc) x l
theorem dI.qh {xs:List (List Int)} (h:dI Vt 22 1 B w v xs Ls):LU w v xs/\Dw w v xs Ls.flatten/\ja B w Ls.flatten/\∀ b,v.ownBlock=some b->B<=b/\b<w.heap.size:=by
 have br:=h.lt;obtain ⟨cs,h1,h2,h3,h4,h5,h6,h7⟩:=h;have key:∀ (i:Nat) (x:List Int) (l:List Lf),xs[i]?=some x->Ls[i]?=some l->∀ g cap,v=.slice (some ⟨g,0,none⟩) xs.length cap->∃ p c,w.cell? ⟨g,i,none⟩=some (.slice p x.length c)/\Rd w (.slice p x.length c) x/\EF (.slice p x.length c) x l:=fun i x l hx hl g cap ev=>by have hi:=(aJ.1 hx).1;obtain ⟨c,hc⟩:∃ c,cs[i]?=some c:=⟨_,aE (by omega)⟩;obtain ⟨p,cc,e1,e2,e3⟩:=h5 i x c l hx hc hl;subst ev;refine ⟨p,cc,?_,e2,e3⟩;have:=h4.cellAt (i*1+0) (by omega);rw [lW h3 hc (by omega),e1] at this;simpa using this
 rcases id h4.2 with ⟨rfl,h0⟩ | ⟨g,cap,cur,rfl,hb,hg,-⟩;{have e0:xs=[]:=List.length_eq_zero_iff.1 h0;subst e0;have e1:Ls=[]:=List.length_eq_zero_iff.1 h2;subst e1;exact ⟨⟨none,0,rfl,.inl rfl⟩,⟨none,0,[],rfl,rfl,rfl,.inl rfl⟩,h6,br.1⟩};{refine ⟨⟨_,cap,rfl,.inr ⟨g,0,rfl,fun i x hx=>?_⟩⟩,⟨_,cap,Ls,rfl,h2,rfl,.inr ⟨g,0,rfl,fun i x l hx hl=>?_⟩⟩,h6,br.1⟩;{obtain ⟨l,hl⟩:∃ l,Ls[i]?=some l:=⟨_,aE (by have:=(aJ.1 hx).1;omega)⟩;obtain ⟨p,c,q1,q2,-⟩:=key i x l hx hl g cap rfl;exact ⟨_,by rw [Nat.zero_add];exact q1,q2⟩};{obtain ⟨p,c,q1,-,q3⟩:=key i x l hx hl g cap rfl;exact ⟨p,c,by rw [Nat.zero_add,Nat.mul_one];exact q1,q3⟩}}
theorem dI.mono {α:Type} {el:World->α->List Value->List Lf->Prop} {ty:TypeId} {sz B':Nat} {xs:List α} (h:dI el ty sz B w v xs Ls) (hB:B'<=B):dI el ty sz B' w v xs Ls:=by
 obtain ⟨cs,h1,h2,h3,h4,h5,h6,h7⟩:=h;refine ⟨cs,h1,h2,h3,⟨h4.1,?_⟩,h5,h6.mono hB,h7⟩;rcases h4.2 with hn | ⟨g,cap,cur,rfl,hb,rest⟩;{exact .inl hn};{exact .inr ⟨g,cap,cur,rfl,by omega,rest⟩}
def Wa (w0 w:World) (b bs bn:Nat) (D:SD) (SB NB HB UB:List Nat) (n:Nat) (L:List (List Int)) (r:Ending) (w':World):Prop:=∃ p c Ls,PS w0 w' b bs bn D SB NB HB UB/\Fr T3 w w'/\r=.returned (fW 0 0 0 0 0 (.slice none 0 0) (.slice p n c) (.slice none 0 0))/\dI Vt 22 1 (w.heap.size+2) w' (.slice p n c) (L.map mw) Ls
structure CI (ss:List aL) (ns:List aA):Prop where
 so:xu ss
 nt:∀ nd∈ns,NT ss nd/\nd.holders.Pairwise (·<·)/\nd.holders.length<=1048576
 kd:KD ns
theorem NT.ids (h:NT ss nd) (hi:ss'.map (·.1)=ss.map (·.1)):NT ss' nd:=
 ⟨h.VH,h.pl,h.Q9,h.DA,fun i Je=>by obtain ⟨j,s,hj,e⟩:=Cy hi (h.xz i Je);exact ⟨s,aF hj,e⟩⟩
theorem xu.tell (ev:Ev):∀ (ids:List Int) {ss:List aL},xu ss->xu (gH ss ids ev)
 | [],ss,h=>h
 | a::r,ss,h=>xu.tell ev r (h.Lk a ev)
theorem KD.erase (h:KD ns) (k:Nat):KD (ns.eraseIdx k):=fun i j a c ha hc e=>by
 rw [List.getElem?_eraseIdx] at ha hc;by_cases hi:i<k<;>by_cases hj:j<k
 {rw [if_pos hi] at ha;rw [if_pos hj] at hc;exact h i j a c ha hc e};{rw [if_pos hi] at ha;rw [if_neg hj] at hc;have:=h i (j+1) a c ha hc e;omega};{rw [if_neg hi] at ha;rw [if_pos hj] at hc;have:=h (i+1) j a c ha hc e;omega};{rw [if_neg hi] at ha;rw [if_neg hj] at hc;have:=h (i+1) (j+1) a c ha hc e;omega}
theorem KD.paths {WR:List aA} (h:KD ns) (hp:WR.map (·.path)=ns.map (·.path)):KD WR:=fun i j a c ha hc e=>by
 have key:∀ (i:Nat) (a:aA),WR[i]?=some a->∃ a0,ns[i]?=some a0/\a0.path=a.path:=fun i a ha=>by
  have h1:(WR.map (·.path))[i]?=some a.path:=by rw [List.getElem?_map,ha];rfl
  rw [hp,List.getElem?_map] at h1;cases hn:ns[i]? with
  | none=>rw [hn] at h1;cases h1
  | some a0=>rw [hn] at h1;exact ⟨a0,rfl,by simpa using h1⟩
 obtain ⟨a0,h1,e1⟩:=key i a ha;obtain ⟨c0,h2,e2⟩:=key j c hc;exact h i j a0 c0 h1 h2 (by rw [e1,e2,e])
theorem iG (hk:ns[k]?=some nd) (hp:nd'.path=nd.path):(ns.set k nd').map (·.path)=ns.map (·.path):=by
 rw [List.map_set,hp];exact dX (by rw [List.getElem?_map,hk];rfl)
theorem CI.cw (h:CI ss ns) (id:Int):CI ss (ns.map (rJ id)):=by
 refine ⟨h.so,fun nd aK=>?_,h.kd.paths (by rw [List.map_map];rfl)⟩;obtain ⟨y,hy,rfl⟩:=List.mem_map.1 aK;obtain ⟨h1,h2,h3⟩:=h.nt y hy;exact ⟨⟨h1.VH,h1.pl,qB h1.Q9,Nat.le_trans (kP _ _) h1.DA,fun i hi=>h1.xz i (jk.1 hi).1⟩,h2,h3⟩
theorem CI.set (h:CI ss ns) (hk:ns[k]?=some nd) (hs:xu ss') (hi:ss'.map (·.1)=ss.map (·.1)) (hp:nd'.path=nd.path) (hw:nd'.watchers=nd.watchers\/nd'.watchers=[]) (hh:nd'.holders.Pairwise (·<·)/\nd'.holders.length<=1048576):CI ss' (ns.set k nd'):=by
 refine ⟨hs,fun x hx=>?_,h.kd.paths (iG hk hp)⟩;rcases List.mem_or_eq_of_mem_set hx with hx | rfl;{obtain ⟨h1,h2⟩:=h.nt x hx;exact ⟨h1.ids hi,h2⟩};{
 obtain ⟨h1,-⟩:=h.nt nd (aF hk);refine ⟨NT.ids ⟨by rw [hp];exact h1.VH,by rw [hp];exact h1.pl,?_,?_,?_⟩ hi,hh⟩;{
 rcases hw with e | e<;>rw [e]
 {exact h1.Q9};{exact List.Pairwise.nil}};{
 rcases hw with e | e<;>rw [e]
 {exact h1.DA};{simp}};{
 rcases hw with e | e<;>rw [e]
 {exact h1.xz};{intro i hi;cases hi}}}
theorem CI.tell (h:CI D.ss D.ns) (hk:D.ns[k]?=some nd) (kd:Int):CI (cX D k kd).ss (cX D k kd).ns/\(cX D k kd).ns.map (·.path)=D.ns.map (·.path)/\(cX D k kd).ss.map (·.1)=D.ss.map (·.1)/\(cX D k kd).ns[k]?=some { nd with watchers:=[] }:=by
 unfold cX;rw [hk];refine ⟨h.set hk (xu.tell _ _ h.so) (jC _ _ _) rfl (.inr rfl) (h.nt nd (aF hk)).2,iG hk rfl,jC _ _ _,bN hk _⟩
theorem CI.drop (h:CI D.ss D.ns) (hk:D.ns[k]?=some nd) (id:Int):CI (cE D k id).ss (cE D k id).ns/\(cE D k id).ns.map (·.path)=D.ns.map (·.path)/\(cE D k id).ss.map (·.1)=D.ss.map (·.1)/\∃ ia,(cE D k id).ns[k]?=some ia/\ia.owner=nd.owner/\ia.path=nd.path:=by
 unfold cE;rw [hk];obtain ⟨h1,h2,h3⟩:=h.nt nd (aF hk);by_cases hc:nd.holders.contains id=true;{
 simp only [hc,if_true];by_cases he:ju nd.holders id=[];{
 simp only [he,if_true];have z8:=bN hk { nd with holders:=[],mode:=0,aD:=0,gen:=0 }
 obtain ⟨q1,q2,q3,q4⟩:=CI.tell (D:={ D with ns:=D.ns.set k { nd with holders:=[],mode:=0,aD:=0,gen:=0 } }) (h.set hk h.so rfl rfl (.inl rfl) ⟨List.Pairwise.nil,by simp⟩) z8 3;exact ⟨q1,q2.trans (iG hk rfl),q3,_,q4,rfl,rfl⟩};{
 simp only [he,if_false];refine ⟨h.set hk h.so rfl rfl (.inl rfl) ⟨qB h2,Nat.le_trans (kP _ _) h3⟩,iG hk rfl,?_,_,bN hk _,rfl,rfl⟩
 first | trivial | rfl}}
 {simp only [hc];exact ⟨h,rfl,rfl,nd,hk,rfl,rfl⟩}
theorem CI.rm (h:CI D.ss D.ns) (k:Nat):CI (zO D k).ss (zO D k).ns:=⟨h.so,fun nd aK=>h.nt nd (List.mem_of_mem_eraseIdx aK),h.kd.erase k⟩
theorem tc {α:Type} (l:List α) (k:Nat) (hk:k<l.length):(l.eraseIdx k).drop k=l.drop (k+1):=by
 rw [List.eraseIdx_eq_take_drop_succ,List.drop_append,List.drop_take];simp [show min k l.length=k by omega]
theorem DQ (h:xu ss) {s:aL} (hi:ss[i]?=some s):DR s.1 ss=ss.eraseIdx i:=by
 have bq:∀ (j:Nat) (z:aL),ss[j]?=some z->z.1=s.1->j=i:=fun j z hj e=>by have hp:=List.pairwise_iff_getElem.1 h.pw;obtain ⟨l1,v1⟩:=aJ.1 hi;obtain ⟨l2,v2⟩:=aJ.1 hj;rcases Nat.lt_trichotomy i j with hh | hh | hh;{have:=hp i j l1 l2 hh;rw [v1,v2] at this;omega};{exact hh.symm};{have:=hp j i l2 l1 hh;rw [v1,v2] at this;omega}
 have key:∀ (l:List aL) (i:Nat),l[i]?=some s->(∀ (j:Nat) (z:aL),l[j]?=some z->z.1=s.1->j=i)->DR s.1 l=l.eraseIdx i:=by
  intro l
  induction l with
  | nil=>intro i hi;simp at hi
  | cons y r ih=>
   intro i hi hu;cases i with
   | zero=>
    simp at hi;subst hi;rw [List.eraseIdx_cons_zero,DR,List.filter_cons,if_neg (by simp),List.filter_eq_self.2];intro z hz;obtain ⟨j,hj⟩:=List.mem_iff_getElem?.1 hz;have:=hu (j+1) z (by simpa using hj);by_cases e:z.1=y.1;{have:=this e;omega};{simp [e]}
   | succ i=>
    have hy:¬ y.1=s.1:=fun e=>by have:=hu 0 y (by simp) e;omega
    rw [List.eraseIdx_cons_succ,DR,List.filter_cons,if_pos (by simp [hy]),<-DR,ih i (by simpa using hi) (fun j z hj e=>by have:=hu (j+1) z (by simpa using hj) e;omega)]
 exact key ss i hi bq
def kV (f:aA->aA) (left:Lit->Bool) (ns:List aA):List aA:=ns.map fun s=>if left (bL s.path) then s else f s
theorem xD (h:∀ s∈ns,left (bL s.path)=true):kV f left ns=ns:=by
 unfold kV;rw [List.map_congr_left (g:=id) (fun s hs=>by rw [if_pos (h s hs)];rfl),List.map_id]
theorem DB (h:∀ k,left k=false):kV f left ns=ns.map f:=by
 unfold kV;exact List.map_congr_left fun s _=>by rw [if_neg (by rw [h];simp)]
theorem FG {ss:List aA} (hs:ss[i]?=some s) (hl:left (bL s.path)=true):(kV f left ss)[i]?=some s:=by
 unfold kV;rw [List.getElem?_map,hs,Option.map_some,if_pos hl]
theorem Ao (hd:KD ns) (hs:ns[i]?=some s):(kV f left ns).set i (f s)=kV f (fun z=>left z&&!z.sameKey (bL s.path)) ns:=by
 refine List.ext_getElem? fun j=>?_;unfold kV;rw [List.getElem?_set,List.getElem?_map,List.getElem?_map,List.length_map];by_cases ej:i=j;{subst ej;have hkk:(bL s.path).sameKey (bL s.path)=true:=WideAt.sameKey_self (by unfold bL;trivial);rw [if_pos rfl,if_pos (aJ.1 hs).1,hs];simp [hkk]};{
 rw [if_neg ej];cases hj:ns[j]? with
 | none=>rfl
 | some z=>
  have bq:bL z.path≠bL s.path:=fun e=>ej (hd i j s z hs hj e.symm);simp [sameKey_ne bq]}
theorem PS.iter {SB NB HB UB:List Nat} (h:PS w0 w b bs bn D SB NB HB UB) {z:Nat} (O:One w0 w w' z) (n1:∀ cs ty,w.heap[z]?≠some (.cells cs ty)) (n2:∀ es c,w.heap[z]?≠some (.map es c)):PS w0 w' b bs bn D SB NB HB UB:=by
 have nc:∀ {y:Nat} {cs:Array Value} {ty:TypeId},w.heap[y]?=some (.cells cs ty)->y≠z:=fun hy e=>n1 _ _ (e▸hy);have nm:∀ {y:Nat} {es:Array MapEntry} {c:Nat},w.heap[y]?=some (.map es c)->y≠z:=fun hy e=>n2 _ _ (e▸hy);refine ⟨h.be.trans O.b,O.obj h.hd (nc h.hd),h.qU,?_,fun j s1 g1 iQ fN=>?_,h.snd,h.sw,h.hlen,h.ua,?_,fun j nd gb hh uu iQ fN h1 h2=>?_,h.Mt,h.lo,h.Ad⟩;{obtain ⟨M,n,o,r⟩:=h.qT;obtain ⟨es,c,hm⟩:=ownsMap_at o;exact ⟨M,n,O.map o (nm hm),r⟩};{have q:=h.ox j s1 g1 iQ fN;obtain ⟨-,u,h1,-⟩:=id q;exact q.aM O (nc h1)};{obtain ⟨M,n,o,r⟩:=h.mu;obtain ⟨es,c,hm⟩:=ownsMap_at o;exact ⟨M,n,O.map o (nm hm),r⟩};{have q:=h.lu j nd gb hh uu iQ fN h1 h2;obtain ⟨-,⟨V,q1,-⟩,q3,q4⟩:=id q;obtain ⟨es,c,m3⟩:=q3.at;obtain ⟨Vl,c',m4⟩:=q4.at;exact q.aM O (nc q1) (nm m3) (nm m4)}
open Go.Proofs.Tryz
theorem PS.blt {SB NB HB UB:List Nat} (h:PS w0 w b bs bn D SB NB HB UB):∀ z∈PL b bs bn SB NB HB UB,z<w.heap.size:=fun z hz=>by
 simp only [PL,List.mem_cons,List.mem_append] at hz;have key:∀ {l:List Nat} {i:Nat},l.length=D.ns.length->l[i]?=some z->∃ nd,D.ns[i]?=some nd:=fun hl hi=>⟨_,aE (by rw [<-hl];exact (aJ.1 hi).1)⟩;rcases hz with rfl | rfl | rfl | hz | hz | hz | hz;{exact aI h.hd};{obtain ⟨M,n,o,-⟩:=h.qT;exact o.lt};{obtain ⟨M,n,o,-⟩:=h.mu;exact o.lt};{obtain ⟨i,hi⟩:=List.mem_iff_getElem?.1 hz;obtain ⟨s,hs⟩:∃ s,D.ss[i]?=some s:=⟨_,aE (by rw [<-h.qU];exact (aJ.1 hi).1)⟩;obtain ⟨-,u,hc,-⟩:=h.ox i s z hs hi;exact aI hc};{obtain ⟨i,hi⟩:=List.mem_iff_getElem?.1 hz;obtain ⟨nd,aK⟩:=key h.sw hi;obtain ⟨g,hh,uu,h1,h2,h3,hN⟩:=h.nat aK;rw [hi] at h1;cases h1;obtain ⟨V,hb,-⟩:=hN.aB;exact aI hb};{obtain ⟨i,hi⟩:=List.mem_iff_getElem?.1 hz;obtain ⟨nd,aK⟩:=key h.hlen hi;obtain ⟨g,hh,uu,h1,h2,h3,hN⟩:=h.nat aK;rw [hi] at h2;cases h2;obtain ⟨es,c,hm⟩:=hN.Rh.at;exact aI hm};{obtain ⟨i,hi⟩:=List.mem_iff_getElem?.1 hz;obtain ⟨nd,aK⟩:=key h.ua hi;obtain ⟨g,hh,uu,h1,h2,h3,hN⟩:=h.nat aK;rw [hi] at h3;cases h3;obtain ⟨es,c,hm⟩:=hN.Mq.at;exact aI hm}
theorem One.ofI {z:Nat} (be:Below w0.heap.size w0 w) (hg:w.grownBy w' (some z)) (hz:w0.heap.size<=z) (hn:∀ cur ty m,w.heap[z]?≠some (.cells cur ty m)):One w0 w w' z:=
 ⟨(Below.refl w0.heap.size w).grown hg be.size (fun b e=>by cases e;exact hz),fun y hy bq=>hg.block y hy (fun e=>bq (by cases e;rfl)),fun cur ty m hc=>absurd hc (hn cur ty m)⟩
theorem Eh {SB NB HB UB:List Nat} {L:List Nat} (h:∀ z∈PL b bs bn SB NB HB UB,z∈L):∀ z∈PL b bs bn SB (NB.eraseIdx k) (HB.eraseIdx k) (UB.eraseIdx k),z∈L:=fun z hz=>h z (by
 simp only [PL,List.mem_cons,List.mem_append] at hz ⊢;rcases hz with h | h | h | h | h | h | h;{exact .inl h};{exact .inr (.inl h)};{exact .inr (.inr (.inl h))};{exact .inr (.inr (.inr (.inl h)))};{exact .inr (.inr (.inr (.inr (.inl (List.mem_of_mem_eraseIdx h)))))};{exact .inr (.inr (.inr (.inr (.inr (.inl (List.mem_of_mem_eraseIdx h))))))};{exact .inr (.inr (.inr (.inr (.inr (.inr (List.mem_of_mem_eraseIdx h))))))})
theorem uZ {α β:Type} (f:α->β):∀ (l:List α) (k:Nat),(l.eraseIdx k).map f=(l.map f).eraseIdx k
 | [],k=>by simp
 | a::r,0=>by simp
 | a::r,k+1=>by simp [uZ f r k]
theorem Gn {PP:List (List Int)} {P:List Int} (h:(ns.map (·.path)).drop i=PP.drop j) (hP:PP[j]?=some P):∃ nd,ns[i]?=some nd/\nd.path=P:=by
 have h1:(PP.drop j)[0]?=some P:=by rw [List.getElem?_drop];simpa using hP
 rw [<-h,List.getElem?_drop,Nat.add_zero,List.getElem?_map] at h1;cases hn:ns[i]? with
 | none=>rw [hn] at h1;cases h1
 | some nd=>rw [hn] at h1;exact ⟨nd,rfl,by simpa using h1⟩
theorem si {α:Type} {l PP:List α} (h:l.drop i=PP.drop j):l.drop (i+1)=PP.drop (j+1):=by
 have e1:l.drop (i+1)=(l.drop i).drop 1:=by rw [List.drop_drop]
 have e2:PP.drop (j+1)=(PP.drop j).drop 1:=by rw [List.drop_drop]
 rw [e1,e2,h]
structure CR (w0 Y w2 wr:World) (b bs bn:Nat) (SB:List Nat) (L:List Nat) (D:SD) (NB HB UB:List Nat):Prop where
 ps:PS w0 wr b bs bn D SB NB HB UB
 fr:Fr T3 Y wr
 kb:Kb L w2 wr
 sub:∀ z∈PL b bs bn SB NB HB UB,z∈L
 sz:w2.heap.size<=wr.heap.size
theorem IE (w:World) (b bs bn:Nat) (D:SD) (SB NB HB UB:List Nat) (h:Hid (PS w0 w b bs bn D SB NB HB UB)) (hC:Hid (CI D.ss D.ns)) (D6:Hid ((D.ns.map fun nd=>iZ nd.path).Pairwise (·<·))) (k:Nat) (s:aL) (hk:Hid (D.ss[k]?=some s)) (m:Nat) (em:Hid (D.ns.length=m)) (hm:m<=1048576) :
  Calls prog 257 #[.agg #[.int .u64 s.1],.pointer (some ⟨b,0,none⟩)] w fun r w'=>∃ QK QM Cb QF,Cd w0 w b bs bn (dw D s.1) QK QM Cb QF mR r w':=by
 obtain ⟨X,Y,hX,hY,bY,zX,zY,BX,RY⟩:=II w #[.int .u64 s.1] 200;have hid:=hC.so.rg s (aF (aa hk));have dC:=keyOf_int_mk underlying23 (kU hid);have PY:=h.below bY;obtain ⟨-,-,-,-,-,h5,-⟩:=PY.gw;obtain ⟨M,n,oN,hn,mN,zN⟩:=PY.mu;have WL:=h.be.size;have Bn:Hid (∀ nd∈D.ns,Maps.has M (bL nd.path)=true):=fun nd aK=>by obtain ⟨i,hi⟩:=List.mem_iff_getElem?.1 aK;obtain ⟨gz,_,_,KL,_,_⟩:=PY.nat hi;exact (mN.hs _).2 ⟨(bL nd.path,gz),by rw [List.mem_iff_getElem?];exact ⟨i,by rw [List.getElem?_zipWith,hi,KL]⟩,rfl⟩
 have HY:=ae (ag PY (ag BX RY));have HBY:=ae bY;have HZY:=ae zY;have MN:=ae mN;have aZ8:w0.heap.size<=Y.heap.size:=by omega
 rw [hY,hX] at h5 oN;clear PY BX RY bY zX zY mN zN;go_enter func257,ntmps257;go_wp2_with (first
  | (at_range;refine wpList_range_own _ rfl _ 130 rfl 9 _ lD underlying130 _ bn n _ rfl oN ?_;intro w1 my ri GP)
  | go_in)
 go_frame
 rw [<-hX,<-hY] at my ri ⊢;obtain ⟨r1,Im⟩:=ar Y.heap.size;rw [<-Im] at my ⊢;have ER:=ae Im;have b1:Below Y.heap.size Y w1:=(Below.refl Y.heap.size Y).grown ri ax (fun j hj=>by cases hj);have P1:=ae (HY.1.below b1);have F1:=ae (Fr.below (T:=T3) b1);have Ty:w0.heap.size<=r1:=by omega
 clear Im hX hY h5 oN ri GP b1
 go_loopw [6] (fun _ wr=>∃ (left:Lit->Bool) (kc:Nat),wr.ranges prog 9 aQ bn r1 n M left kc/\Hid (PS w0 wr b bs bn { D with ns:=kV (rJ s.1) left D.ns } SB NB HB UB)/\Hid (Fr T3 Y wr)) (fun _ wr=>wr.rangeLeft bn r1)
 case atStart=>exact ⟨_,_,my,by rw [xD (aa Bn)];exact P1,F1⟩
 case round =>(
 obtain ⟨left,kc,kK,UP,pT⟩:=hrel;go_wp2_with (first
  | (at_next;refine fG _ rfl _ rfl 9 lD (fun s:ByteArray=>.string s) OJ bn r1 n _ _ MN _ _ rfl kK ?_ ?_)
  | go_in)
 {
 intro _ rh;have vh:=aa UP;rw [DB rh] at vh;have IZ:=ae (hC.cw s.1);obtain ⟨D1,Nq⟩:∃ D1:SD,D1={ D with ns:=D.ns.map (rJ s.1) }:=⟨_,rfl⟩;have KG:D1.ns.length=m:=by rw [Nq,List.length_map];exact aa em
 have hPP:D1.ns.map (·.path)=D.ns.map (·.path):=by rw [Nq,List.map_map];rfl
 rw [<-Nq] at vh;obtain ⟨-,-,-,-,-,h5,-⟩:=vh.gw;obtain ⟨M2,nn,oM,Rc,mM,zM⟩:=vh.mu;have hNM:=vh.sto.jR;have E1:=ae Nq;obtain ⟨Y2,Qn⟩:=ar wr;subst Qn;have P2:=ae vh;have HL1:=ae KG;have HPP:=ae hPP;have iQ:D1.ss=D.ss:=by rw [Nq]
 have B8:=ae iQ;have ZE:Hid ((D1.ns.map fun nd=>iZ nd.path).Pairwise (·<·)):=by show List.Pairwise _ _;rw [Nq,List.map_map];exact D6
 have kN:Hid (CI D1.ss D1.ns):=by rw [Nq];exact IZ
 clear rh UP kK vh KG hPP Nq IZ iQ;go_wp2_with fail;refine (T.iq bn nn M2 Y2 oM (by rw [zM,aa HL1];exact hm)).mono ?_;rintro r w2 ⟨kv,ks,rfl,Dn,zQ,aS⟩;obtain rfl:=sr hNM ZE mM Dn;obtain ⟨p,c,rfl,yB⟩:=Cr zQ;rw [aa HL1];have HK:=ae yB;obtain ⟨DF,eDF⟩:∃ DF,Hid (bO s.1 m 0 D1=DF):=⟨_,ae rfl⟩;have hzK:=P2.blt;have HZK:=ae hzK;have CR2:=ae (show CR w0 Y w2 w2 b bs bn SB (PL b bs bn SB NB HB UB) D1 NB HB UB from ⟨P2.below aS,pT.trans (Fr.below aS),fun z _ _=>rfl,fun z hz=>hz,Nat.le_refl _⟩);clear yB zQ Dn oM mM hNM zM aS h5 hzK;go_wp2
 go_loopw [31] (fun iv wr=>∃ (j i:Nat) (Dk:SD) (Nz NI Nx:List Nat),j<=m/\iv=.int .i64 j/\Hid (bO s.1 (m-j) i Dk=DF)/\Hid ((Dk.ns.map (·.path)).drop i=(D1.ns.map (·.path)).drop j)/\Hid (CI Dk.ss Dk.ns)/\Hid (Dk.ss.map (·.1)=D1.ss.map (·.1))/\Hid (CR w0 Y w2 wr b bs bn SB (PL b bs bn SB NB HB UB) Dk Nz NI Nx)) (fun iv _=>m-(intOf iv).toNat)
 case atStart=>exact ⟨0,0,D1,NB,HB,UB,Nat.zero_le _,rfl,eDF,(by show _=_;rfl),kN,(by show _=_;rfl),CR2⟩
 case round =>(
 obtain ⟨j,i,Dk,Nz,NI,Nx,hj,rfl,hDF,MZ,qM,U5,hR⟩:=hrel;obtain ⟨-,-,-,-,h4,h5,-⟩:=hR.ps.gw;have cB:wr.cell? ⟨w.heap.size,0,none⟩=some (.int .u64 s.1):=aC (hR.fr.2 _ _ _ _ (by decide) HY.2.1) 0;by_cases br:j<m;{
 have bt:(j:Int)<(m:Int):=by omega
 obtain ⟨x,hx⟩:∃ x,D1.ns[j]?=some x:=⟨_,aE (by rw [aa HL1];exact br)⟩;obtain ⟨gk,rfl,MT⟩:∃ gk,p=some ⟨gk,0,none⟩/\wr.cell? ⟨gk,j,none⟩=some (.string (aY x.path)):=by rcases aa HK with h0 | ⟨gk,rfl,h1,h2,h3⟩;{rw [h0] at hx;simp at hx};{refine ⟨gk,rfl,?_⟩;have h4:=h3 j x hx;rw [Nat.zero_add] at h4;exact (ah (hR.kb gk h2 (fun hm=>by have:=aa HZK gk hm;omega)) j).trans h4}
 obtain ⟨nd,hi,hpe⟩:=Gn (aa MZ) (P:=x.path) (by rw [List.getElem?_map,hx];rfl);rw [<-hpe] at MT;obtain ⟨hT,Xp,hhl⟩:=qM.nt nd (aF hi);obtain ⟨g,hh,uu,hg,mB,mY,hN,hlk⟩:=hR.ps.Gw hi hT.pl;obtain ⟨B,eB⟩:∃ B,Hid (nd.holders.contains s.1=B):=⟨_,ae rfl⟩;have qy:=ae (ag hi (ag hg (ag mB mY)));have HT:=ae (ag hT (ag Xp hhl));have HN:=ae hN;have HCB:=ae (fun (v:World) (hv:Fr T3 wr v)=>aC (hv.2 _ _ _ _ (by decide) (hR.fr.2 _ _ _ _ (by decide) HY.2.1)) 0);clear hx hpe hi hT Xp hhl hg mB mY hN;go_wp2_with fail;clear MT hlk h5;refine (Hk wr g hh uu nd HN s.1 hid B eB).mono ?_;rintro r w5 ⟨rfl,j7⟩;have B5:=ae j7;have cB5:=aa HCB w5 (Fr.below j7);obtain ⟨D2,Qq⟩:∃ D2,Hid (cE Dk i s.1=D2):=⟨_,ae rfl⟩;clear j7 cB
 go_upto_if 44 with fail
 go_cut [] (fun wd=>Hid (PS w0 wd b bs bn D2 SB Nz NI Nx)/\Hid (Fr T3 wr wd)/\Hid (Kb (PL b bs bn SB Nz NI Nx) wr wd))
 case first =>(
 cases B;{
 go_wp2_with fail;go_meet;have e2:D2=Dk:=by have:=te qy.1 eB;exact Qq.symm.trans this
 rw [e2];exact ⟨ae (hR.ps.below B5),ae (Fr.below B5),ae (Kb.below B5)⟩};{go_wp2_with fail;refine (DJ w5 b bs bn Dk SB Nz NI Nx (ae (hR.ps.below B5)) i nd (ae qy.1) (ae qM.so) (ae HT.1) s.1 hid (ae HT.2.1) HT.2.2 eB).mono ?_;rintro r w6 ⟨P6,⟨F6,K6⟩,v6,rfl⟩;rw [aa Qq] at P6;have HP6:=ae P6;have HF6:=ae ((Fr.below B5).trans F6);have HK6:=ae ((Kb.below B5).trans K6 B5.size);clear P6 F6 K6;go_wp2_with fail;go_meet;exact ⟨HP6,HF6,HK6⟩})
 case rest =>(
 obtain ⟨P6,F6,K6⟩:=hcut;obtain ⟨q1,q2,q3,ia,q4,q5,q6⟩:=CI.drop qM qy.1 s.1;rw [aa Qq] at q1 q2 q3 q4;have N6:=P6.lu i ia g hh uu q4 qy.2.1 qy.2.2.1 qy.2.2.2;obtain ⟨V6,-,-,-,n1,-⟩:=N6.cells;have cB6:=aa HCB wc F6;have cF:=qN (m:=m-j+i) (k:=i) (by omega) Qq q4;have PQ:=aa hDF;rw [show m-j+i-i=m-j by omega] at cF;rw [cF] at PQ;have GR:(D2.ns.map (·.path)).drop i=(D1.ns.map (·.path)).drop j:=by rw [q2];exact aa MZ
 have YM:w2.heap.size<=wc.heap.size:=Nat.le_trans hR.sz F6.1;have kb6:=hR.kb.trans (K6.mono hR.sub) hR.sz;have fr6:=hR.fr.trans F6;have HQ:=ae (ag q1 (ag (q3.trans (aa U5)) (ag q4 (ag GR PQ))));have Md:=ae (ag YM (ag kb6 fr6));have HQ6:=ae q6;clear N6 q1 q2 q3 q4 q6 cF PQ GR YM kb6 fr6;go_wp2_with fail;refine lZ (by kernel_rfl) (fun W eW=>?_);have bW:Below wc.heap.size wc W:=by rw [eW];exact ay.drew
 have n1':=af n1 bW;have cB7:=af cB6 bW;have BW:=ae bW;clear eW n1 cB6 bW cB5 h4
 repeat still_step
 refine wpStill_nil ?_;by_cases ho:ia.owner=s.1;{
 have Rb:(ia.owner==s.1)=true:=by simp [ho]
 have e7:=HQ.2.2.2.2;rw [if_pos ho,show m-j+i-1-i=m-(j+1) by omega] at e7;have E7:=ae e7;have T7:=CI.tell HQ.1 HQ.2.2.1 2;have HRM:=Gi W b bs bn D2 SB Nz NI Nx (ae (P6.below BW)) i ia (ae HQ.2.2.1) (ae HQ.1.so) (ae (HQ.1.nt ia (aF HQ.2.2.1)).1) (ae HQ.1.kd);rw [aa HQ6] at HRM;have am5:=ae HRM;have vg:i<D2.ns.length:=(aJ.1 HQ.2.2.1).1;have ZH:Hid (((zO (cX D2 i 2) i).ns.map (·.path)).drop i=(D1.ns.map (·.path)).drop (j+1)):=by show List.drop i (List.map _ (List.eraseIdx _ _))=_;rw [uZ,T7.2.1,tc _ _ (by rw [List.length_map];exact vg)];exact si HQ.2.2.2.1
 have C7:=ae (CI.rm T7.1 i);have I7:Hid ((zO (cX D2 i 2) i).ss.map (·.1)=D1.ss.map (·.1)):=T7.2.2.1.trans HQ.2.1;clear ho e7 T7 HRM vg;go_wp2_with fail;refine am5.mono ?_;rintro r w7 ⟨P7,⟨F7,K7⟩,v7,rfl⟩;have R7:=ae (show CR w0 Y w2 w7 b bs bn SB (PL b bs bn SB NB HB UB) (zO (cX D2 i 2) i) (Nz.eraseIdx i) (NI.eraseIdx i) (Nx.eraseIdx i) from ⟨P7,(Md.2.2.trans (Fr.below BW)).trans F7,(Md.2.1.trans (Kb.below BW) Md.1).trans (K7.mono hR.sub) (by have:=BW.size;have:=Md.1;omega),Eh hR.sub,by have:=BW.size;have:=Md.1;have:=F7.1;omega⟩);clear P7 F7 K7 n1' cB7;go_wp2;go_roundw
 case rel=>exact ⟨j+1,i,_,_,_,_,by omega,by go_num,E7,ZH,C7,I7,R7⟩
 case measure=>simp [intOf];omega}
 {
 have Rb:(ia.owner==s.1)=false:=by simp [ho]
 have e7:=HQ.2.2.2.2;rw [if_neg ho,show m-j+i-(i+1)=m-(j+1) by omega] at e7;have E7:=ae e7;have ZH:=ae (si HQ.2.2.2.1);have C7:=ae HQ.1;have I7:=ae HQ.2.1;have R7:=ae (show CR w0 Y w2 W b bs bn SB (PL b bs bn SB NB HB UB) D2 Nz NI Nx from ⟨P6.below BW,Md.2.2.trans (Fr.below BW),Md.2.1.trans (Kb.below BW) Md.1,hR.sub,by have:=BW.size;have:=Md.1;omega⟩);clear ho e7;go_wp2;go_roundw
 case rel=>exact ⟨j+1,i+1,_,_,_,_,by omega,by go_num,E7,ZH,C7,I7,R7⟩
 case measure=>simp [intOf];omega})}
 {
 have bt:¬ (j:Int)<(m:Int):=by omega
 have e7:=aa hDF;rw [show m-j=0 by omega,bO] at e7;subst e7;have hFY:=hR.fr;have Ec:(Dk.ss.map (·.1))[k]?=some s.1:=by rw [aa U5,aa B8,List.getElem?_map,aa hk];rfl
 obtain ⟨s2,z8,es2⟩:∃ s2,Dk.ss[k]?=some s2/\s2.1=s.1:=by
  rw [List.getElem?_map] at Ec;cases hq:Dk.ss[k]? with
  | none=>rw [hq] at Ec;cases Ec
  | some s2=>rw [hq] at Ec;exact ⟨s2,rfl,by simpa using Ec⟩
 have Wq:=ae (ag z8 es2);clear Ec z8 es2;go_wp2_with fail;refine rU 6 (by kernel_rfl) (fun W eW=>?_);have bW:Below wr.heap.size wr W:=by rw [eW];exact ay.drew
 have PW:=hR.ps.below bW;have FW:=hFY.trans (Fr.below (T:=T3) bW);have c0:W.cell? ⟨w.heap.size,0,none⟩=some (.int .u64 s.1):=aC (FW.2 _ _ _ _ (by decide) HY.2.1) 0;obtain ⟨-,-,-,-,k4,-⟩:=PW.gw;obtain ⟨M4,n4,o4,hn4,s4,z4⟩:=PW.qT;obtain ⟨Z,du,ho,oU⟩:=o4.drop gD underlying129 dC 0;have OZ:=One.SR PW.be oU.grown PW.lo.2.1 (ownsMap_at o4);have PZ:=PW.aj3 Wq.1 OZ (fun j' z' Fb e'=>by
  have TE:=List.pairwise_iff_getElem.1 qM.so.pw;obtain ⟨l1,v1⟩:=aJ.1 Wq.1;obtain ⟨l2,v2⟩:=aJ.1 Fb;rcases Nat.lt_trichotomy k j' with hh | hh | hh;{have:=TE k j' l1 l2 hh;rw [v1,v2] at this;omega};{exact hh.symm};{have:=TE j' k l2 l1 hh;rw [v1,v2] at this;omega}) (fun M' n' o'=>by
  rw [Wq.2];obtain ⟨w2',yr,um,-⟩:=o'.drop gD underlying129 dC 0;rw [du] at yr;cases yr;exact um)
 have eCl:dw D s.1={ Dk with ss:=Dk.ss.eraseIdx k }:=by have e9:=aa eDF;rw [aa E1,<-aa em] at e9;unfold dw;rw [e9,<-DQ qM.so Wq.1,Wq.2]
 rw [<-eCl] at PZ;have HPZ:=ae PZ;have FZ0:=FW.trans OZ.fr;have FZ:=ae ((Fr.below (T:=T3) HBY).trans FZ0);have RZ0:=HY.2.2.fr FZ0 (by decide);obtain ⟨r0,r1',r2,r3,r4,r5,r6,r7,rf⟩:=RZ0.cells;have RZ:=ae RZ0;clear eW PZ OZ ho oU o4 s4 z4 PW FW FZ0 RZ0 eCl h4 h5 hFY;simp only [List.take_succ_cons,List.take_zero,List.drop_succ_cons,List.drop_zero]
 repeat still_step
 refine wpStill_nil ?_;go_wp2;exact Cq RZ (by kernel_rfl) rfl rfl ⟨_,_,_,_,PS.rep HPZ RZ (by omega) _ _ _ _ _ _ _ _,FZ.low ((aU Z (w.heap.size+1) _ _ _ _ _ _ _ _).mono (by omega)),rfl⟩})}
 {
 intro i0 pl g1 w4 rz Uj hp Xj re br fN Tv wF;obtain ⟨j,z,XN,hj,Xr,ee⟩:=gm hp;simp only [Prod.mk.injEq] at ee;obtain ⟨rfl,rfl⟩:=ee;have Fg:∀ cur ty m,wr.heap[r1]?≠some (.cells cur ty m):=fun cur ty m e=>by obtain ⟨es,clock,since,seen,c0,-,-,-,-,hi,-⟩:=kK;rw [hi] at e;cases e
 have zR:∀ es c,wr.heap[r1]?≠some (.map es c):=fun es c e=>by obtain ⟨es,clock,since,seen,c0,-,-,-,-,hi,-⟩:=kK;rw [hi] at e;cases e
 have O4:=One.ofI UP.be fN Ty Fg;have P4:=UP.iter O4 (fun cs ty=>Fg cs ty _) zR;have F4:=pT.trans O4.fr;have fo:=FG (f:=rJ s.1) hj Xj;obtain ⟨g9,hh,uu,z1,z2,z3,N4⟩:=P4.nat fo;rw [Xr] at z1;cases z1;have Pq:(Instr.entry (.pointer (some ⟨r1,0,none⟩))).run prog w4=.ok (.tuple #[.string i0,.pointer (some ⟨g1,0,none⟩)]) w4:=wF;have Ju:=ae (ag P4 (ag F4 fo));have HRG:=ae (ag re br);have qy:=ae (ag hj (ag Xr (ag z2 z3)));have HM:=ae (ag kK.left_eq re.left_eq);clear Fg zR O4 P4 F4 fo N4 re br fN Tv hp Uj UP pT wF z2 z3 Xr hj;go_wp2_with fail;refine rU 6 (by kernel_rfl) (fun W eW=>?_);have bW:Below w4.heap.size w4 W:=by rw [eW];exact ay.drew
 have PW:=Ju.1.below bW;have NW:=PW.lu j z g1 hh uu Ju.2.2 qy.2.1 qy.2.2.1 qy.2.2.2;obtain ⟨V,-,-,-,-,-,-,-,-,n6,-⟩:=NW.cells;have FW:=Ju.2.1.trans (Fr.below (T:=T3) bW);have c0:W.cell? ⟨w.heap.size,0,none⟩=some (.int .u64 s.1):=aC (FW.2 _ _ _ _ (by decide) HY.2.1) 0;obtain ⟨M4,n4,o4,hn4,s4,z4⟩:=NW.Mq;obtain ⟨Z,du,ho,oU⟩:=o4.drop gD underlying84 dC 0;have OZ:=One.SR PW.be oU.grown NW.lo.2.2 (ownsMap_at o4);have SZ:=SM.del (w:=W) s4 (hC.nt z (aF qy.1)).1.Q9 hn4 ho;have PZ:=PW.Mq Ju.2.2 qy.2.1 qy.2.2.1 qy.2.2.2 OZ SZ;have Il:=Ao (f:=rJ s.1) (left:=left) hC.kd qy.1;have PZ':Hid (PS w0 Z b bs bn { D with ns:=kV (rJ s.1) (fun z'=>left z'&&!z'.sameKey (bL z.path)) D.ns } SB NB HB UB):=by have:=PZ;simp only at this;rw [<-Il];exact this
 have FZ:=ae (FW.trans OZ.fr);have qj:Z.ranges prog 9 aQ bn r1 n M (fun z'=>left z'&&!z'.sameKey (bL z.path)) rz:=by
  refine xK HRG.1 ?_ ?_;{obtain ⟨M9,n9,o9,-⟩:=PW.mu;refine (OZ.k bn o9.lt (fun e=>(PW.hu.2.2.1 _ (aF qy.2.2.2)).2 e.symm)).trans ?_;rw [eW];rfl};{
 have hi9:∃ o:Obj,W.heap[r1]?=some o/\∀ es c,o≠.map es c:=by obtain ⟨es,clock,since,seen,c0,-,-,-,-,hi,-⟩:=HRG.1;exact ⟨_,by rw [eW];exact hi,fun es c e=>by cases e⟩
 obtain ⟨o,ZJ,bq⟩:=hi9;refine (OZ.k r1 (aI ZJ) (fun e=>?_)).trans (by rw [eW];rfl);obtain ⟨es,c,hm4⟩:=ownsMap_at o4;rw [e,hm4] at ZJ;exact bq es c (Option.some.inj ZJ).symm}
 clear eW NW SZ PZ Il OZ ho oU o4 s4 z4 PW FW;simp only [List.take_succ_cons,List.take_zero,List.drop_succ_cons,List.drop_zero]
 repeat still_step
 refine wpStill_nil ?_;go_wp2;go_roundw
 case rel=>exact ⟨_,_,qj,PZ',FZ⟩
 case measure=>rw [qj.left_eq,kK.left_eq];exact HRG.2})
theorem cO {α:Type} {el:World->α->List Value->Prop} {P:Program} {ops:Array Oper} {o:Oper} {a:Act} {K:Act->World->Prop} {Q:Exit->Act->World->Prop} {E:Prop} (jw:o.guard=none) (s x:Operand) (t:TypeId)
  (ho:o.op=.call { callee:=.builtin .append,args:=#[s,x],argTypes:=#[t,t] })
  (B:Nat) (e:TypeId) (i:TypeInfo) (z:Value) (size bytes:Nat) (ht:P.underlying t=some (.slice e)) (hi:P.info? e=some i) (hz:i.zero=some z)
  (oV:i.size=size) (fK:i.bytes=bytes) (Mx:z.cells.size=size) (fI:0<size)
  (v:Value) (xs:List α) (k:Nat) (ek:Hid (xs.length=k)) (hs:a.eval s=v) (bj:RT el e size B w v xs) (g:Nat) (y:α) (cs:List Value) (hx:a.eval x=.slice (some ⟨g,0,none⟩) 1 1) (mF:el w y cs) (tQ:cs.length=size) (dR:∀ j u,cs[j]?=some u->w.cell? ⟨g,j,none⟩=some u) (h1:∀ u∈cs,u.oneCell'=true) (j6:∀ w',Fr [e] w w'->∀ x c,el w x c->el w' x c)
  (hk:k<4194304) (Ux:bytes<=256) (hB:B<=w.heap.size)
  (h:∀ p' c' w',RT el e size B w' (.slice p' (k+1) c') (xs++[y])->w.grownBy w' v.ownBlock->Fr [e] w w'->(∀ g,(Value.slice p' (k+1) c').ownBlock=some g->v.ownBlock=some g\/w.heap.size<=g)->K (a.put o.dst (.slice p' (k+1) c')) w') :
  if Region.wanted o (yielded ops a.tmps)=true then Oper.wp P o a w K Q else E:=by
 have htt:=bj.gS;obtain ⟨rs,g1,g2,g3,g4⟩:=bj;rw [aa ek] at g3;refine dU jw s x t ho B e i z size bytes ht hi hz oV fK Mx fI v k rs.flatten hs g3 g 1 1 cs hx (by rw [tQ,Nat.one_mul]) dR h1 (by unfold maxLen;omega) (by have:=Nat.mul_le_mul (show k+1<=4194304 by omega) Ux;omega) hB ?_
 intro v' w' dN hg yy;have hf:Fr [e] w w':=Fr.grown hg fun b hb=>by obtain ⟨cur,hc⟩:=htt b hb;exact ⟨cur,_,hc,by simp⟩
 have sn:RT el e size B w' v' (xs++[y]):=RT.snoc g1 g2 g4 (j6 w' hf) mF tQ (by rw [aa ek];exact dN);obtain ⟨p',c',rfl,-⟩:=RT.form sn;rw [List.length_append,aa ek] at sn yy ⊢;exact h p' c' w' sn hg hf yy
theorem ka (nd:aA) (p0 p1 p4 p7:Option Addr) (c0 c1 c4 c7 n0 n1 n4 n7:Nat) (e0:Hid (nd.path.length=n0)) (e1:Hid (nd.value.length=n1)) (e4:Hid (nd.holders.length=n4)) (e7:Hid (nd.watchers.length=n7)) (w:World) (h0:Rd w (.slice p0 n0 c0) nd.path) (h1:Rd w (.slice p1 n1 c1) nd.value) (h4:kL w (.slice p4 n4 c4) nd.holders) (h7:kL w (.slice p7 n7 c7) nd.watchers) (l0:n0<=1048576) (l1:n1<=1048576) (l4:n4<=1048576) (l7:n7<=1048576) :
  Calls prog 112 #[Jb (.slice p0 n0 c0) (.slice p1 n1 c1) nd.owner nd.mode (.slice p4 n4 c4) nd.aD nd.gen (.slice p7 n7 c7)] w fun r w'=>∃ q0 d0 q1 d1 q4 d4 q7 d7,r=.returned (Jb (.slice q0 n0 d0) (.slice q1 n1 d1) nd.owner nd.mode (.slice q4 n4 d4) nd.aD nd.gen (.slice q7 n7 d7))/\TB w' (.slice q0 n0 d0) nd.path/\TB w' (.slice q1 n1 d1) nd.value/\TU w.heap.size w' (.slice q4 n4 d4) nd.holders/\TU w.heap.size w' (.slice q7 n7 d7) nd.watchers/\Below w.heap.size w w':=by
 have HR:=ae fun (w':World) (hb:Below w.heap.size w w')=>ag (h0.below hb) (ag (h1.below hb) (ag (h4.below hb) (h7.below hb)));obtain ⟨W0,cA,b0,z0,C0,T0⟩:=aj w #[.slice p0 n0 c0,.slice p1 n1 c1,.int .u64 nd.owner,.int .i64 nd.mode,.slice p4 n4 c4,.int .u64 nd.aD,.int .u64 nd.gen,.slice p7 n7 c7] 38;obtain ⟨W1,fP,b1,z1,C1,T1⟩:=aj W0 #[.slice none 0 0,.slice none 0 0,.int .u64 0,.int .i64 0,.slice none 0 0,.int .u64 0,.int .u64 0,.slice none 0 0] 38;rw [z0] at C1 T1 z1;have B0:=ae (ai b0 b1);have C0:=ae (C0.below (by omega) b1);have T0:Hid (∃ cur,W1.heap[w.heap.size]?=some (.cells cur 38)):=⟨_,(b1.block _ (by omega)).trans T0⟩;have R0:=ae C1;have TR:Hid (∃ cur,W1.heap[w.heap.size+1]?=some (.cells cur 38)):=⟨_,T1⟩;have Z0:=z1;go_enter func112,ntmps112;have k0:=C0.1 0 _ rfl;go_wp2_with fail;rw [<-cA,<-fP];refine (dY p0 c0 n0 nd.path e0 W1 (aa HR W1 B0).1 (by omega)).mono ?_;rintro r w1 ⟨q0,d0,rfl,oj,mH⟩;have CY:=C0.below (by omega) mH;have TY:∃ cur,w1.heap[w.heap.size]?=some (.cells cur 38):=T0.imp fun cur hc=>(mH.block _ (by omega)).trans hc;have RY:=R0.below (by omega) mH;obtain ⟨X,hX⟩:=ar (w1.setCell ⟨w.heap.size,0,none⟩ (.slice q0 n0 d0));have QG:∃ cur,w1.heap[w.heap.size+1]?=some (.cells cur 38):=TR.imp fun cur hc=>(mH.block _ (by omega)).trans hc;have TR:Hid (∃ cur,X.heap[w.heap.size+1]?=some (.cells cur 38)):=by rw [hX];exact ae (QG.imp fun cur hc=>(dt _ _ _ _ (by show w.heap.size+1≠w.heap.size;omega)).trans hc)
 have ts:=aZ (j:=0) (u:=.slice q0 n0 d0) TY;rw [<-hX] at ts;have kj:=CY.1 0 _ rfl;have kf:=CY.2 0;have zj:=mH.size;have Z1:w.heap.size+1+1<=X.heap.size:=by rw [hX];simp;omega
 have C1:Hid (al X w.heap.size [.slice q0 n0 d0,.slice p1 n1 c1,.int .u64 nd.owner,.int .i64 nd.mode,.slice p4 n4 c4,.int .u64 nd.aD,.int .u64 nd.gen,.slice p7 n7 c7]):=by rw [hX];exact ae (CY.da 0 (by simp) _)
 have T1:=ae ts.1;have R1:Hid (al X (w.heap.size+1) [.slice none 0 0,.slice none 0 0,.int .u64 0,.int .i64 0,.slice none 0 0,.int .u64 0,.int .u64 0,.slice none 0 0]):=by rw [hX];exact ae (RY.pD (a:=⟨w.heap.size,0,none⟩) (by show w.heap.size+1≠w.heap.size;omega) _)
 have B1:Hid (Below w.heap.size w X):=by rw [hX];exact ae ((ai (aa B0) mH).setCell (p:=⟨w.heap.size,0,none⟩) ax _)
 have t0:=ae (oj.tb.fr ts.2 (by decide));obtain ⟨X1,hN⟩:=ar X;rw [<-hN] at C1 T1 R1 B1 Z1 TR hX t0;have k1:=C1.1 1 _ rfl;rw [hX] at k1;go_wp2_with fail;rw [<-hX];refine (dY p1 c1 n1 nd.value e1 X1 (aa HR X1 B1).2.1 (by omega)).mono ?_;rintro r w2 ⟨q1,d1,rfl,oj,mH⟩;have CY:=C1.below (by omega) mH;have TY:∃ cur,w2.heap[w.heap.size]?=some (.cells cur 38):=T1.imp fun cur hc=>(mH.block _ (by omega)).trans hc;have RY:=R1.below (by omega) mH;obtain ⟨X,hX⟩:=ar (w2.setCell ⟨w.heap.size,1,none⟩ (.slice q1 n1 d1));have QG:∃ cur,w2.heap[w.heap.size+1]?=some (.cells cur 38):=TR.imp fun cur hc=>(mH.block _ (by omega)).trans hc;have TR:Hid (∃ cur,X.heap[w.heap.size+1]?=some (.cells cur 38)):=by rw [hX];exact ae (QG.imp fun cur hc=>(dt _ _ _ _ (by show w.heap.size+1≠w.heap.size;omega)).trans hc)
 have ts:=aZ (j:=1) (u:=.slice q1 n1 d1) TY;rw [<-hX] at ts;have kj:=CY.1 1 _ rfl;have kf:=CY.2 1;have zj:=mH.size;have Z2:w.heap.size+1+1<=X.heap.size:=by rw [hX];simp;omega
 have C2:Hid (al X w.heap.size [.slice q0 n0 d0,.slice q1 n1 d1,.int .u64 nd.owner,.int .i64 nd.mode,.slice p4 n4 c4,.int .u64 nd.aD,.int .u64 nd.gen,.slice p7 n7 c7]):=by rw [hX];exact ae (CY.da 1 (by simp) _)
 have T2:=ae ts.1;have R2:Hid (al X (w.heap.size+1) [.slice none 0 0,.slice none 0 0,.int .u64 0,.int .i64 0,.slice none 0 0,.int .u64 0,.int .u64 0,.slice none 0 0]):=by rw [hX];exact ae (RY.pD (a:=⟨w.heap.size,1,none⟩) (by show w.heap.size+1≠w.heap.size;omega) _)
 have B2:Hid (Below w.heap.size w X):=by rw [hX];exact ae ((ai (aa B1) mH).setCell (p:=⟨w.heap.size,1,none⟩) ax _)
 have t0:=ae (((t0.fr (Fr.below (T:=[]) mH) (by decide)).fr ts.2 (by decide)));have t1:=ae (oj.tb.fr ts.2 (by decide));obtain ⟨X2,hN⟩:=ar X;rw [<-hN] at C2 T2 R2 B2 Z2 TR hX t0 t1;have k4:=C2.1 4 _ rfl;rw [hX] at k4;go_wp2_with fail;rw [<-hX];refine (Cz p4 c4 n4 nd.holders e4 X2 (aa HR X2 B2).2.2.1 (by omega)).mono ?_;rintro r w3 ⟨q4,d4,rfl,oj,mH⟩;have CY:=C2.below (by omega) mH;have TY:∃ cur,w3.heap[w.heap.size]?=some (.cells cur 38):=T2.imp fun cur hc=>(mH.block _ (by omega)).trans hc;have RY:=R2.below (by omega) mH;obtain ⟨X,hX⟩:=ar (w3.setCell ⟨w.heap.size,4,none⟩ (.slice q4 n4 d4));have QG:∃ cur,w3.heap[w.heap.size+1]?=some (.cells cur 38):=TR.imp fun cur hc=>(mH.block _ (by omega)).trans hc;have TR:Hid (∃ cur,X.heap[w.heap.size+1]?=some (.cells cur 38)):=by rw [hX];exact ae (QG.imp fun cur hc=>(dt _ _ _ _ (by show w.heap.size+1≠w.heap.size;omega)).trans hc)
 have ts:=aZ (j:=4) (u:=.slice q4 n4 d4) TY;rw [<-hX] at ts;have kj:=CY.1 4 _ rfl;have kf:=CY.2 4;have zj:=mH.size;have Z3:w.heap.size+1+1<=X.heap.size:=by rw [hX];simp;omega
 have C3:Hid (al X w.heap.size [.slice q0 n0 d0,.slice q1 n1 d1,.int .u64 nd.owner,.int .i64 nd.mode,.slice q4 n4 d4,.int .u64 nd.aD,.int .u64 nd.gen,.slice p7 n7 c7]):=by rw [hX];exact ae (CY.da 4 (by simp) _)
 have T3:=ae ts.1;have R3:Hid (al X (w.heap.size+1) [.slice none 0 0,.slice none 0 0,.int .u64 0,.int .i64 0,.slice none 0 0,.int .u64 0,.int .u64 0,.slice none 0 0]):=by rw [hX];exact ae (RY.pD (a:=⟨w.heap.size,4,none⟩) (by show w.heap.size+1≠w.heap.size;omega) _)
 have B3:Hid (Below w.heap.size w X):=by rw [hX];exact ae ((ai (aa B2) mH).setCell (p:=⟨w.heap.size,4,none⟩) ax _)
 have t0:=ae (((t0.fr (Fr.below (T:=[]) mH) (by decide)).fr ts.2 (by decide)));have t1:=ae (((t1.fr (Fr.below (T:=[]) mH) (by decide)).fr ts.2 (by decide)));have t4:=ae ((oj.tu (B':=w.heap.size) (by omega)).fr ts.2 (by decide));obtain ⟨X3,hN⟩:=ar X;rw [<-hN] at C3 T3 R3 B3 Z3 TR hX t0 t1 t4;have k7:=C3.1 7 _ rfl;rw [hX] at k7;go_wp2_with fail;rw [<-hX];refine (Cz p7 c7 n7 nd.watchers e7 X3 (aa HR X3 B3).2.2.2 (by omega)).mono ?_;rintro r w4 ⟨q7,d7,rfl,oj,mH⟩;have CY:=C3.below (by omega) mH;have TY:∃ cur,w4.heap[w.heap.size]?=some (.cells cur 38):=T3.imp fun cur hc=>(mH.block _ (by omega)).trans hc;have RY:=R3.below (by omega) mH;obtain ⟨X,hX⟩:=ar (w4.setCell ⟨w.heap.size,7,none⟩ (.slice q7 n7 d7));have QG:∃ cur,w4.heap[w.heap.size+1]?=some (.cells cur 38):=TR.imp fun cur hc=>(mH.block _ (by omega)).trans hc;have TR:Hid (∃ cur,X.heap[w.heap.size+1]?=some (.cells cur 38)):=by rw [hX];exact ae (QG.imp fun cur hc=>(dt _ _ _ _ (by show w.heap.size+1≠w.heap.size;omega)).trans hc)
 have ts:=aZ (j:=7) (u:=.slice q7 n7 d7) TY;rw [<-hX] at ts;have kj:=CY.1 7 _ rfl;have kf:=CY.2 7;have zj:=mH.size;have Z4:w.heap.size+1+1<=X.heap.size:=by rw [hX];simp;omega
 have C4:Hid (al X w.heap.size [.slice q0 n0 d0,.slice q1 n1 d1,.int .u64 nd.owner,.int .i64 nd.mode,.slice q4 n4 d4,.int .u64 nd.aD,.int .u64 nd.gen,.slice q7 n7 d7]):=by rw [hX];exact ae (CY.da 7 (by simp) _)
 have T4:=ae ts.1;have R4:Hid (al X (w.heap.size+1) [.slice none 0 0,.slice none 0 0,.int .u64 0,.int .i64 0,.slice none 0 0,.int .u64 0,.int .u64 0,.slice none 0 0]):=by rw [hX];exact ae (RY.pD (a:=⟨w.heap.size,7,none⟩) (by show w.heap.size+1≠w.heap.size;omega) _)
 have B4:Hid (Below w.heap.size w X):=by rw [hX];exact ae ((ai (aa B3) mH).setCell (p:=⟨w.heap.size,7,none⟩) ax _)
 have t0:=ae (((t0.fr (Fr.below (T:=[]) mH) (by decide)).fr ts.2 (by decide)));have t1:=ae (((t1.fr (Fr.below (T:=[]) mH) (by decide)).fr ts.2 (by decide)));have t4:=ae (((t4.fr (Fr.below (T:=[]) mH) (by decide)).fr ts.2 (by decide)));have t7:=ae ((oj.tu (B':=w.heap.size) (by omega)).fr ts.2 (by decide));obtain ⟨X4,hN⟩:=ar X;rw [<-hN] at C4 T4 R4 B4 Z4 TR hX t0 t1 t4 t7;obtain ⟨s0,s1,s2,s3,s4,s5,s6,s7,sf⟩:_/\_/\_/\_/\_/\_/\_/\_/\_:=⟨C4.1 0 _ rfl,C4.1 1 _ rfl,C4.1 2 _ rfl,C4.1 3 _ rfl,C4.1 4 _ rfl,C4.1 5 _ rfl,C4.1 6 _ rfl,C4.1 7 _ rfl,C4.2⟩;obtain ⟨r0,r1,r2,r3,r4,r5,r6,r7,rf⟩:_/\_/\_/\_/\_/\_/\_/\_/\_:=⟨R4.1 0 _ rfl,R4.1 1 _ rfl,R4.1 2 _ rfl,R4.1 3 _ rfl,R4.1 4 _ rfl,R4.1 5 _ rfl,R4.1 6 _ rfl,R4.1 7 _ rfl,R4.2⟩;rw [hX] at s0 s1 s2 s3 s4 s5 s6 s7 sf r0 r1 r2 r3 r4 r5 r6 r7 rf;go_wp2;rw [<-hX] at *;have bF:=aU X4 (w.heap.size+1) (.slice q0 n0 d0) (.slice q1 n1 d1) (.int .u64 nd.owner) (.int .i64 nd.mode) (.slice q4 n4 d4) (.int .u64 nd.aD) (.int .u64 nd.gen) (.slice q7 n7 d7);obtain ⟨-,fF⟩:=oB (v0:=.slice q0 n0 d0) (v1:=.slice q1 n1 d1) (v2:=.int .u64 nd.owner) (v3:=.int .i64 nd.mode) (v4:=.slice q4 n4 d4) (v5:=.int .u64 nd.aD) (v6:=.int .u64 nd.gen) (v7:=.slice q7 n7 d7) TR;refine bodyPost_ret (v:=Jb (.slice q0 n0 d0) (.slice q1 n1 d1) nd.owner nd.mode (.slice q4 n4 d4) nd.aD nd.gen (.slice q7 n7 d7)) (by simp [results,results112,go_sem,r0,r1,r2,r3,r4,r5,r6,r7]) rfl ?_;exact ⟨q0,d0,q1,d1,q4,d4,q7,d7,rfl,t0.fr fF (by decide),t1.fr fF (by decide),t4.fr fF (by decide),t7.fr fF (by decide),B4.trans (bF.mono (by omega))⟩
end Go.Proofs.YtcfcafeciggjeaaGreatDoor
