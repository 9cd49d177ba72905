import Derived.Test.YtmfjiolopcbcmaaGreatDoorK34
import Derived.Test.YtmfjiolopcbcmaaGreatDoorK31
import Derived.Test.YtmfjiolopcbcmaaGreatDoorASe
import Derived.Test.YtmfjiolopcbcmaaGreatDoorK38
import Derived.Test.YtmfjiolopcbcmaaGreatDoorK39
import Derived.ShutString
import Derived.ChangeOld
import Derived.HandedShaped
import Derived.Shelf.Vars
import Derived.LaidMore
import Derived.Lay
import Derived.Stop.Joined
import Derived.OpenVars
namespace Go.Proofs.YtmfjiolopcbcmaaGreatDoor
set_option maxHeartbeats 12800000
set_option linter.unusedVariables false
set_option linter.unusedSimpArgs false
set_option maxRecDepth 100000
open Go.ChangeShapes Go.WideShapes Go.ChangeAt Go.RowKit Go.Proofs.Tryz
variable {A:List Lf} {B BZ b b0 base fuel i k:Nat} {D:SD} {P:Program} {Qs cs:List Value} {es:List Ev} {f:aA->aA} {f0 f1 f2 f3 f4 f5 f6:Field} {hi lo vs:Int} {l xs:List Int} {left:Lit->Bool} {nd nd':aA} {ns:List aA} {p q:Option Addr} {ps:List MemPlace} {s:aR} {spare:Nat->Bool} {ss ss':List aR} {t:TypeId} {v:Value} {w w':World}
abbrev ZU (se pa:Bool) (lo hi vs:Int) (sq jo:Bool):Value:=.agg #[.bool se,.bool pa,.int .i64 lo,.int .i64 hi,.int .i64 vs,.bool sq,.bool jo]
theorem zs (se:Bool) (s:Int):se=true\/(se=false/\s=0)\/(se=false/\(s==0)=false):=by
 cases se;{exact .inr ((zf 0 s).imp (⟨rfl,·⟩) (⟨rfl,·⟩))};{exact .inl rfl}
theorem zp (pa:Bool) (n:Nat):pa=true\/(pa=false/\n=0)\/(pa=false/\((n:Int)==0)=false):=by
 rcases zs pa n with h | ⟨h,h2⟩ | h;{exact .inl h};{exact .inr (.inl ⟨h,by omega⟩)};{exact .inr (.inr h)}
theorem LI (se pa:Bool) (lo hi vs:Int) (sq jo:Bool) (k s f e g:Int) (p q:Option Addr) (n m c d:Nat) (w:World) (B:Bool) (eB:Hid (Sw se pa lo hi vs sq s f n m e g=B)) :
  Calls prog 146 #[ZU se pa lo hi vs sq jo,qx k s (.slice p n c) f (.slice q m d) e g] w fun r w'=>r=.returned (.bool B)/\Below w.heap.size w w':=by
 rcases zs se s with rfl | ⟨rfl,rfl⟩ | ⟨rfl,dd⟩
 all_goals (first | (have x:=dd;clear x) | rcases zp pa n with rfl | ⟨rfl,rfl⟩ | ⟨rfl,dd⟩)
 all_goals (first | (have x:=dd;clear x) | rcases Decidable.em (lo<=f) with h1 | dd)
 all_goals (first | (have x:=dd;clear x) | rcases Decidable.em (f<=hi) with h2 | dd)
 all_goals (first | (have x:=dd;clear x) | rcases Decidable.em ((m:Int)<=vs) with h3 | dd)
 all_goals (first | (have x:=dd;clear x) | rcases zs sq e with rfl | ⟨rfl,rfl⟩ | ⟨rfl,dd⟩)
 all_goals (first | (have x:=dd;clear x) | rcases zf 0 g with rfl | hg)
 all_goals (cases B<;>first | (exfalso;have h:=aa eB;clear eB;simp_all [Sw]<;>omega) | clear eB)
 all_goals (go_enter func146,ntmps146;go_wp2;go_ret;exact ⟨rfl,(ar.alloc ay _).alloc (by simp) _⟩)
abbrev ta (w:World) (G o:Nat) (se pa:Bool) (lo hi vs:Int) (sq jo:Bool):Prop:=w.cell? ⟨G,o,none⟩=some (.bool se)/\w.cell? ⟨G,o+1,none⟩=some (.bool pa)/\w.cell? ⟨G,o+2,none⟩=some (.int .i64 lo)/\w.cell? ⟨G,o+3,none⟩=some (.int .i64 hi)/\w.cell? ⟨G,o+4,none⟩=some (.int .i64 vs)/\w.cell? ⟨G,o+5,none⟩=some (.bool sq)/\w.cell? ⟨G,o+6,none⟩=some (.bool jo)
theorem ta.below {G o:Nat} {se pa:Bool} {sq jo:Bool} (h:ta w G o se pa lo hi vs sq jo) (hb:Below w.heap.size w w'):ta w' G o se pa lo hi vs sq jo:=
 ⟨af h.1 hb,af h.2.1 hb,af h.2.2.1 hb,af h.2.2.2.1 hb,af h.2.2.2.2.1 hb,af h.2.2.2.2.2.1 hb,af h.2.2.2.2.2.2 hb⟩
theorem ur (k:Nat) (oo:1<=k) (zQ:k<=13) (se pa:Bool) (lo hi vs:Int) (sq jo:Bool) (s f e g:Int) (p q:Option Addr) (n m c d:Nat) (w:World) (hT:ta w 1 (k*7) se pa lo hi vs sq jo) (B:Bool) (eB:Hid (Sw se pa lo hi vs sq s f n m e g=B)) :
  Calls prog 123 #[qx k s (.slice p n c) f (.slice q m d) e g] w fun r w'=>r=.returned (.bool B)/\Below w.heap.size w w':=by
 have h1:(1:Int)<=(k:Int):=by omega
 have h2:(k:Int)<=13:=by omega
 have h3:(k:Int)<14:=by omega
 have h4:k<14:=by omega
 have h5:(0:Int)<=(k:Int):=by omega
 go_enter func123,ntmps123;go_wp2_with fail;obtain ⟨W,hW⟩:=ax (w.alloc (.cells #[.int .i64 k,.int .u64 s,.slice p n c,.int .i64 f,.slice q m d,.int .u64 e,.int .u64 g] 43));have bW:Below w.heap.size w W:=by rw [hW];exact ar.alloc ay _
 have hA:mg W w.heap.size (.int .i64 k) (.int .u64 s) (.slice p n c) (.int .i64 f) (.slice q m d) (.int .u64 e) (.int .u64 g):=by rw [hW];simp [mg,go_sem]
 have hTW:=hT.below bW;rw [<-hW];clear hW hT
 go_region_held3 (fun w'=>mg w' w.heap.size (.int .i64 k) (.int .u64 s) (.slice p n c) (.int .i64 f) (.slice q m d) (.int .u64 e) (.int .u64 g)/\ta w' 1 (k*7) se pa lo hi vs sq jo) (first | exact ⟨hA,hTW⟩ | exact ⟨W8,Zk⟩)
  (first | (go_at_call 146;refine (LI se pa lo hi vs sq jo k s f e g p q n m c d _ B eB).mono ?_;rintro r w1 ⟨rfl,aK⟩;have bu:Below W.heap.size W w1:=(by first | exact aK | exact ai (Below.refl W.heap.size W).drew aK);have W8:=hA.below bu;have Zk:=hTW.below bu))
 have b1:=ai bW bu;clear hA hTW W8 Zk aK bu bW;go_wp2;go_ret;exact ⟨rfl,b1⟩
theorem uq (k s f e g:Int) (p q:Option Addr) (n m c d:Nat) (w:World) (hk:k<1\/13<k) :
  Calls prog 123 #[qx k s (.slice p n c) f (.slice q m d) e g] w fun r w'=>r=.returned (.bool false)/\Below w.heap.size w w':=by
 have b0:∀ o:Obj,Below w.heap.size w (w.alloc o):=fun o=>ar.alloc ay _;by_cases h1:k<1;{
 have GI:¬ (1:Int)<=k:=by omega
 have h1d:decide ((1:Int)<=k)=false:=by simp;omega
 go_enter func123,ntmps123;go_wp2_with fail
 go_region
 all_goals (
  go_wp2;go_ret;exact ⟨rfl,by first | exact b0 _ | exact (b0 _).drew⟩)}
 {
 have GI:(1:Int)<=k:=by omega
 have h2':¬ k<=13:=by omega
 have h1d:decide ((1:Int)<=k)=true:=by simp;omega
 have h2d:decide (k<=(13:Int))=false:=by simp;omega
 go_enter func123,ntmps123;go_wp2_with fail
 go_region
 all_goals (
  go_wp2;go_ret;exact ⟨rfl,by first | exact b0 _ | exact (b0 _).drew⟩)}
open Go.Maps
structure CI (ss:List aR) (ns:List aA):Prop where
 so:uo ss
 nt:∀ nd∈ns,NT ss nd/\nd.holders.Pairwise (·<·)/\nd.holders.length<=1048576
 kd:KD ns
theorem NT.ids (h:NT ss nd) (hi:ss'.map (·.1)=ss.map (·.1)):NT ss' nd:=
 ⟨h.Xj,h.pl,h.Rs,h.Bj,fun i PM=>by obtain ⟨j,s,hj,e⟩:=Gt hi (h.xz i PM);exact ⟨s,aL hj,e⟩⟩
theorem uo.tell (ev:Ev):∀ (ids:List Int) {ss:List aR},uo ss->uo (jD ss ids ev)
 | [],ss,h=>h
 | a::r,ss,h=>uo.tell ev r (h.Qw a ev)
theorem KD.erase (h:KD ns) (k:Nat):KD (ns.eraseIdx k):=fun i j a c ha hc e=>by
 rw [List.getElem?_eraseIdx] at ha hc;by_cases hi:i<k<;>by_cases hj:j<k
 {rw [if_pos hi] at ha;rw [if_pos hj] at hc;exact h i j a c ha hc e};{rw [if_pos hi] at ha;rw [if_neg hj] at hc;have:=h i (j+1) a c ha hc e;omega};{rw [if_neg hi] at ha;rw [if_pos hj] at hc;have:=h (i+1) j a c ha hc e;omega};{rw [if_neg hi] at ha;rw [if_neg hj] at hc;have:=h (i+1) (j+1) a c ha hc e;omega}
theorem KD.paths {xg:List aA} (h:KD ns) (hp:xg.map (·.path)=ns.map (·.path)):KD xg:=fun i j a c ha hc e=>by
 have key:∀ (i:Nat) (a:aA),xg[i]?=some a->∃ a0,ns[i]?=some a0/\a0.path=a.path:=fun i a ha=>by
  have h1:(xg.map (·.path))[i]?=some a.path:=by rw [List.getElem?_map,ha];rfl
  rw [hp,List.getElem?_map] at h1;cases hn:ns[i]? with
  | none=>rw [hn] at h1;cases h1
  | some a0=>rw [hn] at h1;exact ⟨a0,rfl,by simpa using h1⟩
 obtain ⟨a0,h1,e1⟩:=key i a ha;obtain ⟨c0,h2,e2⟩:=key j c hc;exact h i j a0 c0 h1 h2 (by rw [e1,e2,e])
theorem kV (hk:ns[k]?=some nd) (hp:nd'.path=nd.path):(ns.set k nd').map (·.path)=ns.map (·.path):=by
 rw [List.map_set,hp];exact jW (by rw [List.getElem?_map,hk];rfl)
theorem CI.cw (h:CI ss ns) (id:Int):CI ss (ns.map (Dp id)):=by
 refine ⟨h.so,fun nd bf=>?_,h.kd.paths (by rw [List.map_map];rfl)⟩;obtain ⟨y,hy,rfl⟩:=List.mem_map.1 bf;obtain ⟨h1,h2,h3⟩:=h.nt y hy;exact ⟨⟨h1.Xj,h1.pl,xy h1.Rs,Nat.le_trans (mT _ _) h1.Bj,fun i hi=>h1.xz i (rY.1 hi).1⟩,h2,h3⟩
theorem CI.set (h:CI ss ns) (hk:ns[k]?=some nd) (hs:uo ss') (hi:ss'.map (·.1)=ss.map (·.1)) (hp:nd'.path=nd.path) (hw:nd'.watchers=nd.watchers\/nd'.watchers=[]) (hh:nd'.holders.Pairwise (·<·)/\nd'.holders.length<=1048576):CI ss' (ns.set k nd'):=by
 refine ⟨hs,fun x hx=>?_,h.kd.paths (kV hk hp)⟩;rcases List.mem_or_eq_of_mem_set hx with hx | rfl;{obtain ⟨h1,h2⟩:=h.nt x hx;exact ⟨h1.ids hi,h2⟩};{
 obtain ⟨h1,-⟩:=h.nt nd (aL hk);refine ⟨NT.ids ⟨by rw [hp];exact h1.Xj,by rw [hp];exact h1.pl,?_,?_,?_⟩ hi,hh⟩;{
 rcases hw with e | e<;>rw [e]
 {exact h1.Rs};{exact List.Pairwise.nil}};{
 rcases hw with e | e<;>rw [e]
 {exact h1.Bj};{simp}};{
 rcases hw with e | e<;>rw [e]
 {exact h1.xz};{intro i hi;cases hi}}}
theorem CI.tell (h:CI D.ss D.ns) (hk:D.ns[k]?=some nd) (kd:Int):CI (da D k kd).ss (da D k kd).ns/\(da D k kd).ns.map (·.path)=D.ns.map (·.path)/\(da D k kd).ss.map (·.1)=D.ss.map (·.1)/\(da D k kd).ns[k]?=some { nd with watchers:=[] }:=by
 unfold da;rw [hk];refine ⟨h.set hk (uo.tell _ _ h.so) (r8 _ _ _) rfl (.inr rfl) (h.nt nd (aL hk)).2,kV hk rfl,r8 _ _ _,bk hk _⟩
theorem CI.drop (h:CI D.ss D.ns) (hk:D.ns[k]?=some nd) (id:Int):CI (df D k id).ss (df D k id).ns/\(df D k id).ns.map (·.path)=D.ns.map (·.path)/\(df D k id).ss.map (·.1)=D.ss.map (·.1)/\∃ mr,(df D k id).ns[k]?=some mr/\mr.owner=nd.owner/\mr.path=nd.path:=by
 unfold df;rw [hk];obtain ⟨h1,h2,h3⟩:=h.nt nd (aL hk);by_cases hc:nd.holders.contains id=true;{
 simp only [hc,if_true];by_cases he:mh nd.holders id=[];{
 simp only [he,if_true];have zQ:=bk hk { nd with holders:=[],mode:=0,aC:=0,gen:=0 }
 obtain ⟨q1,q2,q3,q4⟩:=CI.tell (D:={ D with ns:=D.ns.set k { nd with holders:=[],mode:=0,aC:=0,gen:=0 } }) (h.set hk h.so rfl rfl (.inl rfl) ⟨List.Pairwise.nil,by simp⟩) zQ 3;exact ⟨q1,q2.trans (kV hk rfl),q3,_,q4,rfl,rfl⟩};{
 simp only [he,if_false];refine ⟨h.set hk h.so rfl rfl (.inl rfl) ⟨xy h2,Nat.le_trans (mT _ _) h3⟩,kV hk rfl,?_,_,bk hk _,rfl,rfl⟩
 first | trivial | rfl}}
 {simp only [hc];exact ⟨h,rfl,rfl,nd,hk,rfl,rfl⟩}
theorem CI.rm (h:CI D.ss D.ns) (k:Nat):CI (DQ D k).ss (DQ D k).ns:=⟨h.so,fun nd bf=>h.nt nd (List.mem_of_mem_eraseIdx bf),h.kd.erase k⟩
theorem Fp {α:Type} (l:List α) (k:Nat) (hk:k<l.length):(l.eraseIdx k).drop k=l.drop (k+1):=by
 rw [List.eraseIdx_eq_take_drop_succ,List.drop_append,List.drop_take];simp [show min k l.length=k by omega]
theorem Hn (h:uo ss) (hi:ss[i]?=some s):Ph s.1 ss=ss.eraseIdx i:=by
 have bm:∀ (j:Nat) (z:aR),ss[j]?=some z->z.1=s.1->j=i:=fun j z hj e=>by have hp:=List.pairwise_iff_getElem.1 h.pw;obtain ⟨l1,v1⟩:=aM.1 hi;obtain ⟨l2,v2⟩:=aM.1 hj;rcases Nat.lt_trichotomy i j with hh | hh | hh;{have:=hp i j l1 l2 hh;rw [v1,v2] at this;omega};{exact hh.symm};{have:=hp j i l2 l1 hh;rw [v1,v2] at this;omega}
 have key:∀ (l:List aR) (i:Nat),l[i]?=some s->(∀ (j:Nat) (z:aR),l[j]?=some z->z.1=s.1->j=i)->Ph s.1 l=l.eraseIdx i:=by
  intro l
  induction l with
  | nil=>intro i hi;simp at hi
  | cons y r ih=>
   intro i hi hu;cases i with
   | zero=>
    simp at hi;subst hi;rw [List.eraseIdx_cons_zero,Ph,List.filter_cons,if_neg (by simp),List.filter_eq_self.2];intro z hz;obtain ⟨j,hj⟩:=List.mem_iff_getElem?.1 hz;have:=hu (j+1) z (by simpa using hj);by_cases e:z.1=y.1;{have:=this e;omega};{simp [e]}
   | succ i=>
    have hy:¬ y.1=s.1:=fun e=>by have:=hu 0 y (by simp) e;omega
    rw [List.eraseIdx_cons_succ,Ph,List.filter_cons,if_pos (by simp [hy]),<-Ph,ih i (by simpa using hi) (fun j z hj e=>by have:=hu (j+1) z (by simpa using hj) e;omega)]
 exact key ss i hi bm
def mW (f:aA->aA) (left:Lit->Bool) (ns:List aA):List aA:=ns.map fun s=>if left (bj s.path) then s else f s
theorem Br (h:∀ s∈ns,left (bj s.path)=true):mW f left ns=ns:=by
 unfold mW;rw [List.map_congr_left (g:=id) (fun s hs=>by rw [if_pos (h s hs)];rfl),List.map_id]
theorem Hc (h:∀ k,left k=false):mW f left ns=ns.map f:=by
 unfold mW;exact List.map_congr_left fun s _=>by rw [if_neg (by rw [h];simp)]
theorem JC {ss:List aA} {s:aA} (hs:ss[i]?=some s) (hl:left (bj s.path)=true):(mW f left ss)[i]?=some s:=by
 unfold mW;rw [List.getElem?_map,hs,Option.map_some,if_pos hl]
theorem D8 (hd:KD ns) {s:aA} (hs:ns[i]?=some s):(mW f left ns).set i (f s)=mW f (fun z=>left z&&!z.sameKey (bj s.path)) ns:=by
 refine List.ext_getElem? fun j=>?_;unfold mW;rw [List.getElem?_set,List.getElem?_map,List.getElem?_map,List.length_map];by_cases ej:i=j;{subst ej;have hkk:(bj s.path).sameKey (bj s.path)=true:=WideAt.sameKey_self (by unfold bj;trivial);rw [if_pos rfl,if_pos (aM.1 hs).1,hs];simp [hkk]};{
 rw [if_neg ej];cases hj:ns[j]? with
 | none=>rfl
 | some z=>
  have bm:bj z.path≠bj s.path:=fun e=>ej (hd i j s z hs hj e.symm);simp [sameKey_ne bm]}
theorem PS.iter {w0:World} {bs bn:Nat} {SB NB HB UB:List Nat} (h:PS w0 w b bs bn D SB NB HB UB) {z:Nat} (O:One w0 w w' z) (n1:∀ cs ty,w.heap[z]?≠some (.cells cs ty)) (n2:∀ es c,w.heap[z]?≠some (.map es c)):PS w0 w' b bs bn D SB NB HB UB:=by
 have nc:∀ {y:Nat} {cs:Array Value} {ty:TypeId},w.heap[y]?=some (.cells cs ty)->y≠z:=fun hy e=>n1 _ _ (e▸hy);have nm:∀ {y:Nat} {es:Array MapEntry} {c:Nat},w.heap[y]?=some (.map es c)->y≠z:=fun hy e=>n2 _ _ (e▸hy);refine ⟨h.be.trans O.b,O.obj h.hd (nc h.hd),h.lM,?_,fun j s1 g1 fO dS=>?_,h.snd,h.my,h.hlen,h.mV,?_,fun j nd gb hh uu fO dS h1 h2=>?_,h.Kc,h.lo,h.Aw⟩;{obtain ⟨M,n,o,r⟩:=h.lI;obtain ⟨es,c,hm⟩:=ownsMap_at o;exact ⟨M,n,O.map o (nm hm),r⟩};{have q:=h.lQ j s1 g1 fO dS;obtain ⟨-,u,h1,-⟩:=id q;exact q.aN O (nc h1)};{obtain ⟨M,n,o,r⟩:=h.ju;obtain ⟨es,c,hm⟩:=ownsMap_at o;exact ⟨M,n,O.map o (nm hm),r⟩};{have q:=h.jb j nd gb hh uu fO dS h1 h2;obtain ⟨-,⟨V,q1,-⟩,q3,q4⟩:=id q;obtain ⟨es,c,m3⟩:=q3.at;obtain ⟨Qz,c',m4⟩:=q4.at;exact q.aN O (nc q1) (nm m3) (nm m4)}
theorem jV {α:Type} {el:World->α->List Value->Prop} {ops:Array Oper} {o:Oper} {a:Act} {K:Act->World->Prop} {Q:Exit->Act->World->Prop} {E:Prop} (kM:o.guard=none) (s x:Operand) (t:TypeId)
  (ho:o.op=.call { callee:=.builtin .append,args:=#[s,x],argTypes:=#[t,t] })
  (B:Nat) (e:TypeId) (i:TypeInfo) (z:Value) (size bytes:Nat) (ht:P.underlying t=some (.slice e)) (hi:P.info? e=some i) (hz:i.zero=some z)
  (qZ:i.size=size) (du:i.bytes=bytes) (RE:z.cells.size=size) (fH:0<size)
  (v:Value) (xs:List α) (k:Nat) (ek:Hid (xs.length=k)) (hs:a.eval s=v) (aS:RT el e size B w v xs) (g:Nat) (y:α) (cs:List Value) (hx:a.eval x=.slice (some ⟨g,0,none⟩) 1 1) (ij:el w y cs) (xZ:cs.length=size) (gK:∀ j u,cs[j]?=some u->w.cell? ⟨g,j,none⟩=some u) (h1:∀ u∈cs,u.oneCell'=true) (ku:∀ w',Fr [e] w w'->∀ x c,el w x c->el w' x c)
  (hk:k<4194304) (Y8:bytes<=256) (hB:B<=w.heap.size)
  (h:∀ p' c' w',RT el e size B w' (.slice p' (k+1) c') (xs++[y])->w.grownBy w' v.ownBlock->Fr [e] w w'->(∀ g,(Value.slice p' (k+1) c').ownBlock=some g->v.ownBlock=some g\/w.heap.size<=g)->K (a.put o.dst (.slice p' (k+1) c')) w') :
  if Region.wanted o (yielded ops a.tmps)=true then Oper.wp P o a w K Q else E:=by
 have htt:=aS.yE;obtain ⟨rs,g1,g2,g3,g4⟩:=aS;rw [aa ek] at g3;refine eX kM s x t ho B e i z size bytes ht hi hz qZ du RE fH v k rs.flatten hs g3 g 1 1 cs hx (by rw [xZ,Nat.one_mul]) gK h1 (by unfold maxLen;omega) (by have:=Nat.mul_le_mul (show k+1<=4194304 by omega) Y8;omega) hB ?_
 intro v' w' dN hg pT;have hf:Fr [e] w w':=Fr.grown hg fun b hb=>by obtain ⟨cur,hc⟩:=htt b hb;exact ⟨cur,_,hc,by simp⟩
 have sn:RT el e size B w' v' (xs++[y]):=RT.snoc g1 g2 g4 (ku w' hf) ij xZ (by rw [aa ek];exact dN);obtain ⟨p',c',rfl,-⟩:=RT.form sn;rw [List.length_append,aa ek] at sn pT ⊢;exact h p' c' w' sn hg hf pT
theorem vO (nd:aA) (p0 p1 p4 p7:Option Addr) (c0 c1 c4 c7 n0 n1 n4 n7:Nat) (e0:Hid (nd.path.length=n0)) (e1:Hid (nd.value.length=n1)) (e4:Hid (nd.holders.length=n4)) (e7:Hid (nd.watchers.length=n7)) (w:World) (h0:Rd w (.slice p0 n0 c0) nd.path) (h1:Rd w (.slice p1 n1 c1) nd.value) (h4:iA w (.slice p4 n4 c4) nd.holders) (h7:iA w (.slice p7 n7 c7) nd.watchers) (l0:n0<=1048576) (l1:n1<=1048576) (l4:n4<=1048576) (l7:n7<=1048576) :
  Calls prog 65 #[Ey (.slice p0 n0 c0) (.slice p1 n1 c1) nd.owner nd.mode (.slice p4 n4 c4) nd.aC nd.gen (.slice p7 n7 c7)] w fun r w'=>∃ q0 d0 q1 d1 q4 d4 q7 d7,r=.returned (Ey (.slice q0 n0 d0) (.slice q1 n1 d1) nd.owner nd.mode (.slice q4 n4 d4) nd.aC nd.gen (.slice q7 n7 d7))/\TB w' (.slice q0 n0 d0) nd.path/\TB w' (.slice q1 n1 d1) nd.value/\TU w' (.slice q4 n4 d4) nd.holders/\TU w' (.slice q7 n7 d7) nd.watchers/\Below w.heap.size w w':=by
 have HR:=ae fun (w':World) (hb:Below w.heap.size w w')=>ag (h0.below hb) (ag (h1.below hb) (ag (h4.below hb) (h7.below hb)));obtain ⟨W0,dT,b0,z0,C0,T0⟩:=au w #[.slice p0 n0 c0,.slice p1 n1 c1,.int .u64 nd.owner,.int .i64 nd.mode,.slice p4 n4 c4,.int .u64 nd.aC,.int .u64 nd.gen,.slice p7 n7 c7] 103;obtain ⟨W1,fN,b1,z1,C1,T1⟩:=au W0 #[.slice none 0 0,.slice none 0 0,.int .u64 0,.int .i64 0,.slice none 0 0,.int .u64 0,.int .u64 0,.slice none 0 0] 103;rw [z0] at C1 T1 z1;have B0:=ae (ai b0 b1);have C0:=ae (C0.below (by omega) b1);have T0:Hid (∃ cur,W1.heap[w.heap.size]?=some (.cells cur 103)):=⟨_,(b1.block _ (by omega)).trans T0⟩;have R0:=ae C1;have TR:Hid (∃ cur,W1.heap[w.heap.size+1]?=some (.cells cur 103)):=⟨_,T1⟩;have Z0:=z1;go_enter func65,ntmps65;have k0:=C0.1 0 _ rfl;go_wp2_with fail;rw [<-dT,<-fN];refine (fg p0 c0 n0 nd.path e0 W1 (aa HR W1 B0).1 (by omega)).mono ?_;rintro r w1 ⟨q0,d0,rfl,oj,lE⟩;have CY:=C0.below (by omega) lE;have TY:∃ cur,w1.heap[w.heap.size]?=some (.cells cur 103):=T0.imp fun cur hc=>(lE.block _ (by omega)).trans hc;have RY:=R0.below (by omega) lE;obtain ⟨X,hX⟩:=ax (w1.setCell ⟨w.heap.size,0,none⟩ (.slice q0 n0 d0));have MY:∃ cur,w1.heap[w.heap.size+1]?=some (.cells cur 103):=TR.imp fun cur hc=>(lE.block _ (by omega)).trans hc;have TR:Hid (∃ cur,X.heap[w.heap.size+1]?=some (.cells cur 103)):=by rw [hX];exact ae (MY.imp fun cur hc=>(dr _ _ _ _ (by show w.heap.size+1≠w.heap.size;omega)).trans hc)
 have ts:=bO (j:=0) (u:=.slice q0 n0 d0) TY;rw [<-hX] at ts;have kj:=CY.1 0 _ rfl;have kf:=CY.2 0;have zj:=lE.size;have Z1:w.heap.size+1+1<=X.heap.size:=by rw [hX];simp;omega
 have C1:Hid (ah X w.heap.size [.slice q0 n0 d0,.slice p1 n1 c1,.int .u64 nd.owner,.int .i64 nd.mode,.slice p4 n4 c4,.int .u64 nd.aC,.int .u64 nd.gen,.slice p7 n7 c7]):=by rw [hX];exact ae (CY.dC 0 (by simp) _)
 have T1:=ae ts.1;have R1:Hid (ah X (w.heap.size+1) [.slice none 0 0,.slice none 0 0,.int .u64 0,.int .i64 0,.slice none 0 0,.int .u64 0,.int .u64 0,.slice none 0 0]):=by rw [hX];exact ae (RY.kO (a:=⟨w.heap.size,0,none⟩) (by show w.heap.size+1≠w.heap.size;omega) _)
 have B1:Hid (Below w.heap.size w X):=by rw [hX];exact ae ((ai (aa B0) lE).setCell (p:=⟨w.heap.size,0,none⟩) ay _)
 have t0:=ae (oj.tb.fr ts.2 (by decide));obtain ⟨X1,hN⟩:=ax X;rw [<-hN] at C1 T1 R1 B1 Z1 TR hX t0;have k1:=C1.1 1 _ rfl;rw [hX] at k1;go_wp2_with fail;rw [<-hX];refine (fg p1 c1 n1 nd.value e1 X1 (aa HR X1 B1).2.1 (by omega)).mono ?_;rintro r w2 ⟨q1,d1,rfl,oj,lE⟩;have CY:=C1.below (by omega) lE;have TY:∃ cur,w2.heap[w.heap.size]?=some (.cells cur 103):=T1.imp fun cur hc=>(lE.block _ (by omega)).trans hc;have RY:=R1.below (by omega) lE;obtain ⟨X,hX⟩:=ax (w2.setCell ⟨w.heap.size,1,none⟩ (.slice q1 n1 d1));have MY:∃ cur,w2.heap[w.heap.size+1]?=some (.cells cur 103):=TR.imp fun cur hc=>(lE.block _ (by omega)).trans hc;have TR:Hid (∃ cur,X.heap[w.heap.size+1]?=some (.cells cur 103)):=by rw [hX];exact ae (MY.imp fun cur hc=>(dr _ _ _ _ (by show w.heap.size+1≠w.heap.size;omega)).trans hc)
 have ts:=bO (j:=1) (u:=.slice q1 n1 d1) TY;rw [<-hX] at ts;have kj:=CY.1 1 _ rfl;have kf:=CY.2 1;have zj:=lE.size;have Z2:w.heap.size+1+1<=X.heap.size:=by rw [hX];simp;omega
 have C2:Hid (ah X w.heap.size [.slice q0 n0 d0,.slice q1 n1 d1,.int .u64 nd.owner,.int .i64 nd.mode,.slice p4 n4 c4,.int .u64 nd.aC,.int .u64 nd.gen,.slice p7 n7 c7]):=by rw [hX];exact ae (CY.dC 1 (by simp) _)
 have T2:=ae ts.1;have R2:Hid (ah X (w.heap.size+1) [.slice none 0 0,.slice none 0 0,.int .u64 0,.int .i64 0,.slice none 0 0,.int .u64 0,.int .u64 0,.slice none 0 0]):=by rw [hX];exact ae (RY.kO (a:=⟨w.heap.size,1,none⟩) (by show w.heap.size+1≠w.heap.size;omega) _)
 have B2:Hid (Below w.heap.size w X):=by rw [hX];exact ae ((ai (aa B1) lE).setCell (p:=⟨w.heap.size,1,none⟩) ay _)
 have t0:=ae (((t0.fr (Fr.below (T:=[]) lE) (by decide)).fr ts.2 (by decide)));have t1:=ae (oj.tb.fr ts.2 (by decide));obtain ⟨X2,hN⟩:=ax X;rw [<-hN] at C2 T2 R2 B2 Z2 TR hX t0 t1;have k4:=C2.1 4 _ rfl;rw [hX] at k4;go_wp2_with fail;rw [<-hX];refine (xO p4 c4 n4 nd.holders e4 X2 (aa HR X2 B2).2.2.1 (by omega)).mono ?_;rintro r w3 ⟨q4,d4,rfl,oj,lE⟩;have CY:=C2.below (by omega) lE;have TY:∃ cur,w3.heap[w.heap.size]?=some (.cells cur 103):=T2.imp fun cur hc=>(lE.block _ (by omega)).trans hc;have RY:=R2.below (by omega) lE;obtain ⟨X,hX⟩:=ax (w3.setCell ⟨w.heap.size,4,none⟩ (.slice q4 n4 d4));have MY:∃ cur,w3.heap[w.heap.size+1]?=some (.cells cur 103):=TR.imp fun cur hc=>(lE.block _ (by omega)).trans hc;have TR:Hid (∃ cur,X.heap[w.heap.size+1]?=some (.cells cur 103)):=by rw [hX];exact ae (MY.imp fun cur hc=>(dr _ _ _ _ (by show w.heap.size+1≠w.heap.size;omega)).trans hc)
 have ts:=bO (j:=4) (u:=.slice q4 n4 d4) TY;rw [<-hX] at ts;have kj:=CY.1 4 _ rfl;have kf:=CY.2 4;have zj:=lE.size;have Z3:w.heap.size+1+1<=X.heap.size:=by rw [hX];simp;omega
 have C3:Hid (ah X w.heap.size [.slice q0 n0 d0,.slice q1 n1 d1,.int .u64 nd.owner,.int .i64 nd.mode,.slice q4 n4 d4,.int .u64 nd.aC,.int .u64 nd.gen,.slice p7 n7 c7]):=by rw [hX];exact ae (CY.dC 4 (by simp) _)
 have T3:=ae ts.1;have R3:Hid (ah X (w.heap.size+1) [.slice none 0 0,.slice none 0 0,.int .u64 0,.int .i64 0,.slice none 0 0,.int .u64 0,.int .u64 0,.slice none 0 0]):=by rw [hX];exact ae (RY.kO (a:=⟨w.heap.size,4,none⟩) (by show w.heap.size+1≠w.heap.size;omega) _)
 have B3:Hid (Below w.heap.size w X):=by rw [hX];exact ae ((ai (aa B2) lE).setCell (p:=⟨w.heap.size,4,none⟩) ay _)
 have t0:=ae (((t0.fr (Fr.below (T:=[]) lE) (by decide)).fr ts.2 (by decide)));have t1:=ae (((t1.fr (Fr.below (T:=[]) lE) (by decide)).fr ts.2 (by decide)));have t4:=ae (oj.tu.fr ts.2 (by decide));obtain ⟨X3,hN⟩:=ax X;rw [<-hN] at C3 T3 R3 B3 Z3 TR hX t0 t1 t4;have k7:=C3.1 7 _ rfl;rw [hX] at k7;go_wp2_with fail;rw [<-hX];refine (xO p7 c7 n7 nd.watchers e7 X3 (aa HR X3 B3).2.2.2 (by omega)).mono ?_;rintro r w4 ⟨q7,d7,rfl,oj,lE⟩;have CY:=C3.below (by omega) lE;have TY:∃ cur,w4.heap[w.heap.size]?=some (.cells cur 103):=T3.imp fun cur hc=>(lE.block _ (by omega)).trans hc;have RY:=R3.below (by omega) lE;obtain ⟨X,hX⟩:=ax (w4.setCell ⟨w.heap.size,7,none⟩ (.slice q7 n7 d7));have MY:∃ cur,w4.heap[w.heap.size+1]?=some (.cells cur 103):=TR.imp fun cur hc=>(lE.block _ (by omega)).trans hc;have TR:Hid (∃ cur,X.heap[w.heap.size+1]?=some (.cells cur 103)):=by rw [hX];exact ae (MY.imp fun cur hc=>(dr _ _ _ _ (by show w.heap.size+1≠w.heap.size;omega)).trans hc)
 have ts:=bO (j:=7) (u:=.slice q7 n7 d7) TY;rw [<-hX] at ts;have kj:=CY.1 7 _ rfl;have kf:=CY.2 7;have zj:=lE.size;have Z4:w.heap.size+1+1<=X.heap.size:=by rw [hX];simp;omega
 have C4:Hid (ah X w.heap.size [.slice q0 n0 d0,.slice q1 n1 d1,.int .u64 nd.owner,.int .i64 nd.mode,.slice q4 n4 d4,.int .u64 nd.aC,.int .u64 nd.gen,.slice q7 n7 d7]):=by rw [hX];exact ae (CY.dC 7 (by simp) _)
 have T4:=ae ts.1;have R4:Hid (ah X (w.heap.size+1) [.slice none 0 0,.slice none 0 0,.int .u64 0,.int .i64 0,.slice none 0 0,.int .u64 0,.int .u64 0,.slice none 0 0]):=by rw [hX];exact ae (RY.kO (a:=⟨w.heap.size,7,none⟩) (by show w.heap.size+1≠w.heap.size;omega) _)
 have B4:Hid (Below w.heap.size w X):=by rw [hX];exact ae ((ai (aa B3) lE).setCell (p:=⟨w.heap.size,7,none⟩) ay _)
 have t0:=ae (((t0.fr (Fr.below (T:=[]) lE) (by decide)).fr ts.2 (by decide)));have t1:=ae (((t1.fr (Fr.below (T:=[]) lE) (by decide)).fr ts.2 (by decide)));have t4:=ae (((t4.fr (Fr.below (T:=[]) lE) (by decide)).fr ts.2 (by decide)));have t7:=ae (oj.tu.fr ts.2 (by decide));obtain ⟨X4,hN⟩:=ax X;rw [<-hN] at C4 T4 R4 B4 Z4 TR hX t0 t1 t4 t7;obtain ⟨s0,s1,s2,s3,s4,s5,s6,s7,sf⟩:_/\_/\_/\_/\_/\_/\_/\_/\_:=⟨C4.1 0 _ rfl,C4.1 1 _ rfl,C4.1 2 _ rfl,C4.1 3 _ rfl,C4.1 4 _ rfl,C4.1 5 _ rfl,C4.1 6 _ rfl,C4.1 7 _ rfl,C4.2⟩;obtain ⟨r0,r1,r2,r3,r4,r5,r6,r7,rf⟩:_/\_/\_/\_/\_/\_/\_/\_/\_:=⟨R4.1 0 _ rfl,R4.1 1 _ rfl,R4.1 2 _ rfl,R4.1 3 _ rfl,R4.1 4 _ rfl,R4.1 5 _ rfl,R4.1 6 _ rfl,R4.1 7 _ rfl,R4.2⟩;rw [hX] at s0 s1 s2 s3 s4 s5 s6 s7 sf r0 r1 r2 r3 r4 r5 r6 r7 rf;go_wp2;rw [<-hX] at *;have bF:=aQ X4 (w.heap.size+1) (.slice q0 n0 d0) (.slice q1 n1 d1) (.int .u64 nd.owner) (.int .i64 nd.mode) (.slice q4 n4 d4) (.int .u64 nd.aC) (.int .u64 nd.gen) (.slice q7 n7 d7);obtain ⟨-,fF⟩:=qP (v0:=.slice q0 n0 d0) (v1:=.slice q1 n1 d1) (v2:=.int .u64 nd.owner) (v3:=.int .i64 nd.mode) (v4:=.slice q4 n4 d4) (v5:=.int .u64 nd.aC) (v6:=.int .u64 nd.gen) (v7:=.slice q7 n7 d7) TR;refine bodyPost_ret (v:=Ey (.slice q0 n0 d0) (.slice q1 n1 d1) nd.owner nd.mode (.slice q4 n4 d4) nd.aC nd.gen (.slice q7 n7 d7)) (by simp [results,results65,go_sem,r0,r1,r2,r3,r4,r5,r6,r7]) rfl ?_;exact ⟨q0,d0,q1,d1,q4,d4,q7,d7,rfl,t0.fr fF (by decide),t1.fr fF (by decide),t4.fr fF (by decide),t7.fr fF (by decide),B4.trans (bF.mono (by omega))⟩
theorem nS.get {n c:Nat} (h:nS w (.slice p n c) es) {e:Ev} (hi:es[i]?=some e):∃ b o u,p=some ⟨b,o,none⟩/\w.cell? ⟨b,o+i*2,none⟩=some (.int .i64 e.1)/\w.cell? ⟨b,o+i*2+1,none⟩=some u/\Rd w u e.2:=by
 obtain ⟨p',c',e',hd⟩:=h;simp only [Value.slice.injEq] at e';obtain ⟨rfl,-,rfl⟩:=e';rcases hd with h0 | ⟨b,o,rfl,hA⟩;{rw [h0] at hi;simp at hi};{obtain ⟨h1,u,h2,h3⟩:=hA i e hi;exact ⟨b,o,u,rfl,h1,h2,h3⟩}
theorem Df (p:Option Addr) (c n:Nat) (Q:List Ev) (en:Hid (Q.length=n)) (w:World) (h:nS w (.slice p n c) Q) (hn:n<=1048576) (Za:Hid (∀ e∈Q,e.2.length<=1048576)) :
  Calls prog 64 #[.slice p n c] w fun r w'=>∃ p' c',r=.returned (.slice p' n c')/\qn w.heap.size w' (.slice p' n c') Q/\Below w.heap.size w w':=by
 obtain ⟨ie,UT,jG,gi,gP⟩:=info_parts Tryz.infoEv;have HI:=ae (ag UT (ag jG (ag gi gP)));have HR:=ae fun (w':World) (hb:Below w.heap.size w w')=>h.below hb;go_enter func64,ntmps64;go_wp2
 go_loopw [3,4] (fun ov iv wr=>∃ (k:Nat) (M:List Ev) (po:Option Addr) (co:Nat),k<=n/\iv=.int .i64 k/\ov=.slice po k co/\Hid (M.length=k)/\Hid (Q.take k=M)/\Hid (qn w.heap.size wr (.slice po k co) M)/\Hid (Below w.heap.size w wr)) (fun _ iv _=>n-(intOf iv).toNat)
 case atStart=>exact ⟨0,[],none,0,Nat.zero_le _,rfl,rfl,ae rfl,(by show _=_;simp),RT.nil _ _ _ _ _,Below.refl _ _⟩
 case round =>(
 obtain ⟨k,M,po,co,hk,rfl,rfl,eM,hM,hQ,aE⟩:=hrel;have zr:=aE.size;by_cases aU:k<n;{
 have aV:(k:Int)<(n:Int):=by omega
 obtain ⟨y,hy⟩:∃ y,Q[k]?=some y:=⟨_,aH (by rw [aa en];exact aU)⟩;have E1:=ae (by rw [List.take_add_one,hy,aa hM];rfl:Q.take (k+1)=M++[y]);have hyl:=aa Za y (aL hy);obtain ⟨b,o,u,rfl,c0,c1,hu⟩:=(aa HR w ar).get hy;obtain ⟨pu,cu,rfl,zJ⟩:=hu;have RU:=ae (show Rd w (.slice pu y.2.length cu) y.2 from ⟨pu,cu,rfl,zJ⟩);obtain ⟨nu,Xb⟩:∃ nu,Hid (y.2.length=nu):=⟨_,ae rfl⟩;rw [aa Xb] at c1 RU hyl;have HC:=ae (fun (v:World) (hv:Below w.heap.size w v)=>ag (af c0 hv) (af c1 hv));go_wp2_with fail;obtain ⟨vA,bt⟩:=ax wr.drew;have bG:Below wr.heap.size wr vA:=by rw [bt];exact ar.drew
 have BA:=ae bG;have BW:=fun (v:World) (hv:Below wr.heap.size wr v)=>ai aE hv;refine wp_region_noPanic ?_;refine wp_region_held_drew (S:=fun w'=>w'.cell? ⟨b,o+k*2,none⟩=some (.int .i64 y.1)/\w'.cell? ⟨b,o+k*2+1,none⟩=some (.slice pu nu cu)) (by kernel_rfl) (by rw [<-bt];exact aa HC vA (BW vA bG)) (fun hS=>?_);rw [<-bt] at hS ⊢;refine fL 0 1 2 3 4 5 6 7 hS ?_;refine fq 8 9 hS ?_;refine tn 10 hS ?_;refine bR 11 fun KK hK=>?_;refine iG (fg pu cu nu y.2 Xb vA (RU.below (BW vA BA)) (by omega)) ?_;rintro r v1 ⟨pa,ca,rfl,oa,dR⟩;refine ⟨_,rfl,?_⟩;have B1:=ae (ai BA dR);have OA:=ae oa.tb;refine bM hK (by exact HC v1 (BW v1 B1)) fun hS=>?_;refine tn 12 hS ?_;refine bR 13 fun KK hK=>?_;go_simp;obtain ⟨Z,hZ,bZ,zZ,CZ,-⟩:=au v1 #[.int .i64 y.1,.slice pa nu ca] 147;rw [<-hZ];have B2:=ae (ai B1 bZ);have AO:=ae CZ;have TZ:=ae (OA.fr (Fr.below (T:=[]) bZ) (by decide));have QZ:=ae (qn.fr hQ (Fr.below (T:=[]) B2) (by decide));have z2:=B2.size;refine bM hK (by exact HC Z (BW Z B2)) fun hS=>?_;refine bR 14 fun KK hK=>?_;refine jV (by rfl) _ _ 37 (by rfl) w.heap.size 147 ie _ 2 32 underlying37 HI.1 HI.2.1 HI.2.2.1 HI.2.2.2 rfl (by decide) (.slice po k co) M k eM (by rfl) (aa QZ) v1.heap.size y [.int .i64 y.1,.slice pa nu ca] (by rfl) ⟨_,rfl,aa TZ⟩ rfl (fun j u hu=>AO.1 j u hu) (fun u hu=>by simp at hu;rcases hu with rfl | rfl<;>rfl) (fun w' hf=>ru.fr hf (by decide)) (by omega) (by omega) (by omega) ?_;intro p' c' w9 Gx ue f9 _;have B9:=ae ((aE.trans (B2.mono (by omega))).grown ue (by omega) (fun b' e=>(QZ.lt b' e).1));have Q9:=ae Gx;have hS9:w9.cell? ⟨b,o+k*2,none⟩=some (.int .i64 y.1)/\w9.cell? ⟨b,o+k*2+1,none⟩=some (.slice pu nu cu):=aa HC w9 B9;refine bM hK (by exact hS9) fun hS=>?_;refine tn 15 hS ?_;refine wpAnyH_done (by kernel_rfl) ?_ _;refine bc ?_;go_wp2;go_roundw
 case rel=>exact ⟨k+1,M++[y],p',c',by omega,by go_num,rfl,ae (by rw [List.length_append,aa eM];rfl),E1,Q9,B9⟩
 case measure=>simp [intOf];omega}
 {
 have aV:¬ (k:Int)<(n:Int):=by omega
 have ek:k=n:=by omega
 subst ek;have e1:=aa hM;rw [List.take_of_length_le (by rw [aa en];omega)] at e1;subst e1;go_wp2;go_ret;exact ⟨_,_,rfl,hQ,aE⟩})
theorem fK.snoc {v':Value} {Q:Value} (h:fK B w v ss Qs) (hf:Fr [95] w w') (hQ:qn B w Q s.2.2) (KY:∀ (j:Nat) (Q':Value) (b:Nat),Qs[j]?=some Q'->Q'.ownBlock=some b->Q.ownBlock≠some b) (hr:RT ly 95 3 B w' v' (ss.zip Qs++[(s,Q)])):fK B w' v' (ss++[s]) (Qs++[Q]):=by
 have hl:=h.len;refine ⟨by simp [hl],by rw [List.zip_append hl.symm];exact hr,fun i s' Q' hs hq=>?_,fun i j Q1 Q2 b jd hq om hb=>?_⟩;{
 by_cases hi:i<ss.length;{rw [List.getElem?_append_left hi] at hs;rw [List.getElem?_append_left (by omega)] at hq;exact (h.DR i s' Q' hs hq).fr hf (by decide)};{
 have ei:i=ss.length:=by have:=(aM.1 hs).1;simp at this;omega
 subst ei;rw [List.getElem?_append_right ay,Nat.sub_self] at hs;rw [List.getElem?_append_right (by omega),hl,Nat.sub_self] at hq;simp at hs hq;subst hs hq;exact hQ.fr hf (by decide)}};{
 by_cases hi:i<Qs.length;{
 rw [List.getElem?_append_left hi] at hq;by_cases hj:j<Qs.length;{rw [List.getElem?_append_left hj] at om;exact h.kO i j Q1 Q2 b jd hq om hb};{
 rw [List.getElem?_append_right (by omega)] at om;have e:j-Qs.length=0:=by have:=(aM.1 om).1;simp at this;omega
 rw [e] at om;simp at om;subst om;exact KY i Q1 b hq hb}};{
 rw [List.getElem?_append_right (by omega)] at hq;have e:i-Qs.length=0:=by have:=(aM.1 hq).1;simp at this;omega
 rw [e] at hq;simp at hq;subst hq;have hj:j<Qs.length:=by have:=(aM.1 om).1;simp at this;omega
 rw [List.getElem?_append_left hj] at om;exact fun e2=>KY j Q2 b om e2 hb}}
theorem fK.mono {B':Nat} (h:fK B w v ss Qs) (hB:B'<=B):fK B' w v ss Qs:=⟨h.len,RT.mono h.row hB,fun i s Q hs hq=>RT.mono (h.DR i s Q hs hq) hB,h.kO⟩
theorem nR.get {n c:Nat} (h:nR w (.slice p n c) ss) (hi:ss[i]?=some s):∃ b o u,p=some ⟨b,o,none⟩/\w.cell? ⟨b,o+i*3,none⟩=some (.int .u64 s.1)/\w.cell? ⟨b,o+i*3+1,none⟩=some (.int .i64 s.2.1)/\w.cell? ⟨b,o+i*3+2,none⟩=some u/\nS w u s.2.2:=by
 obtain ⟨p',c',e',hd⟩:=h;simp only [Value.slice.injEq] at e';obtain ⟨rfl,-,rfl⟩:=e';rcases hd with h0 | ⟨b,o,rfl,hA⟩;{rw [h0] at hi;simp at hi};{obtain ⟨h1,h2,u,h3,h4⟩:=hA i s hi;exact ⟨b,o,u,rfl,h1,h2,h3,h4⟩}
def YB (w:World) (b:Nat) (st out:List Value):Prop:=BX w b st/\BX w (b+1) [.int .u64 0,.int .u64 0,.int .u64 0,.int .i64 0,.slice none 0 0,.slice none 0 0]/\BX w (b+1+1) out
theorem YB.fr {T:List TypeId} {st out:List Value} (h:YB w b st out) (hf:Fr T w w') (ht:35∉T):YB w' b st out:=⟨h.1.fr hf ht,h.2.1.fr hf ht,h.2.2.fr hf ht⟩
theorem YB.set {st out:List Value} (h:YB w b st out) (j:Nat) (hj:j<out.length) (u:Value):YB (w.setCell ⟨b+1+1,j,none⟩ u) b st (out.set j u)/\Fr [35] w (w.setCell ⟨b+1+1,j,none⟩ u):=
 ⟨⟨h.1.uG (by omega),h.2.1.uG (by omega),h.2.2.1.dC j hj u,(bO h.2.2.2).1⟩,(bO h.2.2.2).2⟩
theorem QL (e g x t:Int) (p q:Option Addr) (c n d m:Nat) (ss:List aR) (ns:List aA) (en:Hid (ss.length=n)) (em:Hid (ns.length=m)) (w:World) (h:nR w (.slice p n c) ss) (hN:jB w (.slice q m d) ns) (hn:n<=1048576) (hm:m<=1048576)
  (sR:Hid (∀ s∈ss,s.2.2.length<=1048576/\∀ ev∈s.2.2,ev.2.length<=1048576)) (qD:Hid (∀ nd∈ns,nd.path.length<=1048576/\nd.value.length<=1048576/\nd.holders.length<=1048576/\nd.watchers.length<=1048576)) :
  Calls prog 24 #[cL e g x t (.slice p n c) (.slice q m d)] w fun r w'=>∃ p' c' q' d',r=.returned (cL e g x t (.slice p' n c') (.slice q' m d'))/\(∃ Qs,fK w.heap.size w' (.slice p' n c') ss Qs)/\dA w.heap.size w' (.slice q' m d') ns/\Below w.heap.size w w':=by
 obtain ⟨is,his,Gw,fO,xV⟩:=info_parts Tryz.infoSes;obtain ⟨iN,hiN,UI,tW,Fb⟩:=info_parts Tryz.infoNod;have HI:=ae (ag (ag his (ag Gw (ag fO xV))) (ag hiN (ag UI (ag tW Fb))));clear his Gw fO xV hiN UI tW Fb;have HR:=ae (ag h hN);clear h hN;have HCG:=ae (fun (vs:Array Value) (w:World)=>show (callFunc 65 vs).run prog w=.ok (.enter 65 vs) w by kernel_rfl);obtain ⟨W0,dT,b0,z0,C0⟩:=dz w (.int .u64 e) (.int .u64 g) (.int .u64 x) (.int .i64 t) (.slice p n c) (.slice q m d);obtain ⟨W1,fN,b1,z1,C1⟩:=dz W0 (.int .u64 0) (.int .u64 0) (.int .u64 0) (.int .i64 0) (.slice none 0 0) (.slice none 0 0);obtain ⟨W2,gr,b2,z2,C2⟩:=dz W1 (.int .u64 e) (.int .u64 g) (.int .u64 x) (.int .i64 t) (.slice none 0 0) (.slice none 0 0);rw [z0] at C1 z1;rw [z1] at C2 z2;have Y2:=ae (show YB W2 w.heap.size [.int .u64 e,.int .u64 g,.int .u64 x,.int .i64 t,.slice p n c,.slice q m d] [.int .u64 e,.int .u64 g,.int .u64 x,.int .i64 t,.slice none 0 0,.slice none 0 0] from ⟨(C0.below b1).below b2,C1.below b2,C2⟩);have B2:=ae (ai (ai b0 b1) b2);clear b0 b1 b2 C0 C1 C2;go_enter func24,ntmps24;go_wp2_with fail;rw [<-dT,<-fN,<-gr];clear dT fN gr
 go_loopw [4] (fun iv wr=>∃ (k:Nat) (M:List aR) (Qk:List Value) (po:Option Addr) (co:Nat),k<=n/\iv=.int .i64 k/\Hid (M.length=k)/\Hid (ss.take k=M)/\Hid (YB wr w.heap.size [.int .u64 e,.int .u64 g,.int .u64 x,.int .i64 t,.slice p n c,.slice q m d] [.int .u64 e,.int .u64 g,.int .u64 x,.int .i64 t,.slice po k co,.slice none 0 0])/\Hid (fK (w.heap.size+1+1+1) wr (.slice po k co) M Qk)/\Hid (Below w.heap.size w wr)/\Hid (w.heap.size+1+1+1<=wr.heap.size)) (fun iv _=>n-(intOf iv).toNat)
 case atStart=>exact ⟨0,[],[],none,0,Nat.zero_le _,rfl,ae rfl,(by show _=_;simp),Y2,fK.nil _ _,B2,(by show _<=_;omega)⟩
 case round =>(
 obtain ⟨k,M,Qk,po,co,hk,rfl,eM,hM,hY,Ib,aE,pR⟩:=hrel;have zr:=aa pR;obtain ⟨k0,k1,k2,k3,k4,k5,kf⟩:=hY.1.cells;by_cases aU:k<n;{
 have aV:(k:Int)<(n:Int):=by omega
 obtain ⟨s,hs⟩:∃ s,ss[k]?=some s:=⟨_,aH (by rw [aa en];exact aU)⟩;have E1:=ae (by rw [List.take_add_one,hs,aa hM];rfl:ss.take (k+1)=M++[s]);obtain ⟨Kw,Ux⟩:=aa sR s (aL hs);have Tf:=ae Ux;obtain ⟨b,o,u,rfl,c0,c1,c2,hu⟩:=nR.get HR.1 hs;obtain ⟨pu,cu,rfl,zJ⟩:=hu;have RU:=ae (show nS w (.slice pu s.2.2.length cu) s.2.2 from ⟨pu,cu,rfl,zJ⟩);obtain ⟨nu,Xb⟩:∃ nu,Hid (s.2.2.length=nu):=⟨_,ae rfl⟩;rw [aa Xb] at c2 RU Kw;have d0:=fun (ob:Obj)=>af (af c0 aE) ((Below.refl wr.heap.size wr).alloc ay ob);have d1:=fun (ob:Obj)=>af (af c1 aE) ((Below.refl wr.heap.size wr).alloc ay ob);have d2:=fun (ob:Obj)=>af (af c2 aE) ((Below.refl wr.heap.size wr).alloc ay ob);obtain ⟨V1,Jl,bv1,zv1,CV,-⟩:=au wr #[.int .u64 s.1,.int .i64 s.2.1,.slice pu nu cu] 95;have VC:=ae CV;have BV:=ae bv1;have i0:=af c0 aE;have i1:=af c1 aE;have i2:=af c2 aE;clear hs zJ c0 c1 c2 Ux CV bv1;go_wp2_with fail;rw [<-Jl];clear Jl d0 d1 d2 i0 i1 i2 k0 k1 k2 k3 k4 k5 kf;obtain ⟨vA,bt⟩:=ax V1.drew;have bG:Below V1.heap.size V1 vA:=by rw [bt];exact ar.drew
 have BA:=ae (Below.refl vA.heap.size vA);have HC:=ae (fun (v:World) (hv:Below vA.heap.size vA v)=>ag (ag (af (VC.1 0 _ rfl) (ai bG hv)) (ag (af (VC.1 1 _ rfl) (ai bG hv)) (af (VC.1 2 _ rfl) (ai bG hv)))) (ag (YB.fr (aa hY) (Fr.below (T:=[]) (ai (ai (aa BV) bG) hv)) (by simp)) (ag (fK.fr (aa Ib) (Fr.below (T:=[]) (ai (ai (aa BV) bG) hv)) (by decide)) (ag (ai (aa aE) (ai (ai (aa BV) bG) hv)) (ai (ai (aa BV) bG) hv)))));have zA:=bG.size;refine wp_region_noPanic ?_;refine wp_region_held_drew (S:=fun w'=>w'.cell? ⟨wr.heap.size,0,none⟩=some (.int .u64 s.1)/\w'.cell? ⟨wr.heap.size,1,none⟩=some (.int .i64 s.2.1)/\w'.cell? ⟨wr.heap.size,2,none⟩=some (.slice pu nu cu)) (by kernel_rfl) (by rw [<-bt];exact (aa HC vA ar).1) (fun hS=>?_);rw [<-bt] at hS ⊢;clear bt bG;refine gD 0 2 3 4 hS ?_;refine fq 5 6 hS ?_;refine tn 7 hS ?_;refine ry [1,8] ?_;refine cn (fun KK hK=>?_) ?_;rotate_left;refine cn (fun KK hK=>?_) ?_;rotate_left;exact AllReadyH.nil;have cq:=(aa HC vA BA).2.1.2.2.1.1 4 _ rfl;go_simp;refine bM hK (by exact (aa HC vA BA).1) fun hS=>?_;clear hK KK cq;refine ry [8] ?_;refine cn (fun KK hK=>?_) ?_;rotate_left;exact AllReadyH.nil
 rotate_right
 refine iG (Df pu cu nu s.2.2 Xb vA (RU.below (aa HC vA BA).2.2.2.1) Kw Tf) ?_;rintro r v1 ⟨pa,ca,rfl,oa,dR⟩;refine ⟨_,rfl,?_⟩;have B1:=ae dR;have OA:=ae oa;have z1a:=dR.size;refine bM hK (by exact (aa HC v1 B1).1) fun hS=>?_;clear hK KK dR oa;refine tn 9 hS ?_;refine ry [10] ?_;refine cn (fun KK hK=>?_) ?_;rotate_left;exact AllReadyH.nil
 rotate_right
 go_simp;obtain ⟨Z,hZ,bZ,zZ,CZ,-⟩:=au v1 #[.int .u64 s.1,.int .i64 s.2.1,.slice pa nu ca] 95;rw [<-hZ];have B2:=ae (ai B1 bZ);have AO:=ae CZ;have TZ:=ae (qn.fr OA (Fr.below (T:=[]) bZ) (by decide));refine bM hK (by exact (aa HC Z B2).1) fun hS=>?_;clear hK KK hZ bZ CZ;rotate_left;refine iG (Df pu cu nu s.2.2 Xb vA (RU.below (aa HC vA BA).2.2.2.1) Kw Tf) ?_;rintro r v1 ⟨pa,ca,rfl,oa,dR⟩;refine ⟨_,rfl,?_⟩;have B1:=ae dR;have OA:=ae oa;have z1a:=dR.size;refine bM hK (by exact (aa HC v1 B1).1) fun hS=>?_;clear hK KK dR oa;refine tn 9 hS ?_;refine ry [1,10] ?_;refine cn (fun KK hK=>?_) ?_;rotate_left;refine cn (fun KK hK=>?_) ?_;rotate_left;exact AllReadyH.nil;rotate_left;have cq:=(aa HC v1 B1).2.1.2.2.1.1 4 _ rfl;go_simp;refine bM hK (by exact (aa HC v1 B1).1) fun hS=>?_;clear hK KK cq;refine ry [10] ?_;refine cn (fun KK hK=>?_) ?_;rotate_left;exact AllReadyH.nil
 rotate_right
 go_simp;obtain ⟨Z,hZ,bZ,zZ,CZ,-⟩:=au v1 #[.int .u64 s.1,.int .i64 s.2.1,.slice pa nu ca] 95;rw [<-hZ];have B2:=ae (ai B1 bZ);have AO:=ae CZ;have TZ:=ae (qn.fr OA (Fr.below (T:=[]) bZ) (by decide));refine bM hK (by exact (aa HC Z B2).1) fun hS=>?_;clear hK KK hZ bZ CZ;rotate_left;go_simp;obtain ⟨Z,hZ,bZ,zZ,CZ,-⟩:=au v1 #[.int .u64 s.1,.int .i64 s.2.1,.slice pa nu ca] 95;rw [<-hZ];have B2:=ae (ai B1 bZ);have AO:=ae CZ;have TZ:=ae (qn.fr OA (Fr.below (T:=[]) bZ) (by decide));refine bM hK (by exact (aa HC Z B2).1) fun hS=>?_;clear hK KK hZ bZ CZ;refine ry [1] ?_;refine cn (fun KK hK=>?_) ?_;rotate_left;exact AllReadyH.nil
 rotate_right
 have cq:=(aa HC Z B2).2.1.2.2.1.1 4 _ rfl;go_simp;refine bM hK (by exact (aa HC Z B2).1) fun hS=>?_;clear hK KK cq
 all_goals (
  obtain ⟨-,YZ,SZ,VY,brZ⟩:=aa HC Z B2;have zZ2:=B2.size;have hlz:(M.zip Qk).length=k:=by rw [List.length_zip,SZ.len,aa eM];simp
  have H4:=ae (ag YZ (ag SZ (ag VY brZ)));refine ry [11] ?_;refine cn (fun KK hK=>?_) ?_;rotate_left;exact AllReadyH.nil
  rotate_right
  refine jV (by rfl) _ _ 32 (by rfl) (w.heap.size+1+1+1) 95 is _ 3 40 underlying32 HI.1.1 HI.1.2.1 HI.1.2.2.1 HI.1.2.2.2 rfl (by decide) (.slice po k co) (M.zip Qk) k (ae hlz) (by rfl) SZ.row v1.heap.size (s,.slice pa nu ca) [.int .u64 s.1,.int .i64 s.2.1,.slice pa nu ca] (by rfl) rfl rfl (fun j u hu=>AO.1 j u hu) (fun u hu=>by simp at hu;rcases hu with rfl | rfl | rfl<;>rfl) (fun w' hf x c hx=>hx) (by omega) (by omega) (by omega) ?_;intro p' c' w9 Gx ue f9 _;have S8:=ae (YB.fr H4.1 f9 (by decide));have S9:=ae (fK.snoc H4.2.1 f9 (RT.mono TZ (by omega):qn (w.heap.size+1+1+1) Z _ _) (fun j Q' b' hq hb e2=>by have h1:=(TZ.lt b' e2).1;obtain ⟨s',vh⟩:∃ s',M[j]?=some s':=⟨_,aH (by rw [<-Ib.len];exact (aM.1 hq).1)⟩;have h2:=((Ib.DR j s' Q' vh hq).lt b' hb).2;omega) Gx)
  have B9:=ae (H4.2.2.1.grown ue (by omega) (fun b' e=>by have:=(H4.2.1.row.lt b' e).1;omega));have wC:∀ b',(Value.slice po k co).ownBlock=some b'->b'≠wr.heap.size:=fun b' e=>by have:=(Ib.row.lt b' e).2;omega
  have kX:=ue.block wr.heap.size (by omega) (fun e=>wC _ e.symm rfl);have z9:=ue.size;refine bM hK (by exact ⟨(aj kX _).trans hS.1,(aj kX _).trans hS.2.1,(aj kX _).trans hS.2.2⟩) fun hS=>?_;clear hK KK Gx ue f9 wC kX YZ SZ VY brZ;refine tn 12 hS ?_;refine ry [13] ?_;refine cn (fun KK hK=>?_) ?_;rotate_left;exact AllReadyH.nil
  rotate_right
  have y4:=S8.2.2.1.1 4 _ rfl;have yf:=S8.2.2.1.2;go_simp;obtain ⟨Y10,Tl⟩:=YB.set (aa S8) 4 (by simp) (.slice p' (k+1) c');have kX:=dr w9 ⟨w.heap.size+1+1,4,none⟩ (.slice p' (k+1) c') wr.heap.size (by show wr.heap.size≠w.heap.size+1+1;omega);refine bM hK (by exact ⟨(aj kX _).trans hS.1,(aj kX _).trans hS.2.1,(aj kX _).trans hS.2.2⟩) fun hS=>?_;clear hK KK y4 yf kX;refine wpAnyH_done (by kernel_rfl) ?_ _;refine bc ?_;clear hS;have Jv:=ae (ag Y10 (ag (S9.fr Tl (by decide)) (ag (B9.setCell (p:=⟨w.heap.size+1+1,4,none⟩) (by show w.heap.size<=w.heap.size+1+1;omega) (.slice p' (k+1) c')) Tl.1)));clear Y10 Tl;go_wp2;go_roundw
  case rel=>exact ⟨k+1,_,_,p',c',by omega,by go_num,ae (by rw [List.length_append,aa eM];rfl),E1,Jv.1,Jv.2.1,Jv.2.2.1,ae (by have:=Jv.2.2.2;omega)⟩
  case measure=>simp [intOf];omega)}
 {
 have aV:¬ (k:Int)<(n:Int):=by omega
 have ek:k=n:=by omega
 subst ek;have e1:=aa hM;rw [List.take_of_length_le (by rw [aa en];omega)] at e1;subst e1;go_wp2_with fail;clear k0 k1 k2 k3 k4 k5 kf
 go_loopw [6] (fun iv Xy=>∃ (j:Nat) (N:List aA) (qo:Option Addr) (dx:Nat),j<=m/\iv=.int .i64 j/\Hid (N.length=j)/\Hid (ns.take j=N)/\Hid (YB Xy w.heap.size [.int .u64 e,.int .u64 g,.int .u64 x,.int .i64 t,.slice p k c,.slice q m d] [.int .u64 e,.int .u64 g,.int .u64 x,.int .i64 t,.slice po k co,.slice qo j dx])/\Hid (fK (w.heap.size+1+1+1) Xy (.slice po k co) ss Qk)/\Hid (dA (w.heap.size+1+1+1) Xy (.slice qo j dx) N)/\Hid (Below w.heap.size w Xy)/\Hid (w.heap.size+1+1+1<=Xy.heap.size)) (fun iv _=>m-(intOf iv).toNat)
 case atStart=>exact ⟨0,[],none,0,Nat.zero_le _,rfl,ae rfl,(by show _=_;simp),hY,Ib,RT.nil _ _ _ _ _,aE,pR⟩
 case round =>(
 clear Ib hY aE pR zr;obtain ⟨j,N,qo,dx,hj,rfl,eN,hNt,hY,Ib,C5,aE,pR⟩:=hrel;have zr:=aa pR;obtain ⟨k0,k1,k2,k3,k4,k5,kf⟩:=hY.1.cells;by_cases tz:j<m;{
 have KJ:(j:Int)<(m:Int):=by omega
 obtain ⟨nd,hx⟩:∃ nd,ns[j]?=some nd:=⟨_,aH (by rw [aa em];exact tz)⟩;have E1:=ae (by rw [List.take_add_one,hx,aa hNt];rfl:ns.take (j+1)=N++[nd]);obtain ⟨l0,l1,l4,l7⟩:=aa qD nd (aL hx);obtain ⟨b,o,rfl,hA⟩:=HR.2.at (by rw [aa em];omega);obtain ⟨P0,P1,P4,P7,hA⟩:=hA j nd hx;obtain ⟨p0,VX,en0,-⟩:=id hA.r0;obtain ⟨p1,VW,SC,-⟩:=id hA.r1;obtain ⟨p4,c4',en4,-⟩:=id hA.r4;obtain ⟨p7,c7',en7,-⟩:=id hA.r7;subst en0 SC en4 en7;obtain ⟨n0,f0⟩:∃ z,Hid (nd.path.length=z):=⟨_,ae rfl⟩;obtain ⟨n1,f1⟩:∃ z,Hid (nd.value.length=z):=⟨_,ae rfl⟩;obtain ⟨n4,f4⟩:∃ z,Hid (nd.holders.length=z):=⟨_,ae rfl⟩;obtain ⟨n7,f7⟩:∃ z,Hid (nd.watchers.length=z):=⟨_,ae rfl⟩;rw [aa f0,aa f1,aa f4,aa f7] at hA;rw [aa f0] at l0;rw [aa f1] at l1;rw [aa f4] at l4;rw [aa f7] at l7;have SS:=ae (fun (v:World) (out:List Value) (hy:YB v w.heap.size [.int .u64 e,.int .u64 g,.int .u64 x,.int .i64 t,.slice p k c,.slice (some ⟨b,o,none⟩) m d] out) (hv:Below w.heap.size w v)=>ag (hy.1.1.1 5 _ rfl) (ag (af hA.c0 hv) (ag (af hA.c1 hv) (ag (af hA.c2 hv) (ag (af hA.c3 hv) (ag (af hA.c4 hv) (ag (af hA.c5 hv) (ag (af hA.c6 hv) (af hA.c7 hv)))))))));have Te:=ae (fun (v:World) (hv:Below w.heap.size w v)=>ag (hA.r0.below hv) (ag (hA.r1.below hv) (ag (hA.r4.below hv) (hA.r7.below hv))));clear hx hA;go_wp2_with fail;clear k0 k1 k2 k3 k4 k5 kf;obtain ⟨vA,bt⟩:=ax wr.drew;have bG:Below wr.heap.size wr vA:=by rw [bt];exact ar.drew
 have BA:=ae (Below.refl vA.heap.size vA);have HC:=ae (fun (v:World) (hv:Below vA.heap.size vA v)=>ag (aa SS v _ (YB.fr (aa hY) (Fr.below (T:=[]) (ai bG hv)) (by simp)) (ai (aa aE) (ai bG hv))) (ag (YB.fr (aa hY) (Fr.below (T:=[]) (ai bG hv)) (by simp)) (ag (fK.fr (aa Ib) (Fr.below (T:=[]) (ai bG hv)) (by decide)) (ag (dA.fr (aa C5) (Fr.below (T:=[]) (ai bG hv)) (by decide)) (ai (aa aE) (ai bG hv))))));have zA:=bG.size;refine wp_region_noPanic ?_;refine wp_region_held_drew (S:=fun w'=>w'.cell? ⟨w.heap.size,5,none⟩=some (.slice (some ⟨b,o,none⟩) m d)/\w'.cell? ⟨b,o+j*8,none⟩=some (.slice p0 n0 VX)/\w'.cell? ⟨b,o+j*8+1,none⟩=some (.slice p1 n1 VW)/\w'.cell? ⟨b,o+j*8+2,none⟩=some (.int .u64 nd.owner)/\w'.cell? ⟨b,o+j*8+3,none⟩=some (.int .i64 nd.mode)/\w'.cell? ⟨b,o+j*8+4,none⟩=some (.slice p4 n4 c4')/\w'.cell? ⟨b,o+j*8+5,none⟩=some (.int .u64 nd.aC)/\w'.cell? ⟨b,o+j*8+6,none⟩=some (.int .u64 nd.gen)/\w'.cell? ⟨b,o+j*8+7,none⟩=some (.slice p7 n7 c7')) (by kernel_rfl) (by rw [<-bt];exact (aa HC vA ar).1) (fun hS=>?_);rw [<-bt] at hS ⊢;clear bt bG;refine gD 0 2 3 4 hS ?_;refine fq 5 6 hS ?_;refine ry [1,7] ?_;refine cn (fun KK hK=>?_) ?_;rotate_left;refine cn (fun KK hK=>?_) ?_;rotate_left;exact AllReadyH.nil;have cq:=(aa HC vA BA).2.1.2.2.1.1 5 _ rfl;go_simp;refine bM hK (by exact (aa HC vA BA).1) fun hS=>?_;clear hK KK cq;refine ry [7] ?_;refine cn (fun KK hK=>?_) ?_;rotate_left;exact AllReadyH.nil
 rotate_right
 refine dw (by rfl) 65 _ _ (by rfl) (Ey (.slice p0 n0 VX) (.slice p1 n1 VW) nd.owner nd.mode (.slice p4 n4 c4') nd.aC nd.gen (.slice p7 n7 c7')) (by rfl) (fun _=>aa HCG _ _) (vO nd p0 p1 p4 p7 VX VW c4' c7' n0 n1 n4 n7 f0 f1 f4 f7 vA (aa Te vA (aa HC vA BA).2.2.2.2).1 (aa Te vA (aa HC vA BA).2.2.2.2).2.1 (aa Te vA (aa HC vA BA).2.2.2.2).2.2.1 (aa Te vA (aa HC vA BA).2.2.2.2).2.2.2 l0 l1 l4 l7) ?_;rintro r v1 ⟨q0,d0,q1,d1,q4,d4,q7,d7,rfl,t0,t1,t4,t7,dR⟩;refine ⟨_,rfl,?_⟩;have B1:=ae dR;have OA:=ae (ag t0 (ag t1 (ag t4 t7)));have z1a:=dR.size;refine bM hK (by exact (aa HC v1 B1).1) fun hS=>?_;clear hK KK dR t0 t1 t4 t7;refine ry [8] ?_;refine cn (fun KK hK=>?_) ?_;rotate_left;exact AllReadyH.nil
 rotate_right
 go_simp;obtain ⟨Z,hZ,bZ,zZ,CZ,-⟩:=au v1 #[.slice q0 n0 d0,.slice q1 n1 d1,.int .u64 nd.owner,.int .i64 nd.mode,.slice q4 n4 d4,.int .u64 nd.aC,.int .u64 nd.gen,.slice q7 n7 d7] 103;rw [<-hZ];have B2:=ae (ai B1 bZ);have AO:=ae CZ;have TZ:=ae (ag (OA.1.fr (Fr.below (T:=[]) bZ) (by decide)) (ag (OA.2.1.fr (Fr.below (T:=[]) bZ) (by decide)) (ag (OA.2.2.1.fr (Fr.below (T:=[]) bZ) (by decide)) (OA.2.2.2.fr (Fr.below (T:=[]) bZ) (by decide)))));refine bM hK (by exact (aa HC Z B2).1) fun hS=>?_;clear hK KK hZ bZ CZ;rotate_left;refine dw (by rfl) 65 _ _ (by rfl) (Ey (.slice p0 n0 VX) (.slice p1 n1 VW) nd.owner nd.mode (.slice p4 n4 c4') nd.aC nd.gen (.slice p7 n7 c7')) (by rfl) (fun _=>aa HCG _ _) (vO nd p0 p1 p4 p7 VX VW c4' c7' n0 n1 n4 n7 f0 f1 f4 f7 vA (aa Te vA (aa HC vA BA).2.2.2.2).1 (aa Te vA (aa HC vA BA).2.2.2.2).2.1 (aa Te vA (aa HC vA BA).2.2.2.2).2.2.1 (aa Te vA (aa HC vA BA).2.2.2.2).2.2.2 l0 l1 l4 l7) ?_;rintro r v1 ⟨q0,d0,q1,d1,q4,d4,q7,d7,rfl,t0,t1,t4,t7,dR⟩;refine ⟨_,rfl,?_⟩;have B1:=ae dR;have OA:=ae (ag t0 (ag t1 (ag t4 t7)));have z1a:=dR.size;refine bM hK (by exact (aa HC v1 B1).1) fun hS=>?_;clear hK KK dR t0 t1 t4 t7;refine ry [1,8] ?_;refine cn (fun KK hK=>?_) ?_;rotate_left;refine cn (fun KK hK=>?_) ?_;rotate_left;exact AllReadyH.nil;rotate_left;have cq:=(aa HC v1 B1).2.1.2.2.1.1 5 _ rfl;go_simp;refine bM hK (by exact (aa HC v1 B1).1) fun hS=>?_;clear hK KK cq;refine ry [8] ?_;refine cn (fun KK hK=>?_) ?_;rotate_left;exact AllReadyH.nil
 rotate_right
 go_simp;obtain ⟨Z,hZ,bZ,zZ,CZ,-⟩:=au v1 #[.slice q0 n0 d0,.slice q1 n1 d1,.int .u64 nd.owner,.int .i64 nd.mode,.slice q4 n4 d4,.int .u64 nd.aC,.int .u64 nd.gen,.slice q7 n7 d7] 103;rw [<-hZ];have B2:=ae (ai B1 bZ);have AO:=ae CZ;have TZ:=ae (ag (OA.1.fr (Fr.below (T:=[]) bZ) (by decide)) (ag (OA.2.1.fr (Fr.below (T:=[]) bZ) (by decide)) (ag (OA.2.2.1.fr (Fr.below (T:=[]) bZ) (by decide)) (OA.2.2.2.fr (Fr.below (T:=[]) bZ) (by decide)))));refine bM hK (by exact (aa HC Z B2).1) fun hS=>?_;clear hK KK hZ bZ CZ;rotate_left;go_simp;obtain ⟨Z,hZ,bZ,zZ,CZ,-⟩:=au v1 #[.slice q0 n0 d0,.slice q1 n1 d1,.int .u64 nd.owner,.int .i64 nd.mode,.slice q4 n4 d4,.int .u64 nd.aC,.int .u64 nd.gen,.slice q7 n7 d7] 103;rw [<-hZ];have B2:=ae (ai B1 bZ);have AO:=ae CZ;have TZ:=ae (ag (OA.1.fr (Fr.below (T:=[]) bZ) (by decide)) (ag (OA.2.1.fr (Fr.below (T:=[]) bZ) (by decide)) (ag (OA.2.2.1.fr (Fr.below (T:=[]) bZ) (by decide)) (OA.2.2.2.fr (Fr.below (T:=[]) bZ) (by decide)))));refine bM hK (by exact (aa HC Z B2).1) fun hS=>?_;clear hK KK hZ bZ CZ;refine ry [1] ?_;refine cn (fun KK hK=>?_) ?_;rotate_left;exact AllReadyH.nil
 rotate_right
 have cq:=(aa HC Z B2).2.1.2.2.1.1 5 _ rfl;go_simp;refine bM hK (by exact (aa HC Z B2).1) fun hS=>?_;clear hK KK cq
 all_goals (
  obtain ⟨-,YZ,SZ,NZ,VY⟩:=aa HC Z B2;have zZ2:=B2.size;have H4:=ae (ag YZ (ag SZ (ag NZ VY)));refine ry [9] ?_;refine cn (fun KK hK=>?_) ?_;rotate_left;exact AllReadyH.nil
  rotate_right
  refine jV (by rfl) _ _ 33 (by rfl) (w.heap.size+1+1+1) 103 iN _ 8 128 underlying33 HI.2.1 HI.2.2.1 HI.2.2.2.1 HI.2.2.2.2 rfl (by decide) (.slice qo j dx) N j eN (by rfl) NZ v1.heap.size nd [.slice q0 n0 d0,.slice q1 n1 d1,.int .u64 nd.owner,.int .i64 nd.mode,.slice q4 n4 d4,.int .u64 nd.aC,.int .u64 nd.gen,.slice q7 n7 d7] (by rfl) ⟨_,_,_,_,rfl,TZ.1,TZ.2.1,TZ.2.2.1,TZ.2.2.2⟩ rfl (fun j u hu=>AO.1 j u hu) (fun u hu=>by simp at hu;rcases hu with rfl | rfl | rfl | rfl | rfl | rfl | rfl | rfl<;>rfl) (fun w' hf=>jH.fr hf (by decide) (by decide)) (by omega) (by omega) (by omega) ?_;intro p' c' w9 Gx ue f9 _;have S8:=ae (YB.fr H4.1 f9 (by decide));have S9:=ae (ag (H4.2.1.fr f9 (by decide)) Gx);have B9:=ae (H4.2.2.2.grown ue (by omega) (fun b' e=>by have:=(H4.2.2.1.lt b' e).1;omega));have z9:=ue.size;refine bM hK (by exact SS w9 _ S8 B9) fun hS=>?_;clear hK KK Gx ue f9 YZ SZ NZ VY;refine tn 10 hS ?_;refine ry [11] ?_;refine cn (fun KK hK=>?_) ?_;rotate_left;exact AllReadyH.nil
  rotate_right
  have y4:=S8.2.2.1.1 5 _ rfl;have yf:=S8.2.2.1.2;go_simp;obtain ⟨Y10,Tl⟩:=YB.set (aa S8) 5 (by simp) (.slice p' (j+1) c');have Jv:=ae (ag Y10 (ag (S9.1.fr Tl (by decide)) (ag (dA.fr S9.2 Tl (by decide)) (ag (B9.setCell (p:=⟨w.heap.size+1+1,5,none⟩) (by show w.heap.size<=w.heap.size+1+1;omega) (.slice p' (j+1) c')) Tl.1))));refine bM hK (by exact SS _ _ Jv.1 Jv.2.2.2.1) fun hS=>?_;clear hK KK y4 yf Y10 Tl;refine wpAnyH_done (by kernel_rfl) ?_ _;refine bc ?_;clear hS;go_wp2;go_roundw
  case rel=>exact ⟨j+1,_,p',c',by omega,by go_num,ae (by rw [List.length_append,aa eN];rfl),E1,Jv.1,Jv.2.1,Jv.2.2.1,Jv.2.2.2.1,ae (by have:=Jv.2.2.2.2;omega)⟩
  case measure=>simp [intOf];omega)}
 {
 have KJ:¬ (j:Int)<(m:Int):=by omega
 have ej:j=m:=by omega
 subst ej;have e2:=aa hNt;rw [List.take_of_length_le (by rw [aa em];omega)] at e2;subst e2;obtain ⟨y0,y1,y2,y3,y4,y5,yf⟩:=hY.2.2.cells;obtain ⟨r0,r1,r2,r3,r4,r5,rf⟩:=hY.2.1.cells;have hb:=cE wr (w.heap.size+1) (.int .u64 e) (.int .u64 g) (.int .u64 x) (.int .i64 t) (.slice po k co) (.slice qo j dx);have hf:Fr [35] wr (db wr (w.heap.size+1) (.int .u64 e) (.int .u64 g) (.int .u64 x) (.int .i64 t) (.slice po k co) (.slice qo j dx)):=by obtain ⟨-,cur,ht⟩:=hY.2.1;exact gH ht
 have HF:=ae (ag hb hf);clear hb hf;go_wp2;refine bodyPost_ret (v:=cL e g x t (.slice po k co) (.slice qo j dx)) (by simp [results,results24,go_sem,r0,r1,r2,r3,r4,r5]) rfl ?_;exact ⟨po,co,qo,dx,rfl,⟨Qk,(Ib.fr HF.2 (by decide)).mono (by omega)⟩,RT.mono (dA.fr C5 HF.2 (by decide)) (by omega),aE.trans (HF.1.mono (by omega))⟩})})
def jI (B:Nat) (w:World) (p:Option Addr) (n c:Nat) (q:Option Addr) (m d:Nat) (ss:List aR) (ns:List aA):Prop:=
 ∃ A1 A2,jP w (.slice p n c) ss/\jB w (.slice q m d) ns/\mP w (.slice p n c) ss A1/\mJ w (.slice q m d) ns A2/\jJ B w (A1++A2)
theorem jI.zero (B:Nat) (w:World):jI B w none 0 0 none 0 0 [] []:=
 ⟨[],[],⟨none,0,rfl,.inl rfl⟩,⟨none,0,rfl,.inl rfl⟩,⟨none,0,[],rfl,rfl,rfl,.inl rfl⟩,⟨none,0,[],rfl,rfl,rfl,.inl rfl⟩,jJ.nil _ _⟩
theorem jI.aN {n c m d:Nat} (h:jI B w p n c q m d ss ns) (hk:∀ b,B<=b->b<w.heap.size->w'.heap[b]?=w.heap[b]?):jI B w' p n c q m d ss ns:=by
 obtain ⟨A1,A2,h1,h2,h3,h4,h5⟩:=h;have k:∀ a∈A1++A2,w'.heap[a.b]?=w.heap[a.b]?:=fun a ha=>hk _ (h5.lo a ha) (h5.oz.lt ha);have k1:∀ a∈A1,w'.heap[a.b]?=w.heap[a.b]?:=fun a ha=>k a (List.mem_append_left _ ha);have k2:∀ a∈A2,w'.heap[a.b]?=w.heap[a.b]?:=fun a ha=>k a (List.mem_append_right _ ha);exact ⟨A1,A2,h1.bE h3 k1,h2.bE h4 k2,mP.aN h3 k1,mJ.aN h4 k2,h5.aN k⟩
theorem yl (k i e g s:Int) (p1 q1 p2 q2 p3 q3:Option Addr) (c1 d1 c2 d2 c3 d3 n1 n2 n3:Nat) (iy:List Int) (fS:List (List Int)) (gy:List Ev) (e1:Hid (iy.length=n1)) (e2:Hid (fS.length=n2)) (e3:Hid (gy.length=n3)) (w:World)
  (a1:Rd w (.slice p1 n1 c1) iy) (a2:yA w (.slice p2 n2 c2) fS) (a3:nS w (.slice p3 n3 c3) gy) (b1:Rd w (.slice q1 n1 d1) iy) (b2:yA w (.slice q2 n2 d2) fS) (b3:nS w (.slice q3 n3 d3) gy) (h1:n1<=1048576) (h2:n2<=1048576) (h3:n3<=1048576) (l2:Hid (∀ y∈fS,y.length<=1048576)) (l3:Hid (∀ y∈gy,y.2.length<=1048576)) :
  Calls prog 11 #[fM k i e g s (.slice p1 n1 c1) (.slice p2 n2 c2) (.slice p3 n3 c3),fM k i e g s (.slice q1 n1 d1) (.slice q2 n2 d2) (.slice q3 n3 d3)] w fun r w'=>r=.returned (.bool true)/\Below w.heap.size w w':=by
 have HR:=ae fun (w':World) (hb:Below w.heap.size w w')=>ag (ag (a1.below hb) (ag (a2.below hb) (a3.below hb))) (ag (b1.below hb) (ag (b2.below hb) (b3.below hb)));have k1:(k != k)=false:=by simp
 have k2:(i != i)=false:=by simp
 have k3:(e != e)=false:=by simp
 have k4:(g != g)=false:=by simp
 have k5:(s != s)=false:=by simp
 obtain ⟨X,hX,bX,zX,CX⟩:=fo w (.int .i64 k) (.int .u64 i) (.int .u64 e) (.int .u64 g) (.int .i64 s) (.slice p1 n1 c1) (.slice p2 n2 c2) (.slice p3 n3 c3);obtain ⟨Y,hY,bY,zY,CY⟩:=fo X (.int .i64 k) (.int .u64 i) (.int .u64 e) (.int .u64 g) (.int .i64 s) (.slice q1 n1 d1) (.slice q2 n2 d2) (.slice q3 n3 d3);rw [zX] at CY;have bW:=ai bX bY;have HC:=ae fun (v:World) (hv:Below Y.heap.size Y v)=>ag ((CX.below bY).below hv) (CY.below hv);go_enter func11,ntmps11;obtain ⟨⟨x0,x1,x2,x3,x4,x5,x6,x7,-⟩,⟨y0,y1,y2,y3,y4,y5,y6,y7,-⟩⟩:=ag (aa HC Y ar).1.cells (aa HC Y ar).2.cells;rw [hY,hX] at x0 x1 x2 x3 x4 x5 x6 x7 y0 y1 y2 y3 y4 y5 y6 y7;go_wp2_with fail;rw [<-hX,<-hY];refine (iM p1 q1 c1 d1 n1 iy e1 _ (aa HR Y bW).1.1 (aa HR Y bW).2.1 (by omega)).mono ?_;rintro r w1 ⟨rfl,aK⟩;obtain ⟨⟨x0,x1,x2,x3,x4,x5,x6,x7,-⟩,⟨y0,y1,y2,y3,y4,y5,y6,y7,-⟩⟩:=ag (aa HC w1 aK).1.cells (aa HC w1 aK).2.cells;have B1:=ae aK;go_wp2_with fail;refine (Ip p2 q2 c2 d2 n2 fS e2 _ (aa HR w1 (ai bW B1)).1.2.1 (aa HR w1 (ai bW B1)).2.2.1 h2 l2).mono ?_;rintro r w2 ⟨rfl,aG⟩;have B2:=ae (ai B1 aG);obtain ⟨⟨x0,x1,x2,x3,x4,x5,x6,x7,-⟩,⟨y0,y1,y2,y3,y4,y5,y6,y7,-⟩⟩:=ag (aa HC w2 (aa B2)).1.cells (aa HC w2 (aa B2)).2.cells;go_wp2_with fail;refine (vI p3 q3 c3 d3 n3 gy e3 _ (aa HR w2 (ai bW B2)).1.2.2 (aa HR w2 (ai bW B2)).2.2.2 h3 l3).mono ?_;rintro r w3 ⟨rfl,cX⟩;have B3:=ae (ai bW (ai B2 cX));go_wp2;go_ret;exact ⟨rfl,B3⟩
theorem za (k i e g s:Int) (p1 p2 p3:Option Addr) (c1 c2 c3 n1 n2 n3:Nat) (iy:List Int) (fS:List (List Int)) (gy:List Ev) (A1 A2 A3:List Lf) (K:Int) (w:World) (h1:qs (.slice p1 n1 c1) iy A1) (h2:rS w (.slice p2 n2 c2) fS A2) (h3:kJ w (.slice p3 n3 c3) gy A3) (hA:aP w (A1++(A2++A3))) (K0:0<=K) (K1:K+(A1.length+(A2.length+A3.length):Nat)<=100000000) (hn:n2<=100000000) :
  Calls prog 15 #[fM k i e g s (.slice p1 n1 c1) (.slice p2 n2 c2) (.slice p3 n3 c3),.int .i64 K] w fun r w'=>r=.returned (.int .i64 (K+(A1.length+(A2.length+A3.length):Nat)))/\Mk w w' (A1++(A2++A3)) K:=by
 obtain ⟨L1,sC⟩:∃ L:Nat,Hid (A1.length=L):=⟨_,ae rfl⟩;obtain ⟨L2,DW⟩:∃ L:Nat,Hid (A2.length=L):=⟨_,ae rfl⟩;obtain ⟨L3,VP⟩:∃ L:Nat,Hid (A3.length=L):=⟨_,ae rfl⟩;rw [aa sC,aa DW,aa VP] at K1 ⊢;have HA:=ae (ag (aP.app.1 hA).1 (aP.app.1 (aP.app.1 hA).2));have H1:=ae h1;have H2:=ae h2;have H3:=ae h3;obtain ⟨X,hX,bX,zX,CX⟩:=fo w (.int .i64 k) (.int .u64 i) (.int .u64 e) (.int .u64 g) (.int .i64 s) (.slice p1 n1 c1) (.slice p2 n2 c2) (.slice p3 n3 c3);obtain ⟨x0,x1,x2,x3,x4,x5,x6,x7,xf⟩:=CX.cells;have HX6:=ae (ag x6 x7);rw [hX] at x5;go_enter func15,ntmps15;go_wp2_with fail;rw [<-hX];refine (fx p1 c1 n1 iy A1 K X (aa H1) (HA.1.below bX) K0 (by rw [aa sC];omega)).mono ?_;rintro r w1 ⟨rfl,m1⟩;have M1:=ae (by have:=(Mk.fG bX K).trans (by simpa using m1) (aP.nil _) HA.1;simpa using this:Mk w w1 A1 K);have y6:=m1.head (HA.1.below bX) HX6.1;have y7:=m1.head (HA.1.below bX) HX6.2;have HY7:=ae y7;rw [aa sC];obtain ⟨K2,As⟩:∃ K2:Int,K+(L1:Int)=K2:=⟨_,rfl⟩;rw [As];go_wp2_with fail;refine (zh p2 c2 n2 fS A2 K2 w1 (rS.mk (aa H2) (aa M1) HA.1) (HA.2.1.mk (aa M1) HA.1) (by omega) (by rw [aa DW];omega) hn).mono ?_;rintro r w2 ⟨rfl,m2⟩;have I2:aP w1 A2:=HA.2.1.mk M1 HA.1;have M2:=ae (M1.trans' m2 (by rw [aa sC,As]) HA.1 HA.2.1);have y7:=m2.head I2 HY7;rw [aa DW];obtain ⟨K3,DX⟩:∃ K3:Int,K2+(L2:Int)=K3:=⟨_,rfl⟩;rw [DX];have I12:aP w (A1++A2):=aP.app.2 ⟨HA.1,HA.2.1⟩;have HI:=ae I12;go_wp2_with fail;refine (oQ p3 c3 n3 gy A3 K3 w2 (kJ.mk (aa H3) (aa M2) (aa HI)) (HA.2.2.mk (aa M2) (aa HI)) (by omega) (by rw [aa VP];omega)).mono ?_;rintro r w3 ⟨rfl,m3⟩;have M3:=ae (M2.trans' m3 (by rw [List.length_append,aa sC,aa DW];push_cast;omega) (aa HI) HA.2.2);rw [aa VP];have eF:K3+(L3:Int)=K+((L1+(L2+L3):Nat):Int):=by push_cast;omega
 rw [eF];go_wp2;go_ret;exact ⟨rfl,by have:=aa M3;rwa [List.append_assoc] at this⟩
theorem Aa (k i e g s:Int) (p1 p2 p3:Option Addr) (c1 c2 c3 n1 n2 n3:Nat) (iy:List Int) (fS:List (List Int)) (gy:List Ev) (A1 A2 A3:List Lf) (K:Int) (w:World) (h1:qs (.slice p1 n1 c1) iy A1) (h2:rS w (.slice p2 n2 c2) fS A2) (h3:kJ w (.slice p3 n3 c3) gy A3) (hA:aY w (A1++(A2++A3)) K) (K0:0<=K) (K1:K+(A1.length+(A2.length+A3.length):Nat)<=100000000) (hn:n2<=100000000) :
  Calls prog 17 #[fM k i e g s (.slice p1 n1 c1) (.slice p2 n2 c2) (.slice p3 n3 c3),.int .i64 K] w fun r w'=>r=.returned (.int .i64 (K+(A1.length+(A2.length+A3.length):Nat)))/\Below w.heap.size w w':=by
 obtain ⟨L1,sC⟩:∃ L:Nat,Hid (A1.length=L):=⟨_,ae rfl⟩;obtain ⟨L2,DW⟩:∃ L:Nat,Hid (A2.length=L):=⟨_,ae rfl⟩;obtain ⟨L3,VP⟩:∃ L:Nat,Hid (A3.length=L):=⟨_,ae rfl⟩;have HA:=ae (ag hA.app.1 (ag hA.app.2.app.1 hA.app.2.app.2));rw [aa sC,aa DW] at HA;rw [aa sC,aa DW,aa VP] at K1 ⊢;have H1:=ae h1;have H2:=ae h2;have H3:=ae h3;obtain ⟨X,hX,bX,zX,CX⟩:=fo w (.int .i64 k) (.int .u64 i) (.int .u64 e) (.int .u64 g) (.int .i64 s) (.slice p1 n1 c1) (.slice p2 n2 c2) (.slice p3 n3 c3);obtain ⟨x0,x1,x2,x3,x4,x5,x6,x7,xf⟩:=CX.cells;have HX6:=ae (ag x6 x7);rw [hX] at x5;obtain ⟨K2,As⟩:∃ K2:Int,K+(L1:Int)=K2:=⟨_,rfl⟩;obtain ⟨K3,DX⟩:∃ K3:Int,K2+(L2:Int)=K3:=⟨_,rfl⟩;obtain ⟨K4,LH⟩:∃ K4:Int,K3+(L3:Int)=K4:=⟨_,rfl⟩;have g2:¬ K2<0:=by omega
 have g3:¬ K3<0:=by omega
 have g4:¬ K4<0:=by omega
 rw [As,DX] at HA;have eF:K+((L1+(L2+L3):Nat):Int)=K4:=by push_cast;omega
 rw [eF] at K1 ⊢;have q2:K2+L2<=100000000:=by omega
 have q1:K+L1<=100000000:=by omega
 have q3:K3+L3<=100000000:=by omega
 go_enter func17,ntmps17;go_wp2_with fail;rw [<-hX];refine (ig p1 c1 n1 iy A1 K X (aa H1) (HA.1.below bX) K0 (by rw [aa sC];omega)).mono ?_;rintro r w1 ⟨rfl,m1⟩;have y6:=af HX6.1 m1;have B1:=ae (ai bX m1);have HY7:=ae (af HX6.2 m1);rw [aa sC,As];go_wp2_with fail;refine (Ad p2 c2 n2 fS A2 K2 w1 (rS.below (aa H2) (aa B1)) (HA.2.1.below (aa B1)) (by omega) (by rw [aa DW];omega) hn).mono ?_;rintro r w2 ⟨rfl,m2⟩;have B2:=ae (ai B1 m2);have y7:=af HY7 m2;rw [aa DW,DX];go_wp2_with fail;refine (pj p3 c3 n3 gy A3 K3 w2 (kJ.below (aa H3) (aa B2)) (HA.2.2.below (aa B2)) (by omega) (by rw [aa VP];omega)).mono ?_;rintro r w3 ⟨rfl,m3⟩;have B3:=ae (ai B2 m3);rw [aa VP,LH];go_wp2;go_ret;exact ⟨rfl,B3⟩
theorem qW (e g x t:Int) (p q:Option Addr) (c n d m:Nat) (ss:List aR) (ns:List aA) (A1 A2:List Lf) (k:Int) (w:World) (h1:mP w (.slice p n c) ss A1) (h2:mJ w (.slice q m d) ns A2) (i1:aP w A1) (i2:aP w A2) (k0:0<=k) (k1:k+A1.length+A2.length<=100000000) :
  Calls prog 13 #[cL e g x t (.slice p n c) (.slice q m d),.int .i64 k] w fun r w'=>r=.returned (.int .i64 (k+A1.length+A2.length))/\Mk w w' (A1++A2) k:=by
 obtain ⟨W,hW⟩:=ax (w.alloc (.cells #[.int .u64 e,.int .u64 g,.int .u64 x,.int .i64 t,.slice p n c,.slice q m d] 35));have bW:Below w.heap.size w W:=by rw [hW];exact ar.alloc ay _
 have sw:js W w.heap.size e g x t (.slice p n c) (.slice q m d):=by rw [hW];simp [js]
 have M0:=Mk.fG bW k;have H1:=ae (mP.below h1 bW);have H2:=ae (mJ.below h2 bW);have I1:=ae (i1.below bW);have I2:=ae (i2.below bW);have J:=ae (ag i1 i2);have HM0:=ae M0;have HC:=ae sw;go_enter func13,ntmps13;go_wp2_with fail;rw [<-hW];refine (tk p c n ss A1 k _ H1 I1 k0 (by omega)).mono ?_;rintro r w1 ⟨rfl,m1⟩;obtain ⟨j0,j1,j2,j3,j4,j5⟩:=aa HC;have c4:w1.cell? ⟨w.heap.size,4,none⟩=some (.slice p n c):=m1.head I1 j4;have c5:w1.cell? ⟨w.heap.size,5,none⟩=some (.slice q m d):=m1.head I1 j5;have H3:=ae (mJ.mk H2 m1 I1);have I3:=ae (I2.mk m1 I1);have M1:=ae (HM0.trans' m1 (by simp) (aP.nil _) J.1);go_wp2_with fail;refine (zb q d m ns A2 (k+A1.length) _ H3 I3 (by omega) (by omega)).mono ?_;rintro r w2 ⟨rfl,m2⟩;have M2:=M1.trans' m2 (by simp) (by simpa using J.1) J.2;go_wp2;go_ret;exact ⟨rfl,by simpa using M2⟩
theorem z8 (e g x t:Int) (p q:Option Addr) (c n d m:Nat) (ss:List aR) (ns:List aA) (A1 A2:List Lf) (k:Int) (w:World) (h1:mP w (.slice p n c) ss A1) (h2:mJ w (.slice q m d) ns A2) (hh:aY w (A1++A2) k) (k0:0<=k) (k1:k+A1.length+A2.length<=100000000) :
  Calls prog 16 #[cL e g x t (.slice p n c) (.slice q m d),.int .i64 k] w fun r w'=>r=.returned (.int .i64 (k+A1.length+A2.length))/\Below w.heap.size w w':=by
 obtain ⟨W,hW⟩:=ax (w.alloc (.cells #[.int .u64 e,.int .u64 g,.int .u64 x,.int .i64 t,.slice p n c,.slice q m d] 35));have bW:Below w.heap.size w W:=by rw [hW];exact ar.alloc ay _
 have sw:js W w.heap.size e g x t (.slice p n c) (.slice q m d):=by rw [hW];simp [js]
 have H1:=ae (mP.below h1 bW);have H2:=ae (mJ.below h2 bW);have I1:=ae (hh.app.1.below bW);have I2:=ae (hh.app.2.below bW);have HC:=ae sw;go_enter func16,ntmps16;go_wp2_with fail;rw [<-hW];refine (tB p c n ss A1 k _ H1 I1 k0 (by omega)).mono ?_;rintro r w1 ⟨rfl,m1⟩;obtain ⟨j0,j1,j2,j3,j4,j5⟩:=HC.below m1;have Gy:¬ k+(A1.length:Int)<0:=by omega
 have H3:=ae (mJ.below H2 m1);have I3:=ae (I2.below m1);have b1:=ai bW m1;go_wp2_with fail;refine (Ac q d m ns A2 (k+A1.length) _ H3 I3 (by omega) (by omega)).mono ?_;rintro r w2 ⟨rfl,m2⟩;have b2:=ai b1 m2;have hp2:¬ k+(A1.length:Int)+(A2.length:Int)<0:=by omega
 go_wp2;go_ret;exact ⟨rfl,b2⟩
theorem Kg {α:Type} {kd:IntKind} {c n:Nat} (xs:List Int) (en:xs.length=n) (hd:xs=[]\/∃ b o,p=some ⟨b,o,none⟩/\∀ i,i<xs.length->w.cell? ⟨b,o+i,none⟩=some (.int kd (xs.getD i 0))) (BZ:Nat) (hN:Nf BZ w (.slice p n c)) :
  ∃ A,tI (LvI kd) 1 (.slice p n c) xs A/\aP w A/\(∀ a∈A,BZ<=a.b)/\A.length=xs.length/\∀ a∈A,(Value.slice p n c).ownBlock=some a.b:=by
 subst en;rcases hd with h0 | ⟨b,o,rfl,hc⟩;{subst h0;exact ⟨[],⟨p,c,[],rfl,rfl,rfl,.inl rfl⟩,aP.nil w,fun a ha=>by simp at ha,rfl,fun a ha=>by simp at ha⟩};{
 have hb:=hN b rfl;refine ⟨(List.range xs.length).map fun i=>⟨b,o+i,kd⟩,⟨some ⟨b,o,none⟩,c,(List.range xs.length).map fun i=>[⟨b,o+i,kd⟩],rfl,by simp,?_,.inr ⟨b,o,rfl,fun i x l hx hl=>?_⟩⟩,fun a ha=>?_,fun a ha=>?_,by simp,fun a ha=>?_⟩;{
 induction (List.range xs.length) with
 | nil=>rfl
 | cons i r ih=>simp [ih]}
 {
 obtain ⟨hi,e⟩:=aM.1 hl;simp at e;rw [<-e,Nat.mul_one]
 rfl}
 {obtain ⟨i,hi,rfl⟩:=List.mem_map.1 ha;exact ⟨⟨_,hc i (by simpa using hi)⟩,hb.2 _⟩};{obtain ⟨i,hi,rfl⟩:=List.mem_map.1 ha;exact hb.1};{
 obtain ⟨i,hi,rfl⟩:=List.mem_map.1 ha
 rfl}}
theorem zi {α:Type} {P:α->Nat->Nat->List Lf->Prop} {sz n c BZ:Nat} (F:α->Nat) (xs:List α) (en:xs.length=n) (hd:xs=[]\/∃ b o,p=some ⟨b,o,none⟩/\∀ i x,xs[i]?=some x->∃ l,P x b (o+i*sz) l/\aP w l/\(∀ a∈l,BZ<=a.b)/\l.length=F x) :
  ∃ A,tI P sz (.slice p n c) xs A/\aP w A/\(∀ a∈A,BZ<=a.b)/\A.length=cg F xs:=by
 subst en;rcases hd with h0 | ⟨b,o,rfl,hc⟩;{subst h0;exact ⟨[],⟨p,c,[],rfl,rfl,rfl,.inl rfl⟩,aP.nil w,fun a ha=>by simp at ha,rfl⟩};{
 have key:∀ k,k<=xs.length->∃ LL:List (List Lf),LL.length=k/\(∀ (i:Nat) (x:α) (l:List Lf),xs[i]?=some x->LL[i]?=some l->P x b (o+i*sz) l)/\aP w LL.flatten/\(∀ a∈LL.flatten,BZ<=a.b)/\LL.flatten.length=cg F (xs.take k):=by
  intro k
  induction k with
  | zero=>intro _;exact ⟨[],rfl,fun i x l _ hl=>by simp at hl,aP.nil w,fun a ha=>by simp at ha,rfl⟩
  | succ k ih=>
   intro hk;obtain ⟨LL,q1,q2,q3,q4,q5⟩:=ih (by omega);obtain ⟨x,hx⟩:∃ x,xs[k]?=some x:=⟨_,aH (by omega)⟩;obtain ⟨l,r1,r2,r3,r4⟩:=hc k x hx;have e:(LL++[l]).flatten=LL.flatten++l:=by simp
   refine ⟨LL++[l],by simp [q1],fun i y m hy hm=>?_,by rw [e];exact aP.app.2 ⟨q3,r2⟩,fun a ha=>?_,?_⟩;{
 by_cases hi:i<LL.length;{rw [List.getElem?_append_left hi] at hm;exact q2 i y m hy hm};{
 have ei:i=k:=by have:=(aM.1 hm).1;simp at this;omega
 subst ei;rw [hx] at hy;cases hy;rw [<-q1] at hm;simp at hm;subst hm;exact r1}};{rw [e] at ha;rcases List.mem_append.1 ha with ha | ha;{exact q4 a ha};{exact r3 a ha}};{rw [e,List.length_append,q5,r4,List.take_add_one,hx];simp [cg]}
 obtain ⟨LL,q1,q2,q3,q4,q5⟩:=key xs.length ay;rw [List.take_length] at q5;exact ⟨LL.flatten,⟨some ⟨b,o,none⟩,c,LL,rfl,q1,rfl,.inr ⟨b,o,rfl,fun i x l hx hl=>q2 i x l hx hl⟩⟩,q3,q4,q5⟩}
def xt (e:Ev):Nat:=1+e.2.length
def Az (s:aR):Nat:=2+cg xt s.2.2
def AA (nd:aA):Nat:=nd.path.length+(nd.value.length+(2+(nd.holders.length+(2+nd.watchers.length))))
theorem Ex {b o n c:Nat} (h:Nf BZ w (.slice (some ⟨b,o,none⟩) n c)):BZ<=b/\∀ o,w.frozen? ⟨b,o,none⟩=false:=h b rfl
theorem Rd.lv (h:Rd w v l) (hN:Nf BZ w v):∃ p c A,v=.slice p l.length c/\qs (.slice p l.length c) l A/\aP w A/\(∀ a∈A,BZ<=a.b)/\A.length=l.length:=by
 obtain ⟨p,c,rfl,hd⟩:=h;obtain ⟨A,h1,h2,h3,h4,-⟩:=Kg (α:=Unit) (kd:=.u8) (w:=w) (p:=p) (c:=c) l rfl hd BZ hN;exact ⟨p,c,A,rfl,h1,h2,h3,h4⟩
theorem iA.lv (h:iA w v l) (hN:Nf BZ w v):∃ p c A,v=.slice p l.length c/\GW (.slice p l.length c) l A/\aP w A/\(∀ a∈A,BZ<=a.b)/\A.length=l.length:=by
 obtain ⟨p,c,rfl,hd⟩:=h;obtain ⟨A,h1,h2,h3,h4,-⟩:=Kg (α:=Unit) (kd:=.u64) (w:=w) (p:=p) (c:=c) l rfl hd BZ hN;exact ⟨p,c,A,rfl,h1,h2,h3,h4⟩
theorem aP.cons {a:Lf} (h1:∃ n,w.cell? ⟨a.b,a.o,none⟩=some (.int a.k n)) (h2:w.frozen? ⟨a.b,a.o,none⟩=false) (h:aP w A):aP w (a::A):=by
 intro y hy;rcases List.mem_cons.1 hy with rfl | hy;{exact ⟨h1,h2⟩};{exact h y hy}
theorem xv.lv (h:xv BZ w v es):∃ p c A,v=.slice p es.length c/\kJ w (.slice p es.length c) es A/\aP w A/\(∀ a∈A,BZ<=a.b)/\A.length=cg xt es:=by
 obtain ⟨p,c,rfl,hN,hd⟩:=h;obtain ⟨A,h1,h2,h3,h4⟩:=zi (P:=vX w) (sz:=2) (c:=c) (BZ:=BZ) (w:=w) (p:=p) xt es rfl (by rcases hd with h0 | ⟨b,o,rfl,hd⟩;{exact .inl h0};{refine .inr ⟨b,o,rfl,fun i e he=>?_⟩;obtain ⟨c1,u,c2,r,-,nf⟩:=hd i e he;obtain ⟨p',c',A,rfl,a1,a2,a3,a4⟩:=r.lv nf;have hb:=Ex hN;refine ⟨⟨b,o+i*2,.i64⟩::A,⟨p',c',A,rfl,c2,a1⟩,aP.cons ⟨_,c1⟩ (hb.2 _) a2,fun a ha=>?_,by simp [xt,a4];omega⟩;rcases List.mem_cons.1 ha with rfl | ha;{exact hb.1};{exact a3 a ha}})
 exact ⟨p,c,A,rfl,h1,h2,h3,h4⟩
theorem AI.lv {es:List aR} (h:AI BZ w v es):∃ p c A,v=.slice p es.length c/\mP w (.slice p es.length c) es A/\aP w A/\(∀ a∈A,BZ<=a.b)/\A.length=cg Az es:=by
 obtain ⟨p,c,rfl,hN,hd⟩:=h;obtain ⟨A,h1,h2,h3,h4⟩:=zi (P:=vV w) (sz:=3) (c:=c) (BZ:=BZ) (w:=w) (p:=p) Az es rfl (by rcases hd with h0 | ⟨b,o,rfl,hd⟩;{exact .inl h0};{refine .inr ⟨b,o,rfl,fun i e he=>?_⟩;obtain ⟨c1,c2,u,c3,r⟩:=hd i e he;obtain ⟨p',c',A,rfl,a1,a2,a3,a4⟩:=r.lv;have hb:=Ex hN;refine ⟨⟨b,o+i*3,.u64⟩::⟨b,o+i*3+1,.i64⟩::A,⟨p',c',A,rfl,c3,a1⟩,aP.cons ⟨_,c1⟩ (hb.2 _) (aP.cons ⟨_,c2⟩ (hb.2 _) a2),fun a ha=>?_,by simp [Az,a4];omega⟩;rcases List.mem_cons.1 ha with rfl | ha;{exact hb.1};{rcases List.mem_cons.1 ha with rfl | ha;{exact hb.1};{exact a3 a ha}}})
 exact ⟨p,c,A,rfl,h1,h2,h3,h4⟩
theorem DJ.lv {es:List aA} (h:DJ BZ w v es):∃ p c A,v=.slice p es.length c/\mJ w (.slice p es.length c) es A/\aP w A/\(∀ a∈A,BZ<=a.b)/\A.length=cg AA es:=by
 obtain ⟨p,c,rfl,hN,hd⟩:=h;obtain ⟨A,h1,h2,h3,h4⟩:=zi (P:=vW w) (sz:=8) (c:=c) (BZ:=BZ) (w:=w) (p:=p) AA es rfl (by
  rcases hd with h0 | ⟨b,o,rfl,hd⟩;{exact .inl h0};{
 refine .inr ⟨b,o,rfl,fun i e he=>?_⟩;obtain ⟨P,V,H,U,na,n0,n1,n4,n7⟩:=hd i e he;obtain ⟨p0,c0,A0,rfl,a01,a02,a03,a04⟩:=na.r0.lv n0;obtain ⟨p1,c1,A1,rfl,a11,a12,a13,a14⟩:=na.r1.lv n1;obtain ⟨p4,c4,A4,rfl,a41,a42,a43,a44⟩:=na.r4.lv n4;obtain ⟨p7,c7,A7,rfl,a71,a72,a73,a74⟩:=na.r7.lv n7;have hb:=Ex hN;refine ⟨A0++(A1++(⟨b,o+i*8+2,.u64⟩::⟨b,o+i*8+3,.i64⟩::(A4++(⟨b,o+i*8+5,.u64⟩::⟨b,o+i*8+6,.u64⟩::A7)))),
  ⟨p0,c0,p1,c1,p4,c4,p7,c7,A0,A1,A4,A7,rfl,⟨na.c0,a01⟩,⟨na.c1,a11⟩,⟨na.c4,a41⟩,⟨na.c7,a71⟩⟩,
  aP.app.2 ⟨a02,aP.app.2 ⟨a12,aP.cons ⟨_,na.c2⟩ (hb.2 _) (aP.cons ⟨_,na.c3⟩ (hb.2 _) (aP.app.2 ⟨a42,aP.cons ⟨_,na.c5⟩ (hb.2 _) (aP.cons ⟨_,na.c6⟩ (hb.2 _) a72)⟩))⟩⟩,fun a ha=>?_,by simp [AA,a04,a14,a44,a74];omega⟩
 simp only [List.mem_append,List.mem_cons] at ha;rcases ha with ha | ha | rfl | rfl | ha | rfl | rfl | ha;{exact a03 a ha};{exact a13 a ha};{exact hb.1};{exact hb.1};{exact a43 a ha};{exact hb.1};{exact hb.1};{exact a73 a ha}})
 exact ⟨p,c,A,rfl,h1,h2,h3,h4⟩
theorem xB {α:Type} {F G:α->Nat} (l:List α) (h:∀ x∈l,F x<=G x):cg F l<=cg G l:=by
 induction l with
 | nil=>exact Nat.le_refl _
 | cons x l ih=>
  have:=ih fun y hy=>h y (by simp [hy]);have:=h x (by simp);simp only [cg,List.map_cons,List.sum_cons] at *;omega
theorem BF {α:Type} (F:α->Nat) (k:Nat) (l:List α):cg (fun x=>k+F x) l=k*l.length+cg F l:=by
 induction l with
 | nil=>rfl
 | cons x l ih=>
  simp only [cg,List.map_cons,List.sum_cons,List.length_cons] at *;rw [ih,Nat.mul_succ];omega
theorem Mn (ss:List aR) (ns:List aA):cg Az ss+cg AA ns<=4*uz ss ns:=by
 have h1:cg Az ss<=cg (fun s=>2+jE s) ss:=xB ss fun s _=>by have:=BF (fun e:Ev=>e.2.length) 1 s.2.2;have e:cg xt s.2.2=cg (fun e:Ev=>1+e.2.length) s.2.2:=rfl;simp only [Az,jE];omega
 have h2:cg AA ns<=cg (fun s=>4+iU s) ns:=xB ns fun s _=>by simp only [AA,iU];omega
 rw [BF] at h1 h2;simp only [uz];omega
theorem JH {n c m d:Nat} (h:AI BZ w (.slice p n c) ss) (hN:DJ BZ w (.slice q m d) ns) :
  ∃ A1 A2,mP w (.slice p n c) ss A1/\mJ w (.slice q m d) ns A2/\aP w A1/\aP w A2/\(∀ a∈A1++A2,BZ<=a.b/\a.b<w.heap.size)/\A1.length+A2.length<=4*uz ss ns:=by
 obtain ⟨p1,c1,A1,e1,a1,a2,a3,a4⟩:=h.lv;obtain ⟨p2,c2,A2,e2,b1,b2,b3,b4⟩:=hN.lv;simp only [Value.slice.injEq] at e1 e2;obtain ⟨rfl,rfl,rfl⟩:=e1;obtain ⟨rfl,rfl,rfl⟩:=e2;refine ⟨A1,A2,a1,b1,a2,b2,fun a ha=>?_,by rw [a4,b4];exact Mn ss ns⟩;rcases List.mem_append.1 ha with ha | ha;{exact ⟨a3 a ha,a2.lt ha⟩};{exact ⟨b3 a ha,b2.lt ha⟩}
theorem tI.gu {α:Type} {P:α->Nat->Nat->List Lf->Prop} {sz:Nat} {xs:List α} (F:α->Nat) (h:tI P sz v xs A) (hP:∀ x b a l,P x b a l->l.length=F x):A.length=cg F xs:=by
 obtain ⟨p,c,Ls,h1,h2,rfl,h4⟩:=h;rcases h4 with h0 | ⟨b,o,-,h6⟩;{
 subst h0;have:Ls=[]:=List.length_eq_zero_iff.1 h2;subst this
 rfl}
 {
 have key:∀ k,k<=xs.length->(Ls.take k).flatten.length=cg F (xs.take k):=by
  intro k
  induction k with
  | zero=>intro _;rfl
  | succ k ih=>
   intro hk;obtain ⟨x,hx⟩:∃ x,xs[k]?=some x:=⟨_,aH (by omega)⟩;obtain ⟨l,hl⟩:∃ l,Ls[k]?=some l:=⟨_,aH (by omega)⟩;rw [List.take_add_one,hl,nY F hx,<-ih (by omega),<-hP _ _ _ _ (h6 k x l hx hl)];simp
 have:=key xs.length ay;rw [List.take_length,<-h2,List.take_length] at this;exact this}
theorem By {α:Type} (l:List α):cg (fun _=>1) l=l.length:=by
 induction l with
 | nil=>rfl
 | cons x l ih=>simp only [cg,List.map_cons,List.sum_cons,List.length_cons] at *;omega
theorem qs.gu (h:qs v xs A):A.length=xs.length:=by
 rw [tI.gu (fun _=>1) h (fun x b a l hl=>by rw [show l=_ from hl];rfl)];exact By xs
theorem GW.gu (h:GW v xs A):A.length=xs.length:=by
 rw [tI.gu (fun _=>1) h (fun x b a l hl=>by rw [show l=_ from hl];rfl)];exact By xs
theorem kJ.gu {xs:List Ev} (h:kJ w v xs A):A.length=cg xt xs:=tI.gu xt h fun x b a l hl=>by
 obtain ⟨p,c,lb,rfl,-,h3⟩:=hl;simp [xt,qs.gu h3];omega
theorem mP.gu {xs:List aR} (h:mP w v xs A):A.length=cg Az xs:=tI.gu Az h fun x b a l hl=>by
 obtain ⟨p,c,lb,rfl,-,h3⟩:=hl;simp [Az,kJ.gu h3];omega
theorem mJ.gu {xs:List aA} (h:mJ w v xs A):A.length=cg AA xs:=tI.gu AA h fun x b a l hl=>by
 obtain ⟨p0,c0,p1,c1,p4,c4,p7,c7,l0,l1,l4,l7,rfl,⟨-,h0⟩,⟨-,h1⟩,⟨-,h4⟩,⟨-,h7⟩⟩:=hl;simp [AA,qs.gu h0,qs.gu h1,GW.gu h4,GW.gu h7];omega
open Go.Deep
theorem Rd.Pc {H:Type} {enc:TypeId × Value->H} {n:Nat} {x:DataW H × List MemPlace} (h:DataW.trod enc prog w 0 (fun _=>true) true n 27 cs=some x) :
  ∃ (p:Option Addr) (l:List Int) (c:Nat),cs=[.slice p l.length c]/\Rd w (.slice p l.length c) l/\l.length<=maxLen/\(∀ z∈l,(Lit.int .u8 z).wf=true):=by
 rcases open_ints underlying27 underlying5 (by kernel_rfl) h with ⟨rfl,_⟩ | ⟨a,len,cap,zs,rfl,_,hl,hm,hz,_,bD,hwz⟩;{exact ⟨none,[],0,rfl,Rd.nil w,by simp,by simp⟩};{
 simp only [if_true] at hz;have e:(zs.take len).length=len:=by simp;omega
 refine ⟨some a,zs.take len,cap,by rw [e],?_,by omega,fun z h=>hwz z (List.mem_of_mem_take h)⟩;refine ⟨some a,cap,rfl,?_⟩;by_cases h0:len=0;{left;subst h0;simp}
 {
 right
 obtain ⟨b,o,spot⟩:=a;have hs:spot=none:=by simpa [Addr.add] using World.cell?_spot (bD 0 (by omega))
 subst hs;refine ⟨b,o,rfl,fun i hi=>?_⟩;rw [e] at hi;have:=bD i (by omega);simp only [Addr.add_lit] at this;rw [this];simp [List.getD,List.getElem?_take,hi]}}
theorem Rd.iZ {H:Type} {enc:TypeId × Value->H} {n:Nat} {x:DataW H × List MemPlace} (h:DataW.trod enc prog w 0 (fun _=>true) true n 27 cs=some x) :
  ∃ (p:Option Addr) (l:List Int) (c:Nat),cs=[.slice p l.length c]/\Rd w (.slice p l.length c) l/\l.length<=maxLen/\l.length<=c/\(∀ z∈l,0<=z/\z<256):=by
 obtain ⟨p,l,c,e,hr,hm,hw⟩:=Rd.Pc h;refine ⟨p,l,c,e,hr,hm,?_,fun z hz=>?_⟩;{rcases open_ints underlying27 underlying5 (by kernel_rfl) h with ⟨rfl,_⟩ | ⟨a,len,cap,zs,rfl,_,hl,_⟩;{simp at e;omega};{simp at e;omega}};{have:=hw z hz;simp [Lit.wf,IntKind.min,IntKind.max,IntKind.signed,IntKind.bits] at this;omega}
theorem own:ownKnob Tryz.prog.godebug=none:=by kernel_rfl
theorem laidOut:laidOutB Tryz.prog=true:=by kernel_rfl
theorem CO {H:Type} {enc:TypeId × Value->H} {a:Assume} {C:Checked} {os:Os} {f:FuncId} {fn:Func} {s:ChangeSpec} {conds:List PathCond} {apart fresh handsOn again:Bool} {X:World->Array Value->Prop}
  (hX:∀ (w w':World) (args:Array Value),w.heap=w'.heap->X w args->X w' args)
  (own:ownKnob C.prog.godebug=none) (started:os.Started) (Uc:C.prog.inits.idxOf? f=none) (hfn:C.prog.funcs[f]?=some fn)
  (witness:∃ (w:World) (tape:Tape) (i:Input),w.os=os/\(w.forCall tape i).Shaped C.prog/\i.vars=[]/\Input.okWide C.prog (w.forCall tape i) .any w.heap.size f i ∧
   ((s.pre enc C.prog fn conds apart (w.forCall tape i).memory i.args/\X (w.forCall tape i).memory i.args)/\sizedMet enc C.prog fn (OpenSpec.ofChange s) apart (w.forCall tape i).memory i.args)/\a.holds C.prog (lone (Frame.enter C.prog f i.args .normal) [] (w.forCall tape i)))
  (Ml:∀ (W:World) (base:Nat) (args:Array Value) (ds gs:List (DataW H)) (before:List MemPlace),
   (∀ (j:Nat) t v,fn.params[j]?=some t->args[j]?=some v->Value.okWide C.prog W .any base t v) →
   DataW.Whole enc C.prog fn.params.toList s.vars apart W args.toList ds gs before →
   X W args->W.ShapedOpen C.prog →
   Calls C.prog f args W fun e W'=>∃ v,e=.returned v/\s.post enc C.prog fn apart fresh handsOn again W args v W') :
  ReturnsInHanded a C os f .any (fun w args=>(s.pre enc C.prog fn conds apart w args/\X w args)/\sizedMet enc C.prog fn (OpenSpec.ofChange s) apart w args) (s.post enc C.prog fn apart fresh handsOn again):=by
 refine returnsInHanded_of_calls own started Uc witness ?_;intro w tape i _ hsh _ ic gx aD6;obtain ⟨_,_,_,fn',aE1,_,_,_,_,sk⟩:=ic;have e:fn'=fn:=Option.some.inj (aE1.symm.trans hfn);subst e;obtain ⟨⟨⟨ds,gs,before,hw,hc⟩,hx⟩,hz⟩:=gx;refine (Ml (w.forCall tape i) w.heap.size i.args ds gs before sk (DataW.Whole.of_heap (w':=w.forCall tape i) (by rfl) hw) (hX _ _ _ (by rfl) hx) hsh).mono fun e W' ⟨v,he,hp⟩=>?_;subst he;exact ChangeSpec.post_blind hp
theorem Ce (h:w.ShapedOpen Tryz.prog):∃ m,w.cell? ⟨2,0,none⟩=some (.int .i64 m):=
 cell_of_shapedOpen_int (t:=3) (zero:=#[.int .i64 0]) h (of_decide_eq_true (by kernel_rfl)) (by kernel_rfl) rfl (by kernel_rfl) (by kernel_rfl) Tryz.underlying3
theorem pF {s:Int} (h:(Lit.int .u64 s).wf=true):0<=s/\s<18446744073709551616:=by
 simp [Lit.wf,IntKind.min,IntKind.max,IntKind.signed,IntKind.bits] at h;omega
theorem Dx:Tryz.prog.cellsOf 230=2:=by kernel_rfl
theorem yv:Tryz.prog.cellsOf 84=3:=by kernel_rfl
theorem yw:Tryz.prog.cellsOf 88=8:=by kernel_rfl
theorem Mu:Tryz.prog.cellsOf 26=6:=by kernel_rfl
theorem GQ:Tryz.prog.cellsOf 27=1:=by kernel_rfl
theorem uk:Tryz.prog.cellsOf 22=1:=by kernel_rfl
theorem Mt:Tryz.prog.cellsOf 86=1:=by kernel_rfl
theorem um:Tryz.prog.cellsOf 3=1:=by kernel_rfl
theorem IF:Tryz.prog.cellsOf 82=1:=by kernel_rfl
theorem Fx:Tryz.prog.cellsOf 23=1:=by kernel_rfl
theorem Fy:Tryz.prog.cellsOf 24=1:=by kernel_rfl
theorem yG {H:Type} {enc:TypeId × Value->H} {held:Bool} {x:DataW H × List MemPlace} (ht:P.underlying t=some (.struct #[f0,f1,f2,f3,f4,f5])) (h:DataW.trod enc P w base spare held fuel t cs=some x) :
  ∃ y0 y1 y2 y3 y4 y5 n,cs.length=P.cellsOf t ∧
   DataW.trod enc P w base spare held n f0.type ((cs.drop f0.offset).take (P.cellsOf f0.type))=some y0/\DataW.trod enc P w base spare held n f1.type ((cs.drop f1.offset).take (P.cellsOf f1.type))=some y1/\DataW.trod enc P w base spare held n f2.type ((cs.drop f2.offset).take (P.cellsOf f2.type))=some y2/\DataW.trod enc P w base spare held n f3.type ((cs.drop f3.offset).take (P.cellsOf f3.type))=some y3/\DataW.trod enc P w base spare held n f4.type ((cs.drop f4.offset).take (P.cellsOf f4.type))=some y4/\DataW.trod enc P w base spare held n f5.type ((cs.drop f5.offset).take (P.cellsOf f5.type))=some y5:=by
 obtain ⟨xs,n,_,rfl,hl,hlen,hf⟩:=DataW.trod_struct ht h
 match xs,hlen with
 | [y0,y1,y2,y3,y4,y5],_=>exact ⟨y0,y1,y2,y3,y4,y5,n,hl,by simpa using hf 0 f0 rfl,by simpa using hf 1 f1 rfl,by simpa using hf 2 f2 rfl,by simpa using hf 3 f3 rfl,by simpa using hf 4 f4 rfl,by simpa using hf 5 f5 rfl⟩
theorem yF {H:Type} {enc:TypeId × Value->H} {held:Bool} {f7:Field} {x:DataW H × List MemPlace} (ht:P.underlying t=some (.struct #[f0,f1,f2,f3,f4,f5,f6,f7])) (h:DataW.trod enc P w base spare held fuel t cs=some x) :
  ∃ y0 y1 y2 y3 y4 y5 y6 y7 n,cs.length=P.cellsOf t ∧
   DataW.trod enc P w base spare held n f0.type ((cs.drop f0.offset).take (P.cellsOf f0.type))=some y0/\DataW.trod enc P w base spare held n f1.type ((cs.drop f1.offset).take (P.cellsOf f1.type))=some y1/\DataW.trod enc P w base spare held n f2.type ((cs.drop f2.offset).take (P.cellsOf f2.type))=some y2/\DataW.trod enc P w base spare held n f3.type ((cs.drop f3.offset).take (P.cellsOf f3.type))=some y3/\DataW.trod enc P w base spare held n f4.type ((cs.drop f4.offset).take (P.cellsOf f4.type))=some y4/\DataW.trod enc P w base spare held n f5.type ((cs.drop f5.offset).take (P.cellsOf f5.type))=some y5/\DataW.trod enc P w base spare held n f6.type ((cs.drop f6.offset).take (P.cellsOf f6.type))=some y6/\DataW.trod enc P w base spare held n f7.type ((cs.drop f7.offset).take (P.cellsOf f7.type))=some y7:=by
 obtain ⟨xs,n,_,rfl,hl,hlen,hf⟩:=DataW.trod_struct ht h
 match xs,hlen with
 | [y0,y1,y2,y3,y4,y5,y6,y7],_=>exact ⟨y0,y1,y2,y3,y4,y5,y6,y7,n,hl,by simpa using hf 0 f0 rfl,by simpa using hf 1 f1 rfl,by simpa using hf 2 f2 rfl,by simpa using hf 3 f3 rfl,by simpa using hf 4 f4 rfl,by simpa using hf 5 f5 rfl,by simpa using hf 6 f6 rfl,by simpa using hf 7 f7 rfl⟩
theorem jL {H:Type} {enc:TypeId × Value->H} {α:Type} [Inhabited α] {e:TypeId} (ht:Tryz.prog.underlying t=some (.slice e)) (sz:Nat) (fH:Tryz.prog.cellsOf e=sz) (h0:0<sz) (Q:List Value->α->Prop)
  (ij:∀ (n:Nat) (cs:List Value) (x:DataW H × List MemPlace),DataW.trod enc Tryz.prog w 0 (fun _=>true) true n e cs=some x->∃ y,Q cs y) {x:DataW H × List MemPlace} (h:DataW.trod enc Tryz.prog w 0 (fun _=>true) true fuel t cs=some x) :
  ∃ (p:Option Addr) (l:List α) (c:Nat),cs=[.slice p l.length c]/\l.length<=c/\c<=maxLen/\(l=[]\/∃ b o,p=some ⟨b,o,none⟩/\∀ (i:Nat) (y:α),l[i]?=some y->∃ wR:List Value,(∀ (j:Nat) (v:Value),wR[j]?=some v->w.cell? ⟨b,o+(i*sz+j),none⟩=some v)/\Q wR y):=by
 rcases open_slice ht h with ⟨rfl,_⟩ | ⟨a,len,cap,m,n,D,Pl,rfl,_,hl,hm,DU,_,hx⟩;{exact ⟨none,[],0,rfl,Nat.le_refl _,by unfold maxLen;omega,.inl rfl⟩};{
 simp only [if_true] at DU;subst DU;obtain ⟨f,hf⟩:=choose_lt (α:=α) (n:=len) (p:=fun i y=>∃ wR:List Value,w.cells? 0 (a.add (i*Tryz.prog.cellsOf e)) (Tryz.prog.cellsOf e)=some wR/\Q wR y) (fun i hi=>by obtain ⟨wR,h1,h2⟩:=hx i (by omega);obtain ⟨y,hy⟩:=ij _ _ _ h2;exact ⟨y,wR,h1,hy⟩)
 have hlen:((List.range len).map f).length=len:=by simp
 refine ⟨some a,(List.range len).map f,m,by rw [hlen],by rw [hlen];exact hl,hm,?_⟩;by_cases hz:len=0;{left;subst hz;rfl}
 {
 right
 obtain ⟨b,o,spot⟩:=a;have hs:spot=none:=by obtain ⟨wR,h1,_⟩:=hf 0 (by omega);obtain ⟨_,xZ,hc⟩:=World.cells?_some h1;have:=hc 0 (by rw [fH];exact h0);rw [aH (by rw [xZ,fH];exact h0)] at this;simpa [Addr.add] using World.cell?_spot this
 subst hs;refine ⟨b,o,rfl,fun i y hy=>?_⟩;have hi:i<len:=by have:=(aM.1 hy).1;rwa [hlen] at this
 have ey:y=f i:=by have:=(aM.1 hy).2;simpa using this.symm
 subst ey;obtain ⟨wR,h1,h2⟩:=hf i hi;refine ⟨wR,fun j v hj=>?_,h2⟩;obtain ⟨_,xZ,hc⟩:=World.cells?_some h1;have tZ:j<Tryz.prog.cellsOf e:=by rw [<-xZ];exact (aM.1 hj).1
 have:=hc j tZ;rw [hj,fH] at this;simp only [Addr.add_lit] at this;rw [<-this]
 congr 1
 simp [Nat.add_assoc]}}
theorem qK {H:Type} {enc:TypeId × Value->H} {x:DataW H × List MemPlace} (h:DataW.trod enc Tryz.prog w 0 (fun _=>true) true fuel 86 cs=some x) :
  ∃ (p:Option Addr) (l:List Int) (c:Nat),cs=[.slice p l.length c]/\l.length<=maxLen/\iA w (.slice p l.length c) l/\∀ i∈l,0<=i/\i<18446744073709551616:=by
 obtain ⟨p,l,c,rfl,h1,h2,h3⟩:=jL (α:=Int) Tryz.underlying86 1 uk (by omega) (fun cs y=>cs=[.int .u64 y]/\0<=y/\y<18446744073709551616) (fun n cs x hx=>by obtain ⟨y,e0,_,wf⟩:=DataW.trod_int Tryz.underlying22 hx;exact ⟨y,e0,pF wf⟩) h
 refine ⟨p,l,c,rfl,by omega,⟨p,c,rfl,?_⟩,?_⟩;{rcases h3 with h3 | ⟨b,o,rfl,h3⟩;{exact .inl h3};{refine .inr ⟨b,o,rfl,fun i hi=>?_⟩;obtain ⟨wR,g1,rfl,_⟩:=h3 i _ (aH hi);have:=g1 0 _ rfl;rw [List.getD_eq_getElem?_getD,aH hi];simpa using this}};{intro y hy;rcases h3 with h3 | ⟨b,o,rfl,h3⟩;{rw [h3] at hy;cases hy};{obtain ⟨i,hi⟩:=List.getElem?_of_mem hy;obtain ⟨wR,_,_,g2⟩:=h3 i y hi;exact g2}}
theorem De {H:Type} {enc:TypeId × Value->H} {x:DataW H × List MemPlace} (h:DataW.trod enc Tryz.prog w 0 (fun _=>true) true fuel 82 cs=some x) :
  ∃ (p:Option Addr) (l:List Ev) (c:Nat),cs=[.slice p l.length c]/\l.length<=maxLen/\nS w (.slice p l.length c) l/\∀ e∈l,e.2.length<=maxLen/\cT e.2:=by
 obtain ⟨p,l,c,rfl,h1,h2,h3⟩:=jL (α:=Ev) Tryz.underlying82 2 Dx (by omega) (fun cs y=>∃ q d,cs=[.int .i64 y.1,.slice q y.2.length d]/\Rd w (.slice q y.2.length d) y.2/\y.2.length<=maxLen/\cT y.2) (fun n cs x hx=>by
  obtain ⟨y0,y1,m,_,hl,g0,g1⟩:=trod_struct2 Tryz.underlying230 hx;rw [Dx] at hl;obtain ⟨x0,x1,rfl⟩:∃ x0 x1,cs=[x0,x1]:=by
   match cs,hl with
   | [a,b],_=>exact ⟨a,b,rfl⟩
  simp [um,GQ] at g0 g1;obtain ⟨k,e0,_,_⟩:=DataW.trod_int Tryz.underlying3 g0;obtain ⟨q,P,d,e1,r1,l1,_,b1⟩:=Rd.iZ g1;simp at e0 e1;subst e0 e1;exact ⟨(k,P),q,d,rfl,r1,l1,b1⟩) h
 refine ⟨p,l,c,rfl,by omega,⟨p,c,rfl,?_⟩,?_⟩;{rcases h3 with h3 | ⟨b,o,rfl,h3⟩;{exact .inl h3};{refine .inr ⟨b,o,rfl,fun i y hy=>?_⟩;obtain ⟨wR,g1,q,d,rfl,r1,_⟩:=h3 i y hy;exact ⟨by simpa using g1 0 _ rfl,_,by simpa [Nat.add_assoc] using g1 1 _ rfl,r1⟩}};{intro y hy;rcases h3 with h3 | ⟨b,o,rfl,h3⟩;{rw [h3] at hy;cases hy};{obtain ⟨i,hi⟩:=List.getElem?_of_mem hy;obtain ⟨wR,_,q,d,_,_,g2⟩:=h3 i y hi;exact g2}}
theorem yQ {H:Type} {enc:TypeId × Value->H} {x:DataW H × List MemPlace} (h:DataW.trod enc Tryz.prog w 0 (fun _=>true) true fuel 23 cs=some x) :
  ∃ (p:Option Addr) (l:List aR) (c:Nat),cs=[.slice p l.length c]/\l.length<=maxLen/\nR w (.slice p l.length c) l/\∀ s∈l,s.2.2.length<=maxLen/\∀ e∈s.2.2,e.2.length<=maxLen/\cT e.2:=by
 obtain ⟨p,l,c,rfl,h1,h2,h3⟩:=jL (α:=aR) Tryz.underlying23 3 yv (by omega) (fun cs y=>∃ q d,cs=[.int .u64 y.1,.int .i64 y.2.1,.slice q y.2.2.length d]/\nS w (.slice q y.2.2.length d) y.2.2/\y.2.2.length<=maxLen/\∀ e∈y.2.2,e.2.length<=maxLen/\cT e.2) (fun n cs x hx=>by
  obtain ⟨y0,y1,y2,m,_,hl,g0,g1,g2⟩:=trod_struct3 Tryz.underlying84 hx;rw [yv] at hl;obtain ⟨x0,x1,x2,rfl⟩:∃ x0 x1 x2,cs=[x0,x1,x2]:=by
   match cs,hl with
   | [a,b,c],_=>exact ⟨a,b,c,rfl⟩
  simp [um,uk,IF] at g0 g1 g2;obtain ⟨i,e0,_,_⟩:=DataW.trod_int Tryz.underlying22 g0;obtain ⟨k,e1,_,_⟩:=DataW.trod_int Tryz.underlying3 g1;obtain ⟨q,Q,d,e2,l1,r1,b1⟩:=De g2;simp at e0 e1 e2;subst e0 e1 e2;exact ⟨(i,k,Q),q,d,rfl,r1,l1,b1⟩) h
 refine ⟨p,l,c,rfl,by omega,⟨p,c,rfl,?_⟩,?_⟩;{rcases h3 with h3 | ⟨b,o,rfl,h3⟩;{exact .inl h3};{refine .inr ⟨b,o,rfl,fun i y hy=>?_⟩;obtain ⟨wR,g1,q,d,rfl,r1,_⟩:=h3 i y hy;exact ⟨by simpa using g1 0 _ rfl,by simpa [Nat.add_assoc] using g1 1 _ rfl,_,by simpa [Nat.add_assoc] using g1 2 _ rfl,r1⟩}};{intro y hy;rcases h3 with h3 | ⟨b,o,rfl,h3⟩;{rw [h3] at hy;cases hy};{obtain ⟨i,hi⟩:=List.getElem?_of_mem hy;obtain ⟨wR,_,q,d,_,_,g2⟩:=h3 i y hi;exact g2}}
theorem y8 {H:Type} {enc:TypeId × Value->H} {x:DataW H × List MemPlace} (h:DataW.trod enc Tryz.prog w 0 (fun _=>true) true fuel 24 cs=some x) :
  ∃ (p:Option Addr) (l:List aA) (c:Nat),cs=[.slice p l.length c]/\l.length<=maxLen/\jB w (.slice p l.length c) l/\∀ nd∈l,((nd.path.length<=maxLen/\nd.value.length<=maxLen/\nd.holders.length<=maxLen/\nd.watchers.length<=maxLen)/\cT nd.path/\(0<=nd.owner/\nd.owner<18446744073709551616)/\(∀ i∈nd.holders,0<=i/\i<18446744073709551616)/\∀ i∈nd.watchers,0<=i/\i<18446744073709551616)/\(0<=nd.aC/\nd.aC<18446744073709551616)/\0<=nd.gen/\nd.gen<18446744073709551616:=by
 have : Inhabited aA := ⟨dQ⟩
 obtain ⟨p,l,c,rfl,h1,h2,h3⟩:=jL (α:=aA) Tryz.underlying24 8 yw (by omega)
  (fun cs y=>∃ P V H U,cs=[P,V,.int .u64 y.owner,.int .i64 y.mode,H,.int .u64 y.aC,.int .u64 y.gen,U]/\(Rd w P y.path/\Rd w V y.value/\iA w H y.holders/\iA w U y.watchers/\dh P)/\((y.path.length<=maxLen/\y.value.length<=maxLen/\y.holders.length<=maxLen/\y.watchers.length<=maxLen)/\cT y.path/\(0<=y.owner/\y.owner<18446744073709551616)/\(∀ i∈y.holders,0<=i/\i<18446744073709551616)/\∀ i∈y.watchers,0<=i/\i<18446744073709551616)/\(0<=y.aC/\y.aC<18446744073709551616)/\0<=y.gen/\y.gen<18446744073709551616) (fun n cs x hx=>by
  obtain ⟨y0,y1,y2,y3,y4,y5,y6,y7,m,hl,g0,g1,g2,g3,g4,g5,g6,g7⟩:=yF Tryz.underlying88 hx;rw [yw] at hl;obtain ⟨x0,x1,x2,x3,x4,x5,x6,x7,rfl⟩:∃ x0 x1 x2 x3 x4 x5 x6 x7,cs=[x0,x1,x2,x3,x4,x5,x6,x7]:=by
   match cs,hl with
   | [a,b,c,d,e,f,g,h],_=>exact ⟨a,b,c,d,e,f,g,h,rfl⟩
  simp [um,uk,GQ,Mt] at g0 g1 g2 g3 g4 g5 g6 g7;obtain ⟨q0,P,d0,e0,r0,l0,cp0,b0⟩:=Rd.iZ g0;obtain ⟨q1,V,d1,e1,r1,l1,_,_⟩:=Rd.iZ g1;obtain ⟨ow,e2,_,w2⟩:=DataW.trod_int Tryz.underlying22 g2;obtain ⟨mo,e3,_,_⟩:=DataW.trod_int Tryz.underlying3 g3;obtain ⟨q4,Hs,d4,e4,l4,r4,b4⟩:=qK g4;obtain ⟨ep,e5,_,w5⟩:=DataW.trod_int Tryz.underlying22 g5;obtain ⟨ge,e6,_,w6⟩:=DataW.trod_int Tryz.underlying22 g6;obtain ⟨q7,Us,d7,e7,l7,r7,b7⟩:=qK g7;have cm:d0<=maxLen:=by rcases open_ints Tryz.underlying27 Tryz.underlying5 (by kernel_rfl) g0 with ⟨h0,_⟩ | ⟨a,len,cap,zs,h0,_,_,hm,_⟩;{rw [e0] at h0;simp at h0;omega};{rw [e0] at h0;simp at h0;omega}
  simp at e0 e1 e2 e3 e4 e5 e6 e7;subst e0 e1 e2 e3 e4 e5 e6 e7;exact ⟨⟨P,V,ow,mo,Hs,ep,ge,Us⟩,_,_,_,_,rfl,⟨r0,r1,r4,r7,_,_,_,rfl,cp0,cm⟩,⟨⟨l0,l1,l4,l7⟩,b0,pF w2,b4,b7⟩,pF w5,pF w6⟩) h
 refine ⟨p,l,c,rfl,by omega,⟨p,c,rfl,?_⟩,?_⟩;{rcases h3 with h3 | ⟨b,o,rfl,h3⟩;{exact .inl h3};{refine .inr ⟨b,o,rfl,fun i y hy=>?_⟩;obtain ⟨wR,g1,P,V,H,U,rfl,⟨r0,r1,r4,r7,k0⟩,_⟩:=h3 i y hy;exact ⟨P,V,H,U,by simpa using g1 0 _ rfl,by simpa [Nat.add_assoc] using g1 1 _ rfl,by simpa [Nat.add_assoc] using g1 2 _ rfl,by simpa [Nat.add_assoc] using g1 3 _ rfl,by simpa [Nat.add_assoc] using g1 4 _ rfl,by simpa [Nat.add_assoc] using g1 5 _ rfl,by simpa [Nat.add_assoc] using g1 6 _ rfl,by simpa [Nat.add_assoc] using g1 7 _ rfl,r0,r1,r4,r7,k0⟩}};{intro y hy;rcases h3 with h3 | ⟨b,o,rfl,h3⟩;{rw [h3] at hy;cases hy};{obtain ⟨i,hi⟩:=List.getElem?_of_mem hy;obtain ⟨wR,_,P,V,H,U,_,_,g2⟩:=h3 i y hi;exact g2}}
theorem Q8 {cs:Array Value} (h:cs.size=6):∃ a b c d e f,cs=#[a,b,c,d,e,f]:=by
 obtain ⟨l⟩:=cs;simp at h
 match l,h with
 | [a,b,c,d,e,f],_=>exact ⟨a,b,c,d,e,f,rfl⟩
theorem BG {H:Type} {enc:TypeId × Value->H} {r:Reach} {d:DataW H} (hv:Value.okWide Tryz.prog w r b0 26 v) (h:DataW.Trod enc Tryz.prog w 0 (fun _=>true) true 26 v d ps) :
  ∃ (e g x t:Int) (p q:Option Addr) (ss:List aR) (ns:List aA) (c c':Nat),v=cL e g x t (.slice p ss.length c) (.slice q ns.length c')/\ss.length<=maxLen/\ns.length<=maxLen/\nR w (.slice p ss.length c) ss/\jB w (.slice q ns.length c') ns ∧
   (∀ s∈ss,s.2.2.length<=maxLen/\∀ e∈s.2.2,e.2.length<=maxLen/\cT e.2) ∧
   (∀ nd∈ns,(nd.path.length<=maxLen/\nd.value.length<=maxLen/\nd.holders.length<=maxLen/\nd.watchers.length<=maxLen)/\cT nd.path/\(0<=nd.owner/\nd.owner<18446744073709551616)/\(∀ i∈nd.holders,0<=i/\i<18446744073709551616)/\∀ i∈nd.watchers,0<=i/\i<18446744073709551616)/\(∀ nd∈ns,(0<=nd.aC/\nd.aC<18446744073709551616)/\0<=nd.gen/\nd.gen<18446744073709551616)/\(0<=e/\e<18446744073709551616)/\(0<=g/\g<18446744073709551616)/\(0<=x/\x<18446744073709551616):=by
 obtain ⟨cs,rfl,fH⟩:=okWide_struct Tryz.underlying26 hv;obtain ⟨x0,x1,x2,x3,x4,x5,rfl⟩:=Q8 (fH.trans Mu);obtain ⟨fuel,hf⟩:=h;obtain ⟨y0,y1,y2,y3,y4,y5,m,_,h0,h1,h2,h3,h4,h5⟩:=yG Tryz.underlying26 hf;simp [uk,um,Fx,Fy,Value.cells] at h0 h1 h2 h3 h4 h5;obtain ⟨e,e0,_,w0⟩:=DataW.trod_int Tryz.underlying22 h0;obtain ⟨g,e1,_,w1⟩:=DataW.trod_int Tryz.underlying22 h1;obtain ⟨x,e2,_,w2⟩:=DataW.trod_int Tryz.underlying22 h2;obtain ⟨t,e3,_,_⟩:=DataW.trod_int Tryz.underlying3 h3;obtain ⟨p,ss,c,e4,l4,r4,b4⟩:=yQ h4;obtain ⟨q,ns,c',e5,l5,r5,b5⟩:=y8 h5;simp at e0 e1 e2 e3 e4 e5;subst e0 e1 e2 e3 e4 e5;exact ⟨e,g,x,t,p,q,ss,ns,c,c',rfl,l4,l5,r4,r5,b4,fun nd h=>(b5 nd h).1,fun nd h=>(b5 nd h).2,pF w0,pF w1,pF w2⟩

theorem D7 {s:Int} (h:(Lit.int .u64 s).wf=true):0<=s/\s<18446744073709551616:=by
 simp [Lit.wf,IntKind.min,IntKind.max,IntKind.signed,IntKind.bits] at h;omega
theorem Mv:Tryz.prog.cellsOf 29=7:=by kernel_rfl
theorem vQ:Tryz.prog.cellsOf 178=7:=by kernel_rfl
theorem Dy:Tryz.prog.cellsOf 27=1:=by kernel_rfl
theorem IE:Tryz.prog.cellsOf 22=1:=by kernel_rfl
theorem yx:Tryz.prog.cellsOf 3=1:=by kernel_rfl
theorem Fz:Tryz.prog.cellsOf 4=1:=by kernel_rfl
theorem Wb {cs:Array Value} (h:cs.size=7):∃ a b c d e f g,cs=#[a,b,c,d,e,f,g]:=by
 obtain ⟨l⟩:=cs;simp at h
 match l,h with
 | [a,b,c,d,e,f,g],_=>exact ⟨a,b,c,d,e,f,g,rfl⟩
theorem qL {H:Type} {enc:TypeId × Value->H} {held:Bool} {x:DataW H × List MemPlace} (ht:P.underlying t=some (.struct #[f0,f1,f2,f3,f4,f5,f6])) (h:DataW.trod enc P w base spare held fuel t cs=some x) :
  ∃ y0 y1 y2 y3 y4 y5 y6 n,x.1=.agg [y0.1,y1.1,y2.1,y3.1,y4.1,y5.1,y6.1]/\cs.length=P.cellsOf t ∧
   DataW.trod enc P w base spare held n f0.type ((cs.drop f0.offset).take (P.cellsOf f0.type))=some y0/\DataW.trod enc P w base spare held n f1.type ((cs.drop f1.offset).take (P.cellsOf f1.type))=some y1 ∧
   DataW.trod enc P w base spare held n f2.type ((cs.drop f2.offset).take (P.cellsOf f2.type))=some y2/\DataW.trod enc P w base spare held n f3.type ((cs.drop f3.offset).take (P.cellsOf f3.type))=some y3 ∧
   DataW.trod enc P w base spare held n f4.type ((cs.drop f4.offset).take (P.cellsOf f4.type))=some y4/\DataW.trod enc P w base spare held n f5.type ((cs.drop f5.offset).take (P.cellsOf f5.type))=some y5 ∧
   DataW.trod enc P w base spare held n f6.type ((cs.drop f6.offset).take (P.cellsOf f6.type))=some y6:=by
 obtain ⟨xs,n,_,rfl,hl,hlen,hf⟩:=DataW.trod_struct ht h
 match xs,hlen with
 | [y0,y1,y2,y3,y4,y5,y6],_=>exact ⟨y0,y1,y2,y3,y4,y5,y6,n,rfl,hl,by simpa using hf 0 f0 rfl,by simpa using hf 1 f1 rfl,by simpa using hf 2 f2 rfl,by simpa using hf 3 f3 rfl,by simpa using hf 4 f4 rfl,by simpa using hf 5 f5 rfl,by simpa using hf 6 f6 rfl⟩
theorem Et {H:Type} {enc:TypeId × Value->H} {r:Reach} {d:DataW H} (hv:Value.okWide Tryz.prog w r b0 29 v) (h:DataW.Trod enc Tryz.prog w 0 (fun _=>true) true 29 v d ps) :
  ∃ (k s f e g:Int) (p q:Option Addr) (P V:List Int) (c c':Nat),v=qx k s (.slice p P.length c) f (.slice q V.length c') e g/\Rd w (.slice p P.length c) P/\Rd w (.slice q V.length c') V/\P.length<=maxLen/\V.length<=maxLen/\(∀ z∈P,0<=z/\z<256)/\(∀ z∈V,0<=z/\z<256)/\0<=s/\s<18446744073709551616:=by
 obtain ⟨cs,rfl,fH⟩:=okWide_struct Tryz.underlying29 hv;obtain ⟨x0,x1,x2,x3,x4,x5,x6,rfl⟩:=Wb (fH.trans Mv);obtain ⟨fuel,hf⟩:=h;obtain ⟨y0,y1,y2,y3,y4,y5,y6,m,_,_,h0,h1,h2,h3,h4,h5,h6⟩:=qL Tryz.underlying29 hf;simp [Dy,IE,yx,Value.cells] at h0 h1 h2 h3 h4 h5 h6;obtain ⟨k,e0,_,_⟩:=DataW.trod_int Tryz.underlying3 h0;obtain ⟨s,e1,_,ws⟩:=DataW.trod_int Tryz.underlying22 h1;obtain ⟨p,P,c,e2,Je,AV,_,iD⟩:=Rd.iZ h2;obtain ⟨f,e3,_,_⟩:=DataW.trod_int Tryz.underlying3 h3;obtain ⟨q,V,c',e4,Yr,KP,_,Jq⟩:=Rd.iZ h4;obtain ⟨e,e5,_,_⟩:=DataW.trod_int Tryz.underlying22 h5;obtain ⟨g,e6,_,_⟩:=DataW.trod_int Tryz.underlying22 h6;simp at e0 e1 e2 e3 e4 e5 e6;subst e0 e1 e2 e3 e4 e5 e6;obtain ⟨s0,s1⟩:=D7 ws;exact ⟨k,s,f,e,g,p,q,P,V,c,c',rfl,Je,Yr,AV,KP,iD,Jq,s0,s1⟩
theorem Al {n:Nat} {x:DataW Unit × List MemPlace} {se pa sq jo:Bool} (h:DataW.trod (fun _=>()) Tryz.prog w 0 (fun _=>true) false n 178 cs=some x) (hx:x.1=.agg [.lit (.bool se),.lit (.bool pa),.lit (.int .i64 lo),.lit (.int .i64 hi),.lit (.int .i64 vs),.lit (.bool sq),.lit (.bool jo)]) :
  cs=[.bool se,.bool pa,.int .i64 lo,.int .i64 hi,.int .i64 vs,.bool sq,.bool jo]:=by
 obtain ⟨y0,y1,y2,y3,y4,y5,y6,m,e,hl,h0,h1,h2,h3,h4,h5,h6⟩:=qL Tryz.underlying178 h;rw [vQ] at hl;obtain ⟨x0,x1,x2,x3,x4,x5,x6,rfl⟩:∃ x0 x1 x2 x3 x4 x5 x6,cs=[x0,x1,x2,x3,x4,x5,x6]:=by
  match cs,hl with
  | [a,b,c,d,e,f,g],_=>exact ⟨a,b,c,d,e,f,g,rfl⟩
 simp [Fz,yx] at h0 h1 h2 h3 h4 h5 h6;obtain ⟨b0,e0,f0⟩:=DataW.trod_bool Tryz.underlying4 h0;obtain ⟨b1,e1,f1⟩:=DataW.trod_bool Tryz.underlying4 h1;obtain ⟨b2,e2,f2,_⟩:=DataW.trod_int Tryz.underlying3 h2;obtain ⟨b3,e3,f3,_⟩:=DataW.trod_int Tryz.underlying3 h3;obtain ⟨b4,e4,f4,_⟩:=DataW.trod_int Tryz.underlying3 h4;obtain ⟨b5,e5,f5⟩:=DataW.trod_bool Tryz.underlying4 h5;obtain ⟨b6,e6,f6⟩:=DataW.trod_bool Tryz.underlying4 h6;rw [e,f0,f1,f2,f3,f4,f5,f6] at hx;simp at hx e0 e1 e2 e3 e4 e5 e6;obtain ⟨rfl,rfl,rfl,rfl,rfl,rfl,rfl⟩:=hx;subst e0 e1 e2 e3 e4 e5 e6
 rfl
end Go.Proofs.YtmfjiolopcbcmaaGreatDoor
