import Derived.Test.YtmfjiolopcbcmaaGreatDoorK46
import Derived.Test.YtmfjiolopcbcmaaGreatDoorK47
namespace Go.Proofs.YtmfjiolopcbcmaaGreatDoor
set_option maxHeartbeats 1600000
set_option linter.unusedVariables false
set_option linter.unusedSimpArgs false
set_option maxRecDepth 100000
open Go.ChangeShapes Go.WideShapes Go.ChangeAt Go.RowKit Go.Maps Go.Proofs.Tryz
variable {D:SD} {E F G K S:Int} {P V:List Int} {b bn bs cp cv k np nv:Nat} {ns:List aA} {pp pq:Option Addr} {w w0:World}
def Tab (w:World):Prop:=∀ k:Nat,1<=k->k<=13->ta w 1 (k*7) (rowOf k).1 (rowOf k).2.1 (rowOf k).2.2.1 (rowOf k).2.2.2.1 (rowOf k).2.2.2.2.1 (rowOf k).2.2.2.2.2.1 (rowOf k).2.2.2.2.2.2
structure GD (D:SD):Prop where
 wf:WF D
 ci:CI D.ss D.ns
 pw:(D.ns.map fun nd=>kI nd.path).Pairwise (·<·)
 ho:∀ nd∈D.ns,(nd.mode=1->nd.holders.length=1)/\(nd.mode≠1->nd.aC=0/\nd.gen=0/\(nd.mode=0->nd.holders.length=0))
 sx:∀ s∈D.ss,s.1<=D.x
 ql:∀ s∈D.ss,s.2.2.length<=1048576/\∀ e∈s.2.2,e.2.length<=1048576
 wl:∀ nd∈D.ns,nd.watchers.length<=1048576
 sl:D.ss.length<1048576
 nl:D.ns.length<1048576
theorem GD.of {e g x t:Int} {ss:List aR} (h:ng e g x t ss ns=true) (hF:DP ss ns) (g0:0<=g) (x0:0<=x):GD ⟨e,g,x,t,ss,ns⟩:=by
 have h':=h;unfold ng at h';simp only [Bool.and_eq_true,decide_eq_true_eq] at h';obtain ⟨⟨-,-,-,-,-,l1,l2⟩,a1,a2⟩:=h';refine ⟨WF.of h hF g0 x0,⟨uo.of hF a1,fun nd bf=>?_,KD.of hF⟩,hF.n1,fun nd bf=>?_,fun s hs=>(uJ a1 hs).2.1,fun s hs=>(hF.s2 s hs).2,fun nd bf=>(hF.n2 nd bf).2.2.2.2.1,by show ss.length<_;omega,by show ns.length<_;omega⟩;{obtain ⟨i,hi⟩:=List.mem_iff_getElem?.1 bf;exact ⟨NT.of hF a2 hi,(hF.n2 nd bf).2.2.2.2.2.1,(hF.n2 nd bf).2.2.2.1⟩};{obtain ⟨i,hi⟩:=List.mem_iff_getElem?.1 bf;obtain ⟨q1,-⟩:=qU a2 hi;exact ⟨fun hm=>uQ q1 hm,fun hm=>Ci q1 hm⟩}
structure tM (w0 w:World) (b bs bn:Nat) (D:SD) (SB NB HB UB:List Nat) (S F E G:Int) (pp:Option Addr) (np cp:Nat) (pq:Option Addr) (nv cv:Nat) (P V:List Int):Prop where
 ps:PS w0 w b bs bn D SB NB HB UB
 gd:GD D
 hS:0<=S/\S<18446744073709551616
 eP:P.length=np
 eV:V.length=nv
 hP:Rd w (.slice pp np cp) P
 hV:AB w0 w (.slice pq nv cv) V
 hB:cT P
 hp:np<=1048576
 jg:np<=cp
 jf:cp<=maxLen
 hm:∃ m,w.cell? ⟨2,0,none⟩=some (.int .i64 m)
 hT:Tab w
theorem tM.below {w':World} {SB NB HB UB:List Nat} (h:tM w0 w b bs bn D SB NB HB UB S F E G pp np cp pq nv cv P V) (hb:Below w.heap.size w w'):tM w0 w' b bs bn D SB NB HB UB S F E G pp np cp pq nv cv P V:=
 ⟨h.ps.below hb,h.gd,h.hS,h.eP,h.eV,h.hP.below hb,h.hV.fr (Fr.below (T:=[]) hb) (by simp),h.hB,h.hp,h.jg,h.jf,by obtain ⟨m,hm⟩:=h.hm;exact ⟨m,af hm hb⟩,fun k h1 h2=>(h.hT k h1 h2).below hb⟩
theorem Cc :DS ns P<0↔fe ns P=none:=by
 constructor;{
 intro h;cases hn:fe ns P with
 | none=>rfl
 | some nd=>
  exfalso;unfold DS at h;cases hf:ns.findIdx? (fun nd=>decide (nd.path=P)) with
  | some i=>rw [hf] at h;simp at h;omega
  | none=>
   have h1:=List.findIdx?_eq_none_iff.1 hf nd (List.mem_of_find?_eq_some hn);have h2:=List.find?_some hn;rw [h1] at h2;cases h2};{
 intro h;rw [Cd h]
 decide}
theorem Ra (h1:1<=k) (h2:k<=13) {C:Int} (eC:nO D (rowOf k).1 (rowOf k).2.1 (Am k S F P.length V.length E G) k S P=C) (hC:C≠0):cG D k S F E G P V=(D,rO C):=by
 have hf:Jr k S F P.length V.length E G=Am k S F P.length V.length E G:=by rw [Jr,if_pos (by omega),Int.toNat_natCast]
 unfold cG;rw [hf];cases hB:Am k S F P.length V.length E G with
 | false=>
  rw [hB] at eC;simp only [nO,if_true] at eC;rw [if_pos rfl,eC]
 | true=>
  rw [hB] at eC;rw [if_neg (by simp)];by_cases hs:(rowOf k).1=true/\ni D.ss S<0
  {
 have e3:C=3:=by rw [<-eC];simp [nO,hs]
 rcases kinds h1 h2 with rfl | rfl | rfl | rfl | rfl | rfl | rfl | rfl | rfl | rfl | rfl | rfl | rfl<;>simp_all [rowOf,Jd]}
  {
 have e4:(if (rowOf k).2.1=true then mj D k P else 0)=C:=by rw [<-eC];simp only [nO,Bool.true_eq_false,if_false,hs]
 clear eC hf hB;subst e4;unfold la;rcases kinds h1 h2 with rfl | rfl | rfl | rfl | rfl | rfl | rfl | rfl | rfl | rfl | rfl | rfl | rfl<;>simp only [rowOf,mj,Rz,jY] at hC hs ⊢<;>by_cases hr:P=[47]<;>cases hv:vp P<;>cases hn:fe D.ns P<;>simp_all [Cc,Jd]<;>(intros;omega)}
theorem rA {se pa B:Bool} (h:nO D se pa B K S P=0):B=true/\(se=true->¬ ni D.ss S<0)/\(pa=true->mj D K P=0):=by
 unfold nO at h;cases B with
 | false=>simp at h
 | true=>
  refine ⟨rfl,fun e hs=>?_,fun e=>?_⟩;{simp [e,hs] at h};{
 by_cases hs:se=true/\ni D.ss S<0
 {simp [hs] at h};{simpa [hs,e] using h}}
def oI (w0 w:World) (b bs bn:Nat) (D:SD) (A:SD × RP) (r:Ending) (w':World):Prop:=∃ D' R C,ai3 w0 w b bs bn D D' R C r w'/\A=if C=0 then (D',R) else (D,rO C)
theorem fy {SB NB HB UB:List Nat} (cx:tM w0 w b bs bn D SB NB HB UB S F E G pp np cp pq nv cv P V) (k:Nat) (C1:Int) (D':SD) (R:RP) (ty:TypeId) (v:Value) (fC fA:FuncId) (vC:Value)
  (ic:nO D (rowOf k).1 (rowOf k).2.1 (Am k S F P.length V.length E G) k S P=0->(∀ w',tM w0 w' b bs bn D SB NB HB UB S F E G pp np cp pq nv cv P V->Calls prog fC #[vC,.pointer (some ⟨b,0,none⟩)] w' fun r w''=>r=.returned (uh C1)/\Below w'.heap.size w' w'') ∧
   (C1=0->∀ w',tM w0 w' b bs bn D SB NB HB UB S F E G pp np cp pq nv cv P V->Calls prog fA #[v,.pointer (some ⟨b,0,none⟩)] w' (I5 w0 w' b bs bn D' R))/\cG D k S F E G P V=if C1=0 then (D',R) else (D,rO C1))
  (h1:1<=k:=by decide) (h2:k<=13:=by decide) (hq:XZ k S (aB P) F (.slice pq nv cv) E G=.iface ty v:=by rfl)
  (hmC : ∀ w, (Go.method 431 ty v "loop.example/s02132/impl.check").run prog w = .ok (fC, vC) w := by (intro w; kernel_rfl)) (hmA : ∀ w, (Go.method 431 ty v "loop.example/s02132/impl.act").run prog w = .ok (fA, v) w := by (intro w; kernel_rfl))
  (WU:∀ vs w,(callFunc fC vs).run prog w=.ok (.enter fC vs) w:=by (intro vs w;kernel_rfl)) (NC:∀ vs w,(callFunc fA vs).run prog w=.ok (.enter fA vs) w:=by (intro vs w;kernel_rfl)) :
  Calls prog 30 #[.pointer (some ⟨b,0,none⟩),oP k S (.slice pp np cp) F (.slice pq nv cv) E G] w (oI w0 w b bs bn D (cG D k S F E G P V)):=by
 obtain ⟨C0,eC0⟩:=aZ (nO D (rowOf k).1 (rowOf k).2.1 (Am k S F P.length V.length E G) k S P);rw [eC0] at ic;refine (GR w b bs bn D D' SB NB HB UB cx.ps k S F E G pp np cp pq nv cv C0 C1 _ (ae rfl) R ty v fC fA vC v (fun w' hb=>?_) (fun _ w' hb=>?_) hmC hmA WU NC (fun hC w' hb=>(ic hC).1 w' (cx.below hb)) (fun hC Jp w' hb=>(ic hC).2.1 Jp w' (cx.below hb))).mono fun r w' hr=>⟨D',R,_,hr,?_⟩;{have c:=cx.below hb;exact Mm w' b bs bn D SB NB HB UB c.ps (fun nd bf=>(c.gd.wf.pb nd bf).2.1) k h1 h2 S F E G c.hS pp np cp pq nv cv P c.eP c.hP c.hB c.hp c.jg c.jf c.hm _ _ _ _ _ _ _ (c.hT k h1 h2) _ (ae rfl) C0 (by show _=_;rw [<-eC0,c.eP,c.eV];rfl)};{have c:=cx.below hb;have:=BL k h1 h2 S F E G pp np cp pq nv cv P c.eP w' c.hP;rw [hq] at this;exact this};{by_cases hC:C0=0;{rw [(ic hC).2.2,if_pos hC]};{rw [if_neg hC,if_neg hC];exact Ra h1 h2 eC0 hC}}
theorem QT {SB NB HB UB:List Nat} (cx:tM w0 w b bs bn D SB NB HB UB S F E G pp np cp pq nv cv P V) (hK:K<1\/13<K) :
  Calls prog 30 #[.pointer (some ⟨b,0,none⟩),oP K S (.slice pp np cp) F (.slice pq nv cv) E G] w (oI w0 w b bs bn D (cG D K S F E G P V)):=by
 refine (GR w b bs bn D D SB NB HB UB cx.ps K S F E G pp np cp pq nv cv 2 2 2 (ae rfl) iQ 182 (.agg #[]) 238 237 (.agg #[]) (.agg #[]) (fun w' hb=>IB w' b K S F E G hK pp np cp pq nv cv) (fun h=>absurd h (by decide)) (fun w=>by kernel_rfl) (fun w=>by kernel_rfl) (fun vs w=>by kernel_rfl) (fun vs w=>by kernel_rfl) (fun h=>absurd h (by decide)) (fun h=>absurd h (by decide))).mono fun r w' hr=>⟨D,iQ,2,hr,?_⟩;have hf:Jr K S F P.length V.length E G=false:=by rw [Jr,if_neg (by omega)]
 unfold cG;rw [if_pos hf]
 rfl
section
variable {w0 w:World} {b bs bn:Nat} {D:SD} {SB NB HB UB:List Nat} {S F E G:Int} {pp:Option Addr} {np cp:Nat} {pq:Option Addr} {nv cv:Nat} {P V:List Int}
theorem rj (h1:1<=k) (h2:k<=13) (hB:Am k S F P.length V.length E G=true):¬ Jr k S F P.length V.length E G=false:=by
 rw [Jr,if_pos (by omega),Int.toNat_natCast,hB];simp
theorem Em (h:¬ ni D.ss S<0):∃ (i:Nat) (s:aR),ni D.ss S=i/\D.ss[i]?=some s/\s.1=S:=by
 unfold ni at h ⊢;cases hf:D.ss.findIdx? (fun s=>s.1==S) with
 | none=>rw [hf] at h;simp at h
 | some i=>
  obtain ⟨h1,h2,-⟩:=List.findIdx?_eq_some_iff_getElem.1 hf;exact ⟨i,_,rfl,aH h1,by simpa using h2⟩
theorem J9 (h:fe D.ns P≠none):∃ (i:Nat) (nd:aA),DS D.ns P=i/\D.ns[i]?=some nd/\nd.path=P/\fe D.ns P=some nd:=by
 have hn:¬ DS D.ns P<0:=fun e=>h (Cc.1 e);unfold DS at hn ⊢;cases hf:D.ns.findIdx? (fun nd=>decide (nd.path=P)) with
 | none=>rw [hf] at hn;simp at hn
 | some i=>
  obtain ⟨h1,h2,h3⟩:=List.findIdx?_eq_some_iff_getElem.1 hf;refine ⟨i,_,rfl,aH h1,by simpa using h2,?_⟩;rw [fe,List.find?_eq_some_iff_getElem];exact ⟨by simpa using h2,i,h1,rfl,fun j hj=>by have:=h3 j hj;simpa using this⟩
theorem MA (cx:tM w0 w b bs bn D SB NB HB UB S F E G pp np cp pq nv cv P V):Calls prog 30 #[.pointer (some ⟨b,0,none⟩),oP (1:Nat) S (.slice pp np cp) F (.slice pq nv cv) E G] w (oI w0 w b bs bn D (cG D (1:Nat) S F E G P V)):=by
 refine fy cx 1 (qT D) _ _ 182 (.agg #[]) 238 237 (.agg #[]) (fun h0=>⟨fun w' c=>Pa w' b bs bn D SB NB HB UB c.ps _ (ae rfl),fun hC w' c=>(Pb w' b bs bn D SB NB HB UB c.ps ⟨c.gd.wf.x.1,(xI hC).2.2⟩ c.gd.wf.t (fun s hs e=>by have:=c.gd.sx s hs;omega) c.gd.sl).mono fun r w'' ⟨gN,h⟩=>jC.r h,?_⟩);have e:cG D (1:Nat) S F E G P V=jZ D:=by unfold cG;rw [if_neg (rj (by decide) (by decide) (rA h0).1),if_pos (by decide)]
 rw [e];by_cases hC:qT D=0;{
 rw [if_pos hC,(xI hC).1]
 rfl}
 {rw [if_neg hC,J3 hC]}
theorem ME (cx:tM w0 w b bs bn D SB NB HB UB S F E G pp np cp pq nv cv P V):Calls prog 30 #[.pointer (some ⟨b,0,none⟩),oP (2:Nat) S (.slice pp np cp) F (.slice pq nv cv) E G] w (oI w0 w b bs bn D (cG D (2:Nat) S F E G P V)):=by
 refine fy cx 2 0 (oU D (ni D.ss S).toNat).1 (oU D (ni D.ss S).toNat).2 185 (.agg #[.int .u64 S]) 239 240 (.agg #[]) (fun h0=>?_);obtain ⟨hB,hs,-⟩:=rA h0;have vh:=hs rfl;obtain ⟨i,s,e1,e2,e3⟩:=Em vh;refine ⟨fun w' c=>jU _ rfl _ w',fun _ w' c=>?_,?_⟩;{have hk:=Pu w' b bs bn D SB NB HB UB c.ps i s e2 (by rw [e3];exact c.hS) D.t (ae rfl) c.gd.wf.t;rw [e3] at hk;rw [e1,Int.toNat_natCast];refine hk.mono fun r w'' h=>?_;have e9:=Cq e2;rw [e9] at h ⊢;exact jC.r h};{unfold cG;rw [if_neg (rj (by decide) (by decide) hB),if_neg (by decide),if_neg (by simp;intro _;omega),if_pos (by decide),if_pos rfl]}
theorem iq (h4:4<=k) (h2:k<=13) (Vs:k≠12) (h0:nO D (rowOf k).1 (rowOf k).2.1 (Am k S F P.length V.length E G) k S P=0):cG D k S F E G P V=la D k S F E G P V:=by
 obtain ⟨hB,hs,-⟩:=rA h0;have vh:¬ ((Jd k&&decide (ni D.ss S<0))=true):=by clear h0 hB;rcases kinds (by omega) h2 with rfl | rfl | rfl | rfl | rfl | rfl | rfl | rfl | rfl | rfl | rfl | rfl | rfl<;>simp_all [Jd,rowOf]
 unfold cG;rw [if_neg (rj (by omega) h2 hB),if_neg (by omega),if_neg vh,if_neg (by omega),if_neg (by omega),if_neg (by omega)]
theorem Gp (h:mj D K P=0):jY K P=true\/(jY K P=false/\vp P=true/\(Rz K=true->fe D.ns P≠none)):=by
 unfold mj at h;cases hr:jY K P with
 | true=>exact .inl rfl
 | false=>
  refine .inr ⟨rfl,?_⟩;rw [hr] at h;cases hv:vp P with
  | false=>rw [hv] at h;simp at h
  | true=>
   refine ⟨rfl,fun e1 e2=>?_⟩;rw [hv] at h;simp [e1,e2] at h
theorem tR (h:K≠13):jY K P=false:=by simp [jY,h]
theorem jR (hk:k=5\/k=6\/k=7\/k=8\/k=9\/k=11) (h:mj D k P=0):∃ (i:Nat) (nd:aA),D.ns[i]?=some nd/\nd.path=P/\la D k S F E G P V=mn D i k S F V:=by
 have W9:(k:Int)≠13:=by omega
 rcases Gp h with hr | ⟨hr,hv,hn⟩;{rw [tR W9] at hr;cases hr};{obtain ⟨i,nd,e1,e2,e3,-⟩:=J9 (hn (by rcases hk with rfl | rfl | rfl | rfl | rfl | rfl<;>rfl));refine ⟨i,nd,e2,e3,?_⟩;unfold la;rw [hr,hv,if_neg (by simp),if_neg (by omega),if_neg (by omega),if_neg (by simp;omega),if_neg W9,e1,Int.toNat_natCast]}
theorem IJ (cx:tM w0 w b bs bn D SB NB HB UB S F E G pp np cp pq nv cv P V):Calls prog 30 #[.pointer (some ⟨b,0,none⟩),oP (3:Nat) S (.slice pp np cp) F (.slice pq nv cv) E G] w (oI w0 w b bs bn D (cG D (3:Nat) S F E G P V)):=by
 refine fy cx 3 0 (il D S) iQ 186 (.agg #[.int .u64 S]) 239 241 (.agg #[]) (fun h0=>?_);obtain ⟨hB,hs,-⟩:=rA h0;have vh:=hs rfl;obtain ⟨i,s,e1,e2,e3⟩:=Em vh;refine ⟨fun w' c=>jU _ rfl _ w',fun _ w' c=>?_,?_⟩;{have hk:=Mq w' b bs bn D SB NB HB UB c.ps c.gd.ci c.gd.pw i s e2 _ (ae rfl) (Nat.le_of_lt c.gd.nl);rw [e3] at hk;exact hk.mono fun r w'' ⟨_,_,_,_,h⟩=>jC.r h};{unfold cG;rw [if_neg (rj (by decide) (by decide) hB),if_neg (by decide),if_neg (by simp;intro _;omega),if_neg (by decide),if_pos (by decide),if_pos rfl]}
theorem Mz (cx:tM w0 w b bs bn D SB NB HB UB S F E G pp np cp pq nv cv P V):Calls prog 30 #[.pointer (some ⟨b,0,none⟩),oP (12:Nat) S (.slice pp np cp) F (.slice pq nv cv) E G] w (oI w0 w b bs bn D (cG D (12:Nat) S F E G P V)):=by
 obtain ⟨s,es⟩:=aZ ((D.ss[(ni D.ss S).toNat]?).getD (0,0,[]));refine fy cx 12 0 { D with ss:=D.ss.set (ni D.ss S).toNat (s.1,s.2.1,[]) } { iQ with gy:=s.2.2 } 202 (.agg #[.int .u64 S]) 239 263 (.agg #[]) (fun h0=>?_);obtain ⟨hB,hs,-⟩:=rA h0;have vh:=hs rfl;obtain ⟨i,s',e1,e2,e3⟩:=Em vh;rw [e1,Int.toNat_natCast,e2,Option.getD_some] at es;subst es;have hm:=aL e2;refine ⟨fun w' c=>jU _ rfl _ w',fun _ w' c=>?_,?_⟩;{have hk:=OR w' b bs bn D SB NB HB UB c.ps i s' e2 (by rw [e3];exact c.hS) _ (ae rfl) (c.gd.ql s' hm).1 (c.gd.ql s' hm).2;rw [e3] at hk ⊢;rw [e1,Int.toNat_natCast];exact hk.mono fun r w'' ⟨p,c,A,q1,q2,q3,q4,q5,q6⟩=>X7 rfl q1 q2 q3 q4 q5 q6};{unfold cG;rw [if_neg (rj (by decide) (by decide) hB),if_neg (by decide),if_neg (by simp;intro _;omega),if_neg (by decide),if_neg (by decide),if_pos (by decide),if_pos rfl,e1,Int.toNat_natCast];unfold Gn;rw [e2]}
end
end Go.Proofs.YtmfjiolopcbcmaaGreatDoor
