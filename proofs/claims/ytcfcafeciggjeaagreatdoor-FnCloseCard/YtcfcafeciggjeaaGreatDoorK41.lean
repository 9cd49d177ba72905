import Derived.Test.YtcfcafeciggjeaaGreatDoorAI2
import Derived.Test.YtcfcafeciggjeaaGreatDoorAGy
namespace Go.Proofs.YtcfcafeciggjeaaGreatDoor
set_option maxHeartbeats 1600000
set_option linter.unusedVariables false
set_option linter.unusedSimpArgs false
set_option maxRecDepth 100000
open Go.ChangeShapes Go.WideShapes Go.ChangeAt Go.RowKit Go.Maps Go.Proofs.Tryz
variable {D:SD} {E F G K S e g t x:Int} {P V:List Int} {a a' b bn bs cp cv k np nv:Nat} {nd:aA} {ns:List aA} {pp pq:Option Addr} {ss:List aL} {w w0:World}
def Ya (w:World):Prop:=∀ k:Nat,1<=k->k<=13->qP w 0 (k*7) (rowOf k).1 (rowOf k).2.1 (rowOf k).2.2.1 (rowOf k).2.2.2.1 (rowOf k).2.2.2.2.1 (rowOf k).2.2.2.2.2.1 (rowOf k).2.2.2.2.2.2
structure GD (D:SD):Prop where
 wf:WF D
 ci:CI D.ss D.ns
 pw:(D.ns.map fun nd=>iZ nd.path).Pairwise (·<·)
 ho:∀ nd∈D.ns,(nd.mode=1->nd.holders.length=1)/\(nd.mode≠1->nd.aD=0/\nd.gen=0/\(nd.mode=0->nd.holders.length=0))
 sx:∀ s∈D.ss,s.1<=D.x
 ql:∀ s∈D.ss,s.2.2.length<=1048576/\∀ e∈s.2.2,e.2.length<=1048576
 wl:∀ nd∈D.ns,nd.watchers.length<=1048576
 sl:D.ss.length<1048576
 nl:D.ns.length<1048576
theorem GD.of (h:jl e g x t ss ns=true) (hF:xk ss ns) (g0:0<=g) (x0:0<=x):GD ⟨e,g,x,t,ss,ns⟩:=by
 have h':=h;unfold jl at h';simp only [Bool.and_eq_true,decide_eq_true_eq] at h';obtain ⟨⟨-,-,-,-,-,l1,l2⟩,a1,a2⟩:=h';refine ⟨WF.of h hF g0 x0,⟨xu.of hF a1,fun nd aK=>?_,KD.of hF⟩,hF.n1,fun nd aK=>?_,fun s hs=>(sc a1 hs).2.1,fun s hs=>(hF.s2 s hs).2,fun nd aK=>(hF.n2 nd aK).2.2.2.2.1,by show ss.length<_;omega,by show ns.length<_;omega⟩;{obtain ⟨i,hi⟩:=List.mem_iff_getElem?.1 aK;exact ⟨NT.of hF a2 hi,(hF.n2 nd aK).2.2.2.2.2.1,(hF.n2 nd aK).2.2.2.1⟩};{obtain ⟨i,hi⟩:=List.mem_iff_getElem?.1 aK;obtain ⟨q1,-⟩:=oL a2 hi;exact ⟨fun hm=>jW q1 hm,fun hm=>ly q1 hm⟩}
structure EU (w0 w:World) (b bs bn:Nat) (D:SD) (SB NB HB UB:List Nat) (S F E G:Int) (pp:Option Addr) (np cp:Nat) (pq:Option Addr) (nv cv:Nat) (P V:List Int):Prop where
 ps:PS w0 w b bs bn D SB NB HB UB
 gd:GD D
 hS:0<=S/\S<18446744073709551616
 eP:P.length=np
 eV:V.length=nv
 hP:Rd w (.slice pp np cp) P
 hV:AB w0 w (.slice pq nv cv) V
 hB:bQ P
 hp:np<=1048576
 mG:np<=cp
 jN:cp<=maxLen
 hm:∃ m,w.cell? ⟨2,0,none⟩=some (.int .i64 m)
 hT:Ya w
theorem EU.below {w':World} {SB NB HB UB:List Nat} (h:EU w0 w b bs bn D SB NB HB UB S F E G pp np cp pq nv cv P V) (hb:Below w.heap.size w w'):EU w0 w' b bs bn D SB NB HB UB S F E G pp np cp pq nv cv P V:=
 ⟨h.ps.below hb,h.gd,h.hS,h.eP,h.eV,h.hP.below hb,h.hV.fr (Fr.below (T:=[]) hb) (by simp),h.hB,h.hp,h.mG,h.jN,by obtain ⟨m,hm⟩:=h.hm;exact ⟨m,af hm hb⟩,fun k h1 h2=>(h.hT k h1 h2).below hb⟩
theorem Gv :DS ns P<0↔ga ns P=none:=by
 constructor;{
 intro h;cases hn:ga ns P with
 | none=>rfl
 | some nd=>
  exfalso;unfold DS at h;cases hf:ns.findIdx? (fun nd=>decide (nd.path=P)) with
  | some i=>rw [hf] at h;simp at h;omega
  | none=>
   have h1:=List.findIdx?_eq_none_iff.1 hf nd (List.mem_of_find?_eq_some hn);have h2:=List.find?_some hn;rw [h1] at h2;cases h2};{
 intro h;rw [xV h]
 decide}
theorem LP (h1:1<=k) (h2:k<=13) {C:Int} (eC:uG D (rowOf k).1 (rowOf k).2.1 (Eg k S F P.length V.length E G) k S P=C) (hC:C≠0):bS D k S F E G P V=(D,qV C):=by
 have hf:Dc k S F P.length V.length E G=Eg k S F P.length V.length E G:=by rw [Dc,if_pos (by omega),Int.toNat_natCast]
 unfold bS;rw [hf];cases hB:Eg k S F P.length V.length E G with
 | false=>
  rw [hB] at eC;simp only [uG,if_true] at eC;rw [if_pos rfl,eC]
 | true=>
  rw [hB] at eC;rw [if_neg (by simp)];by_cases hs:(rowOf k).1=true/\kp D.ss S<0;{
 have e3:C=3:=by rw [<-eC];simp [uG,hs]
 rcases kinds h1 h2 with rfl | rfl | rfl | rfl | rfl | rfl | rfl | rfl | rfl | rfl | rfl | rfl | rfl<;>simp_all [rowOf,A0]}
  {
 have e4:(if (rowOf k).2.1=true then oF D k P else 0)=C:=by rw [<-eC];simp only [uG,Bool.true_eq_false,if_false,hs]
 clear eC hf hB;subst e4;unfold qH;rcases kinds h1 h2 with rfl | rfl | rfl | rfl | rfl | rfl | rfl | rfl | rfl | rfl | rfl | rfl | rfl<;>simp only [rowOf,oF,Ov,kq] at hC hs ⊢<;>by_cases hr:P=[47]<;>cases hv:vp P<;>cases hn:ga D.ns P<;>simp_all [Gv,A0]<;>(intros;omega)}
theorem VE {se pa B:Bool} (h:uG D se pa B K S P=0):B=true/\(se=true->¬ kp D.ss S<0)/\(pa=true->oF D K P=0):=by
 unfold uG at h;cases B with
 | false=>simp at h
 | true=>
  refine ⟨rfl,fun e hs=>?_,fun e=>?_⟩;{simp [e,hs] at h};{by_cases hs:se=true/\kp D.ss S<0;{simp [hs] at h};{simpa [hs,e] using h}}
def Mo (w0 w:World) (b bs bn:Nat) (D:SD) (A:SD × RP) (r:Ending) (w':World):Prop:=∃ D' R C,WD w0 w b bs bn D D' R C r w'/\A=if C=0 then (D',R) else (D,qV C)
theorem IF {SB NB HB UB:List Nat} (cx:EU w0 w b bs bn D SB NB HB UB S F E G pp np cp pq nv cv P V) (k:Nat) (C1:Int) (D':SD) (R:RP) (ty:TypeId) (v:Value) (fC fA:FuncId) (vC:Value)
  (gC:uG D (rowOf k).1 (rowOf k).2.1 (Eg k S F P.length V.length E G) k S P=0->(∀ w',EU w0 w' b bs bn D SB NB HB UB S F E G pp np cp pq nv cv P V->Calls prog fC #[vC,.pointer (some ⟨b,0,none⟩)] w' fun r w''=>r=.returned (yR C1)/\Below w'.heap.size w' w'') ∧
   (C1=0->∀ w',EU w0 w' b bs bn D SB NB HB UB S F E G pp np cp pq nv cv P V->Calls prog fA #[v,.pointer (some ⟨b,0,none⟩)] w' (Mp w0 w' b bs bn D' R))/\bS D k S F E G P V=if C1=0 then (D',R) else (D,qV C1))
  (h1:1<=k:=by decide) (h2:k<=13:=by decide) (hq:SK k S (aY P) F (.slice pq nv cv) E G=.iface ty v:=by rfl)
  (ZP : ∀ w, (Go.method 440 ty v "loop.example/s02132/impl.check").run prog w = .ok (fC, vC) w := by (intro w; kernel_rfl)) (ZQ : ∀ w, (Go.method 440 ty v "loop.example/s02132/impl.act").run prog w = .ok (fA, v) w := by (intro w; kernel_rfl))
  (Ur:∀ vs w,(callFunc fC vs).run prog w=.ok (.enter fC vs) w:=by (intro vs w;kernel_rfl)) (KP:∀ vs w,(callFunc fA vs).run prog w=.ok (.enter fA vs) w:=by (intro vs w;kernel_rfl)) :
  Calls prog 36 #[.pointer (some ⟨b,0,none⟩),tJ k S (.slice pp np cp) F (.slice pq nv cv) E G] w (Mo w0 w b bs bn D (bS D k S F E G P V)):=by
 obtain ⟨C0,eC0⟩:=aN (uG D (rowOf k).1 (rowOf k).2.1 (Eg k S F P.length V.length E G) k S P);rw [eC0] at gC;refine (LJ w b bs bn D D' SB NB HB UB cx.ps k S F E G pp np cp pq nv cv C0 C1 _ (ae rfl) R ty v fC fA vC v (fun w' hb=>?_) (fun _ w' hb=>?_) ZP ZQ Ur KP (fun hC w' hb=>(gC hC).1 w' (cx.below hb)) (fun hC Rt w' hb=>(gC hC).2.1 Rt w' (cx.below hb))).mono fun r w' hr=>⟨D',R,_,hr,?_⟩;{have c:=cx.below hb;exact IB w' b bs bn D SB NB HB UB c.ps (fun nd aK=>(c.gd.wf.pb nd aK).2.1) k h1 h2 S F E G c.hS pp np cp pq nv cv P c.eP c.hP c.hB c.hp c.mG c.jN c.hm _ _ _ _ _ _ _ (c.hT k h1 h2) _ (ae rfl) C0 (by show _=_;rw [<-eC0,c.eP,c.eV];rfl)};{have c:=cx.below hb;have:=xJ k h1 h2 S F E G pp np cp pq nv cv P c.eP w' c.hP;rw [hq] at this;exact this};{by_cases hC:C0=0;{rw [(gC hC).2.2,if_pos hC]};{rw [if_neg hC,if_neg hC];exact LP h1 h2 eC0 hC}}
section
variable {w0 w:World} {b bs bn:Nat} {D:SD} {SB NB HB UB:List Nat} {S F E G:Int} {pp:Option Addr} {np cp:Nat} {pq:Option Addr} {nv cv:Nat} {P V:List Int}
theorem Db (h1:1<=k) (h2:k<=13) (hB:Eg k S F P.length V.length E G=true):¬ Dc k S F P.length V.length E G=false:=by
 rw [Dc,if_pos (by omega),Int.toNat_natCast,hB];simp
theorem Gc (h:¬ kp D.ss S<0):∃ (i:Nat) (s:aL),kp D.ss S=i/\D.ss[i]?=some s/\s.1=S:=by
 unfold kp at h ⊢;cases hf:D.ss.findIdx? (fun s=>s.1==S) with
 | none=>rw [hf] at h;simp at h
 | some i=>
  obtain ⟨h1,h2,-⟩:=List.findIdx?_eq_some_iff_getElem.1 hf;exact ⟨i,_,rfl,aE h1,by simpa using h2⟩
theorem VF (cx:EU w0 w b bs bn D SB NB HB UB S F E G pp np cp pq nv cv P V):Calls Tryz.prog 36 #[.pointer (some ⟨b,0,none⟩),tJ (2:Nat) S (.slice pp np cp) F (.slice pq nv cv) E G] w (Mo w0 w b bs bn D (bS D (2:Nat) S F E G P V)):=by
 refine IF cx 2 0 (iP D (kp D.ss S).toNat).1 (iP D (kp D.ss S).toNat).2 199 (.agg #[.int .u64 S]) 255 256 (.agg #[]) (fun h0=>?_);obtain ⟨hB,hs,-⟩:=VE h0;have vZ:=hs rfl;obtain ⟨i,s,e1,e2,e3⟩:=Gc vZ;refine ⟨fun w' c=>xC _ rfl _ w',fun _ w' c=>?_,?_⟩;{have hk:=Kl w' b bs bn D SB NB HB UB c.ps i s e2 (by rw [e3];exact c.hS) D.t (ae rfl) c.gd.wf.t;rw [e3] at hk;rw [e1,Int.toNat_natCast];refine hk.mono fun r w'' h=>?_;have e9:=yk e2;rw [e9] at h ⊢;exact Cd.r h};{unfold bS;rw [if_neg (Db (by decide) (by decide) hB),if_neg (by decide),if_neg (by simp;intro _;omega),if_pos (by decide),if_pos rfl]}
theorem Cp (h:K≠13):kq K P=false:=by simp [kq,h]
theorem Eu (cx:EU w0 w b bs bn D SB NB HB UB S F E G pp np cp pq nv cv P V):Calls Tryz.prog 36 #[.pointer (some ⟨b,0,none⟩),tJ (3:Nat) S (.slice pp np cp) F (.slice pq nv cv) E G] w (Mo w0 w b bs bn D (bS D (3:Nat) S F E G P V)):=by
 refine IF cx 3 0 (dw D S) mR 200 (.agg #[.int .u64 S]) 255 257 (.agg #[]) (fun h0=>?_);obtain ⟨hB,hs,-⟩:=VE h0;have vZ:=hs rfl;obtain ⟨i,s,e1,e2,e3⟩:=Gc vZ;refine ⟨fun w' c=>xC _ rfl _ w',fun _ w' c=>?_,?_⟩;{have hk:=IE w' b bs bn D SB NB HB UB c.ps c.gd.ci c.gd.pw i s e2 _ (ae rfl) (Nat.le_of_lt c.gd.nl);rw [e3] at hk;exact hk.mono fun r w'' ⟨_,_,_,_,h⟩=>Cd.r h};{unfold bS;rw [if_neg (Db (by decide) (by decide) hB),if_neg (by decide),if_neg (by simp;intro _;omega),if_neg (by decide),if_pos (by decide),if_pos rfl]}
end
section
variable {w0 w:World} {b bs bn:Nat} {D:SD} {SB NB HB UB:List Nat} {S F E G:Int} {pp:Option Addr} {np cp:Nat} {pq:Option Addr} {nv cv:Nat} {P V:List Int}
end
def NG (a:Nat) (nd:aA):Prop:=bQ nd.path/\nd.path.length<=136/\nd.value.length<=40/\nd.holders.length<=a/\nd.watchers.length<=a/\nd.holders.Pairwise (·<·)/\nd.watchers.Pairwise (·<·)
structure Fd (a:Nat) (ss:List aL) (ns:List aA):Prop where
 sl:ss.length<=a
 nl:ns.length<=a+150
 s1:ss.Pairwise (fun s s'=>s.1<s'.1)
 n1:(ns.map fun nd=>iZ nd.path).Pairwise (·<·)
 s2:∀ s∈ss,(0<=s.1/\s.1<18446744073709551616)/\s.2.2.length<=8/\∀ e∈s.2.2,e.2.length<=136
 n2:∀ nd∈ns,NG a nd
theorem NG.mono (h:NG a nd) (ha:a<=a'):NG a' nd:=⟨h.1,h.2.1,h.2.2.1,by have:=h.2.2.2.1;omega,by have:=h.2.2.2.2.1;omega,h.2.2.2.2.2⟩
theorem Fd.mono (h:Fd a ss ns) (ha:a<=a'):Fd a' ss ns:=⟨by have:=h.sl;omega,by have:=h.nl;omega,h.s1,h.n1,h.s2,fun nd aK=>(h.n2 nd aK).mono ha⟩
theorem Fd.of (h:jl e g x t ss ns=true) (hF:xk ss ns):Fd 50 ss ns:=by
 have h':=h;unfold jl at h';simp only [Bool.and_eq_true,decide_eq_true_eq] at h';obtain ⟨⟨-,-,-,-,-,l1,l2⟩,a1,a2⟩:=h';refine ⟨l1,l2,hF.s1,hF.n1,fun s hs=>?_,fun nd aK=>?_⟩;{obtain ⟨-,-,q⟩:=sc a1 hs;unfold dM at q;simp only [Bool.and_eq_true,decide_eq_true_eq,List.all_eq_true,List.mem_range] at q;refine ⟨(hF.s2 s hs).1,q.1,fun e he=>?_⟩;obtain ⟨i,hi⟩:=List.mem_iff_getElem?.1 he;have h1:=q.2 i (aJ.1 hi).1;rw [List.getD_eq_getElem?_getD,hi,Option.getD_some] at h1;unfold fQ at h1;split at h1;{simp only [Bool.and_eq_true,beq_iff_eq] at h1;omega};{simp only [Bool.and_eq_true] at h1;exact kR h1.2.2}};{
 obtain ⟨i,hi⟩:=List.mem_iff_getElem?.1 aK;obtain ⟨-,q2,q3⟩:=oL a2 hi;obtain ⟨f1,f2,f3,f4,f5,f6,f7⟩:=hF.n2 nd aK;have hv:=xT a2 hi;have key:∀ ids:List Int,ids.Pairwise (·<·)->dZ ss ids=true->ids.length<=50:=fun ids hp hk=>by
  have:=rG ids (ss.map (·.1)) (gV hp) fun i hi=>by obtain ⟨z,hz,e⟩:=jZ hk i hi;exact List.mem_map.2 ⟨z,hz,e⟩
  rw [List.length_map] at this;omega
 have qZ:nd.value.length<=40:=by have vg:=(aJ.1 hi).1;have:=List.all_eq_true.1 a2 i (List.mem_range.2 vg);unfold gq at this;rw [List.getD_eq_getElem?_getD,hi,Option.getD_some] at this;simp only [Bool.and_eq_true,decide_eq_true_eq] at this;omega
 exact ⟨f1,kR hv,qZ,key _ f6 q2,key _ f7 q3,f6,f7⟩}
theorem Fd.Lk (h:Fd a ss ns) (id:Int) {ev:Ev} (he:ev.2.length<=136):Fd a (jf ss id ev) ns:=by
 refine ⟨by unfold jf;rw [List.length_map];exact h.sl,h.nl,?_,h.n1,fun s hs=>?_,h.n2⟩;{have:=h.s1;rw [<-List.pairwise_map (f:=fun s:aL=>s.1) (R:=(·<·))] at this ⊢;rw [qp];exact this};{obtain ⟨s0,h0,rfl⟩:=List.mem_map.1 hs;obtain ⟨q1,q2,q3⟩:=h.s2 s0 h0;split;{refine ⟨q1,uS ev q2,fun e MP=>?_⟩;simp only [fx] at MP;split at MP;{rcases List.mem_append.1 MP with h1 | h1;{exact q3 e h1};{simp at h1;rw [h1];exact he}};{split at MP;{rcases List.mem_append.1 MP with h1 | h1;{exact q3 e h1};{simp at h1;rw [h1];simp}};{exact q3 e MP}}};{exact ⟨q1,q2,q3⟩}}
theorem Fd.Cg {ev:Ev} (he:ev.2.length<=136):∀ (ids:List Int) {ss:List aL},Fd a ss ns->Fd a (gH ss ids ev) ns
 | [],ss,h=>h
 | x::r,ss,h=>Fd.Cg he r (h.Lk x he)
theorem Fd.nE (h:Fd a ss ns) {nd':aA} (hk:ns[k]?=some nd) (hp:nd'.path=nd.path) (hn:NG a nd'):Fd a ss (ns.set k nd'):=by
 refine ⟨h.sl,by rw [List.length_set];exact h.nl,h.s1,?_,h.s2,fun x hx=>?_⟩;{
 have e:(ns.set k nd').map (fun nd=>iZ nd.path)=ns.map fun nd=>iZ nd.path:=by have:=congrArg (List.map iZ) (iG hk hp);rw [List.map_map,List.map_map] at this;exact this
 rw [e];exact h.n1};{rcases List.mem_or_eq_of_mem_set hx with hx | rfl;{exact h.n2 x hx};{exact hn}}
theorem Fd.tell (h:Fd a D.ss D.ns) (k:Nat) (kd:Int):Fd a (cX D k kd).ss (cX D k kd).ns:=by
 unfold cX;cases hk:D.ns[k]? with
 | none=>exact h
 | some nd=>
  have hn:=h.n2 nd (aF hk);exact Fd.Cg hn.2.1 _ (h.nE hk rfl ⟨hn.1,hn.2.1,hn.2.2.1,hn.2.2.2.1,by simp,hn.2.2.2.2.2.1,List.Pairwise.nil⟩)
theorem Fd.rm (h:Fd a D.ss D.ns) (k:Nat):Fd a (zO D k).ss (zO D k).ns:=
 ⟨h.sl,Nat.le_trans (List.Sublist.length_le (List.eraseIdx_sublist _ _)) h.nl,h.s1,h.n1.sublist ((List.eraseIdx_sublist _ _).map _),h.s2,fun nd aK=>h.n2 nd (List.mem_of_mem_eraseIdx aK)⟩
theorem Fd.drop (h:Fd a D.ss D.ns) (k:Nat) (id:Int):Fd a (cE D k id).ss (cE D k id).ns:=by
 unfold cE;cases hk:D.ns[k]? with
 | none=>exact h
 | some nd=>
  have hn:=h.n2 nd (aF hk);simp only;split;{split;{exact Fd.tell (D:={ D with ns:=_ }) (h.nE (nd':={ nd with holders:=[],mode:=0,aD:=0,gen:=0 }) hk rfl ⟨hn.1,hn.2.1,hn.2.2.1,Nat.zero_le _,hn.2.2.2.2.1,List.Pairwise.nil,hn.2.2.2.2.2.2⟩) k 3};{exact h.nE hk rfl ⟨hn.1,hn.2.1,hn.2.2.1,Nat.le_trans (kP _ _) hn.2.2.2.1,hn.2.2.2.2.1,qB hn.2.2.2.2.2.1,hn.2.2.2.2.2.2⟩}};{exact h}
theorem Fd.cw (h:Fd a ss ns) (id:Int):Fd a ss (ns.map (rJ id)):=by
 refine ⟨h.sl,by rw [List.length_map];exact h.nl,h.s1,by rw [List.map_map];exact h.n1,h.s2,fun nd aK=>?_⟩;obtain ⟨y,hy,rfl⟩:=List.mem_map.1 aK;have hn:=h.n2 y hy;exact ⟨hn.1,hn.2.1,hn.2.2.1,hn.2.2.2.1,Nat.le_trans (kP _ _) hn.2.2.2.2.1,hn.2.2.2.2.2.1,qB hn.2.2.2.2.2.2⟩
theorem Fd.bO (id:Int):∀ (f k:Nat) {D:SD},Fd a D.ss D.ns->Fd a (bO id f k D).ss (bO id f k D).ns
 | 0,k,D,h=>by unfold Proofs.YtcfcafeciggjeaaGreatDoor.bO;exact h
 | f+1,k,D,h=>by have hd:=Fd.drop h k id;unfold Proofs.YtcfcafeciggjeaaGreatDoor.bO;split;{exact h};{split;{exact Fd.bO id f k (Fd.rm (Fd.tell hd k 2) k)};{exact Fd.bO id f (k+1) hd}}
theorem Fd.close (h:Fd a D.ss D.ns) (id:Int):Fd a (dw D id).ss (dw D id).ns:=by
 have h1:=Fd.bO id D.ns.length 0 (D:={ D with ns:=D.ns.map (rJ id) }) (h.cw id);exact ⟨Nat.le_trans (List.length_filter_le _ _) h1.sl,h1.nl,h1.s1.filter _,h1.n1,fun s hs=>h1.s2 s (List.mem_filter.1 hs).1,h1.n2⟩
theorem Ox (l m:List Int):Mv l m=decide (¬ iZ m<iZ l/\iZ m≠iZ l):=by
 unfold Mv;rw [T.iy,dE,dE];show (!decide (iZ m<iZ l)&&!(iZ m==iZ l))=_;by_cases h1:iZ m<iZ l<;>by_cases h2:iZ m=iZ l<;>simp [h1,h2]
theorem oT {x:aA}:∀ {l:List aA},x∈iU nd l↔x=nd\/x∈l
 | []=>by simp [iU]
 | y::r=>by rw [iU];split;{simp};{rw [List.mem_cons,oT,List.mem_cons];constructor;{rintro (h | h | h);{exact .inr (.inl h)};{exact .inl h};{exact .inr (.inr h)}};{rintro (h | h | h);{exact .inr (.inl h)};{exact .inl h};{exact .inr (.inr h)}}}
theorem VL {x y:List UInt8} (h1:¬ y<x) (h2:y≠x):x<y:=by
 rcases Decidable.em (x<y) with h | h;{exact h};{exact absurd (List.le_antisymm h1 h) (fun e=>h2 e.symm)}
theorem AW :∀ {l:List aA},(l.map fun nd=>iZ nd.path).Pairwise (·<·)->(∀ x∈l,iZ x.path≠iZ nd.path)->((iU nd l).map fun nd=>iZ nd.path).Pairwise (·<·)
 | [],_,_=>by simp [iU]
 | y::r,h,bq=>by
  rw [List.map_cons,List.pairwise_cons] at h;obtain ⟨h1,h2⟩:=h;have hy:=bq y (by simp);rw [iU,Ox];split;{
 rename_i hl
 simp only [decide_eq_true_eq] at hl;have br:iZ nd.path<iZ y.path:=VL hl.1 hl.2;rw [List.map_cons,List.map_cons,List.pairwise_cons,List.pairwise_cons];refine ⟨fun z hz=>?_,h1,h2⟩;rcases List.mem_cons.1 hz with rfl | hz;{exact br};{exact List.lt_trans br (h1 z hz)}};{
 rename_i hl
 simp only [decide_eq_true_eq] at hl;have br:iZ y.path<iZ nd.path:=Decidable.byContradiction fun hh=>hl ⟨hh,hy⟩;rw [List.map_cons,List.pairwise_cons];refine ⟨fun z hz=>?_,AW h2 (fun x hx=>bq x (by simp [hx]))⟩;obtain ⟨x,hx,rfl⟩:=List.mem_map.1 hz;rcases oT.1 hx with rfl | hx;{exact br};{exact h1 _ (List.mem_map.2 ⟨x,hx,rfl⟩)}}
def RS (R:RP):Prop:=R.vt.length<=40/\(R.qh.length<=201/\∀ y∈R.qh,y.length<=136)/\R.tT.length<=8/\∀ e∈R.tT,e.2.length<=136
theorem RS.num (k i e g n:Int):RS ⟨k,i,e,g,n,[],[],[]⟩:=⟨Nat.zero_le _,⟨Nat.zero_le _,fun y hy=>by cases hy⟩,Nat.zero_le _,fun y hy=>by cases hy⟩
def AF (A:SD × RP):Prop:=Fd 51 A.1.ss A.1.ns/\RS A.2
theorem AF.same (h:Fd 50 D.ss D.ns) (k i e g n:Int):AF (D,⟨k,i,e,g,n,[],[],[]⟩):=⟨h.mono (by omega),RS.num _ _ _ _ _⟩
theorem Dj {l m:List Int} (hl:bQ l) (hm:bQ m) (h:iZ l=iZ m):l=m:=iM hl hm (by unfold bL;exact congrArg Lit.string h)
theorem AF.create (h:Fd 50 D.ss D.ns) (hv:vp P=true) (hB:bQ P) (hV:V.length<=40):AF (iw D P V S F):=by
 unfold iw;split;{exact AF.same h _ _ _ _ _};{
 split;{exact AF.same h _ _ _ _ _};{
 split;{exact AF.same h _ _ _ _ _};{
 rename_i h1 _ _
 have lG:ga D.ns P=none:=by simpa using h1
 refine ⟨⟨by have:=h.sl;show D.ss.length<=_;omega,by have:=h.nl;show (iU _ _).length<=_;rw [sI];omega,h.s1,AW h.n1 (fun x hx e=>?_),h.s2,fun x hx=>?_⟩,RS.num _ _ _ _ _⟩;{have:=List.find?_eq_none.1 lG x hx;exact this (by simpa using Dj (h.n2 x hx).1 hB e)};{rcases oT.1 hx with rfl | hx;{exact ⟨hB,kR hv,hV,Nat.zero_le _,Nat.zero_le _,List.Pairwise.nil,List.Pairwise.nil⟩};{exact (h.n2 x hx).mono (by omega)}}}}}
theorem AF.lock (h:Fd 50 D.ss D.ns) (k:Nat) (s fl:Int):AF (oP D k s fl):=by
 unfold oP;cases hk:D.ns[k]? with
 | none=>exact AF.same h _ _ _ _ _
 | some nd=>
  have hn:=h.n2 nd (aF hk);have zS:=hn.mono (a':=51) (by omega);have h':=h.mono (a':=51) (by omega);simp only;split;{exact AF.same h _ _ _ _ _};{split;{split;{exact AF.same h _ _ _ _ _};{exact ⟨h'.nE hk rfl ⟨hn.1,hn.2.1,hn.2.2.1,by have:=Am nd.holders s;have:=hn.2.2.2.1;show (jA _ _).length<=_;omega,zS.2.2.2.2.1,uK hn.2.2.2.2.2.1,hn.2.2.2.2.2.2⟩,RS.num _ _ _ _ _⟩}};{split;{exact AF.same h _ _ _ _ _};{split;{exact AF.same h _ _ _ _ _};{exact ⟨h'.nE hk rfl ⟨hn.1,hn.2.1,hn.2.2.1,by show [s].length<=_;simp,zS.2.2.2.2.1,by show [s].Pairwise _;simp,hn.2.2.2.2.2.2⟩,RS.num _ _ _ _ _⟩}}}}
theorem AF.node (h:Fd 50 D.ss D.ns) (k:Nat) (hV:K=7->V.length<=40):AF (oK D k K S F V):=by
 unfold oK;cases hk:D.ns[k]? with
 | none=>exact AF.same h _ _ _ _ _
 | some nd=>
  have hn:=h.n2 nd (aF hk);have zS:=hn.mono (a':=51) (by omega);have h':=h.mono (a':=51) (by omega);simp only;split;{split;{exact AF.same h _ _ _ _ _};{split;{exact AF.same h _ _ _ _ _};{exact ⟨Fd.rm (Fd.tell h' k 2) k,RS.num _ _ _ _ _⟩}}};{
 split;{exact ⟨h',hn.2.2.1,⟨Nat.zero_le _,fun y hy=>by cases hy⟩,Nat.zero_le _,fun y hy=>by cases hy⟩};{
 split;{
 split;{exact AF.same h _ _ _ _ _};{
 rename_i h7 _
 exact ⟨Fd.tell (D:={ D with ns:=_ }) (h'.nE (nd':={ nd with value:=V }) hk rfl ⟨zS.1,zS.2.1,hV h7,zS.2.2.2⟩) k 1,RS.num _ _ _ _ _⟩}};{split;{exact AF.lock h k S F};{split;{split;{exact ⟨Fd.drop h' k S,RS.num _ _ _ _ _⟩};{exact AF.same h _ _ _ _ _}};{exact ⟨h'.nE hk rfl ⟨zS.1,zS.2.1,zS.2.2.1,zS.2.2.2.1,by have:=Am nd.watchers S;have:=hn.2.2.2.2.1;show (jA _ _).length<=_;omega,zS.2.2.2.2.2.1,uK hn.2.2.2.2.2.2⟩,RS.num _ _ _ _ _⟩}}}}}
theorem AF.rest (h:Fd 50 D.ss D.ns) (hB:bQ P) (hV:K=4\/K=7->V.length<=40):AF (qH D K S F E G P V):=by
 unfold qH;split;{exact AF.same h _ _ _ _ _};{
 rename_i hp
 split;{
 rename_i h4
 have hr:kq K P=false:=Cp (by omega);rw [hr] at hp;exact AF.create h (by simpa using hp) hB (hV (.inl h4))};{split;{exact AF.same h _ _ _ _ _};{split;{exact AF.same h _ _ _ _ _};{split;{refine ⟨h.mono (by omega),Nat.zero_le _,⟨?_,fun y hy=>?_⟩,Nat.zero_le _,fun y hy=>by cases hy⟩;{have:=yi D.ns P;have:=h.nl;show (gv _ _).length<=_;omega};{obtain ⟨nd,aK,rfl⟩:=List.mem_map.1 hy;have:=(h.n2 nd (List.mem_filter.1 aK).1).2.1;rw [mw,List.length_drop];omega}};{exact AF.node h _ (fun e=>hV (.inr e))}}}}}
theorem AF.apply (h:Fd 50 D.ss D.ns) (hx:0<=D.x/\D.x<=4611686018427387904) (hxs:∀ s∈D.ss,s.1<=D.x) (hB:bQ P):AF (bS D K S F E G P V):=by
 have h':=h.mono (a':=51) (by omega);unfold bS;split;{exact AF.same h _ _ _ _ _};{
 rename_i hf
 split;{unfold jG;split;{exact AF.same h _ _ _ _ _};{split;{exact AF.same h _ _ _ _ _};{refine ⟨⟨by have:=h.sl;show (D.ss++[_]).length<=_;rw [List.length_append];simp;omega,h'.nl,?_,h.n1,fun s hs=>?_,h'.n2⟩,RS.num _ _ _ _ _⟩;{show List.Pairwise _ (D.ss++[_]);rw [List.pairwise_append];refine ⟨h.s1,by simp,fun a ha c hc=>?_⟩;simp at hc;have:=hxs a ha;rw [hc];show a.1<D.x+1;omega};{rcases List.mem_append.1 hs with hs | hs;{exact h.s2 s hs};{simp at hs;rw [hs];exact ⟨by show 0<=D.x+1/\D.x+1<_;omega,Nat.zero_le _,fun e he=>by cases he⟩}}}}};{
 split;{exact AF.same h _ _ _ _ _};{
 have kH:∀ (k:Nat) (s:aL) (d:Int) (q:List Ev),D.ss[k]?=some s->q.length<=8->(∀ e∈q,e.2.length<=136)->Fd 51 (D.ss.set k (s.1,d,q)) D.ns:=fun k s d q hk q1 q2=>by
  refine ⟨by rw [List.length_set];exact h'.sl,h'.nl,?_,h.n1,fun x hx=>?_,h'.n2⟩;{
 have e:(D.ss.set k (s.1,d,q)).map (·.1)=D.ss.map (·.1):=by rw [List.map_set];exact dX (by rw [List.getElem?_map,hk];rfl)
 have:=h.s1;rw [<-List.pairwise_map (f:=fun s:aL=>s.1) (R:=(·<·))] at this ⊢;rw [e];exact this};{rcases List.mem_or_eq_of_mem_set hx with hx | rfl;{exact h.s2 x hx};{exact ⟨(h.s2 s (aF hk)).1,q1,q2⟩}}
 split;{
 unfold iP;cases hk:D.ss[(kp D.ss S).toNat]? with
 | none=>exact AF.same h _ _ _ _ _
 | some s=>
  have q:=h.s2 s (aF hk);simp only;split;{exact ⟨kH _ s _ _ hk q.2.1 q.2.2,RS.num _ _ _ _ _⟩};{exact AF.same h _ _ _ _ _}};{
 split;{exact ⟨Fd.close h' S,RS.num _ _ _ _ _⟩};{
 split;{
 unfold uT;cases hk:D.ss[(kp D.ss S).toNat]? with
 | none=>exact AF.same h _ _ _ _ _
 | some s=>
  have q:=h.s2 s (aF hk);exact ⟨kH _ s _ _ hk (Nat.zero_le _) (fun e he=>by cases he),Nat.zero_le _,⟨Nat.zero_le _,fun y hy=>by cases hy⟩,q.2.1,q.2.2⟩};{refine AF.rest h hB (fun hK=>?_);rcases hK with rfl | rfl<;>· simp [Dc,Eg,Ll,rowOf] at hf;omega}}}}}}
end Go.Proofs.YtcfcafeciggjeaaGreatDoor
