import Derived.Test.YtcfcafeciggjeaaGreatDoorK36
import Derived.Test.YtcfcafeciggjeaaGreatDoorK37
namespace Go.Proofs.YtcfcafeciggjeaaGreatDoor
set_option maxHeartbeats 1600000
set_option linter.all false
set_option maxRecDepth 100000
open Go.ChangeShapes Go.WideShapes Go.ChangeAt Go.RowKit Go.Maps Go.Proofs.Tryz
variable {D:SD} {K:Int} {P V:List Int} {b bn bs cp cv k np nv:Nat} {ns:List aD} {pp pq:Option Addr} {w w0:World}
def Xu (w:World):Prop:=∀ k:Nat,1<=k->k<=13->sR w 0 (k*7) (rowOf k).1 (rowOf k).2.1 (rowOf k).2.2.1 (rowOf k).2.2.2.1 (rowOf k).2.2.2.2.1 (rowOf k).2.2.2.2.2.1 (rowOf k).2.2.2.2.2.2
structure GD (D:SD):Prop where
 wf:WF D
 ci:CI D.ss D.ns
 pw:(D.ns.map fun nd=>ko nd.path).Pairwise (·<·)
 ho:∀ nd∈D.ns,(nd.mode=1->nd.holders.length=1)/\(nd.mode≠1->nd.aB=0/\nd.gen=0/\(nd.mode=0->nd.holders.length=0))
 sx:∀ s∈D.ss,s.1<=D.x
 ql:∀ s∈D.ss,s.2.2.length<=1048576/\∀ e∈s.2.2,e.2.length<=1048576
 wl:∀ nd∈D.ns,nd.watchers.length<=1048576
 sl:D.ss.length<1048576
 nl:D.ns.length<1048576
theorem GD.of {e g x t:Int} {ss:List aY} (h:jY e g x t ss ns=true) (hF:BT ss ns) (g0:0<=g) (x0:0<=x):GD ⟨e,g,x,t,ss,ns⟩:=by
 have h':=h;unfold jY at h';simp only [Bool.and_eq_true,decide_eq_true_eq] at h';obtain ⟨⟨-,-,-,-,-,l1,l2⟩,a1,a2⟩:=h';refine ⟨WF.of h hF g0 x0,⟨vN.of hF a1,fun nd aV=>?_,KD.of hF⟩,hF.n1,fun nd aV=>?_,fun s hs=>(wC a1 hs).2.1,fun s hs=>(hF.s2 s hs).2,fun nd aV=>(hF.n2 nd aV).2.2.2.2.1,by show ss.length<_;omega,by show ns.length<_;omega⟩;{obtain ⟨i,hi⟩:=List.mem_iff_getElem?.1 aV;exact ⟨NT.of hF a2 hi,(hF.n2 nd aV).2.2.2.2.2.1,(hF.n2 nd aV).2.2.2.1⟩};{obtain ⟨i,hi⟩:=List.mem_iff_getElem?.1 aV;obtain ⟨q1,-⟩:=rR a2 hi;exact ⟨fun hm=>kF q1 hm,fun hm=>oB q1 hm⟩}
structure uM (w0 w:World) (b bs bn:Nat) (D:SD) (SB NB HB UB:List Nat) (S F E G:Int) (pp:Option Addr) (np cp:Nat) (pq:Option Addr) (nv cv:Nat) (P V:List Int):Prop where
 ps:PS w0 w b bs bn D SB NB HB UB
 gd:GD D
 hS:0<=S/\S<18446744073709551616
 eP:P.length=np
 eV:V.length=nv
 hP:Rd w (.S pp np cp) P
 hV:AB w0 w (.S pq nv cv) V
 hB:bM P
 hp:np<=1048576
 kH:np<=cp
 jF:cp<=maxLen
 hm:∃ m,w.cell? ⟨2,0,none⟩=some (.I m)
 hT:Xu w
theorem uM.below {w':World} {SB NB HB UB:List Nat} {S F E G:Int} (h:uM w0 w b bs bn D SB NB HB UB S F E G pp np cp pq nv cv P V) (hb:Bw w w'):uM w0 w' b bs bn D SB NB HB UB S F E G pp np cp pq nv cv P V:=
 ⟨h.ps.below hb,h.gd,h.hS,h.eP,h.eV,h.hP.below hb,h.hV.fr (al hb) (by simp),h.hB,h.hp,h.kH,h.jF,by obtain ⟨m,hm⟩:=h.hm;exact ⟨m,af hm hb⟩,fun k h1 h2=>(h.hT k h1 h2).below hb⟩
theorem Db :xY ns P<0↔fE ns P=none:=by
 constructor;{
 intro h;cases hn:fE ns P with
 | none=>rfl
 | some nd=>
  exfalso;unfold xY at h;cases hf:ns.findIdx? (fun nd=>decide (nd.path=P)) with
  | some i=>rw [hf] at h;simp at h;omega
  | none=>
   have h1:=List.findIdx?_eq_none_iff.1 hf nd (List.mem_of_find?_eq_some hn);have h2:=List.find?_some hn;rw [h1] at h2;cases h2};{
 intro h;rw [Dc h]
 decide}
theorem Sy (h1:1<=k) (h2:k<=13) {S F E G:Int} {C:Int} (eC:oQ D (rowOf k).1 (rowOf k).2.1 (vH k S F P.length V.length E G) k S P=C) (hC:C≠0):aM D k S F E G P V=(D,sV C):=by
 have hf:Af k S F P.length V.length E G=vH k S F P.length V.length E G:=by rw [Af,if_pos (by omega),Int.toNat_natCast]
 unfold aM;rw [hf];cases hB:vH k S F P.length V.length E G with
 | false=>
  rw [hB] at eC;simp only [oQ,if_true] at eC;rw [if_pos rfl,eC]
 | true=>
  rw [hB] at eC;rw [if_neg (by simp)];by_cases hs:(rowOf k).1=true/\lT D.ss S<0;{
 have e3:C=3:=by rw [<-eC];simp [oQ,hs]
 rcases kinds h1 h2 with rfl | rfl | rfl | rfl | rfl | rfl | rfl | rfl | rfl | rfl | rfl | rfl | rfl<;>simp_all [rowOf,DB]}
  {
 have e4:(if (rowOf k).2.1=true then ng D k P else 0)=C:=by rw [<-eC];simp only [oQ,Bool.true_eq_false,if_false,hs]
 clear eC hf hB;subst e4;unfold iA;rcases kinds h1 h2 with rfl | rfl | rfl | rfl | rfl | rfl | rfl | rfl | rfl | rfl | rfl | rfl | rfl<;>simp only [rowOf,ng,Tg,jA] at hC hs ⊢<;>by_cases hr:P=[47]<;>cases hv:vp P<;>cases hn:fE D.ns P<;>simp_all [Db,DB]<;>(intros;omega)}
theorem sI {se pa B:Bool} {K S:Int} (h:oQ D se pa B K S P=0):B=true/\(se=true->¬ lT D.ss S<0)/\(pa=true->ng D K P=0):=by
 unfold oQ at h;cases B with
 | false=>simp at h
 | true=>
  refine ⟨rfl,fun e hs=>?_,fun e=>?_⟩;{simp [e,hs] at h};{by_cases hs:se=true/\lT D.ss S<0;{simp [hs] at h};{simpa [hs,e] using h}}
def oY (w0 w:World) (b bs bn:Nat) (D:SD) (A:SD × RP) (r:Ending) (w':World):Prop:=∃ D' R C,aq1 w0 w b bs bn D D' R C r w'/\A=if C=0 then (D',R) else (D,sV C)
theorem gh {SB NB HB UB:List Nat} {S F E G:Int} (cx:uM w0 w b bs bn D SB NB HB UB S F E G pp np cp pq nv cv P V) (k:Nat) (C1:Int) (D':SD) (R:RP) (ty:TypeId) (v:Value) (fC fA:FuncId) (vC:Value)
  (iJ:oQ D (rowOf k).1 (rowOf k).2.1 (vH k S F P.length V.length E G) k S P=0->(∀ w',uM w0 w' b bs bn D SB NB HB UB S F E G pp np cp pq nv cv P V->Calls prog fC #[vC,.pointer (some ⟨b,0,none⟩)] w' fun r w''=>r=.returned (vJ C1)/\Bw w' w'') ∧
   (C1=0->∀ w',uM w0 w' b bs bn D SB NB HB UB S F E G pp np cp pq nv cv P V->Calls prog fA #[v,.pointer (some ⟨b,0,none⟩)] w' (JN w0 w' b bs bn D' R))/\aM D k S F E G P V=if C1=0 then (D',R) else (D,sV C1))
  (h1:1<=k:=by decide) (h2:k<=13:=by decide) (hq:Zu k S (aC P) F (.S pq nv cv) E G=.iface ty v:=by rfl)
  (hmC : ∀ w, (Go.method 440 ty v "loop.example/s02132/impl.check").run prog w = .ok (fC, vC) w := by (intro w; kernel_rfl)) (hmA : ∀ w, (Go.method 440 ty v "loop.example/s02132/impl.act").run prog w = .ok (fA, v) w := by (intro w; kernel_rfl))
  (hfC:∀ vs w,(callFunc fC vs).run prog w=.ok (.enter fC vs) w:=by (intro vs w;kernel_rfl)) (Ri:∀ vs w,(callFunc fA vs).run prog w=.ok (.enter fA vs) w:=by (intro vs w;kernel_rfl)) :
  Calls prog 36 #[.pointer (some ⟨b,0,none⟩),lW k S (.S pp np cp) F (.S pq nv cv) E G] w (oY w0 w b bs bn D (aM D k S F E G P V)):=by
 obtain ⟨C0,eC0⟩:=aH (oQ D (rowOf k).1 (rowOf k).2.1 (vH k S F P.length V.length E G) k S P);rw [eC0] at iJ;refine (Hz w b bs bn D D' SB NB HB UB cx.ps k S F E G pp np cp pq nv cv C0 C1 _ (ae rfl) R ty v fC fA vC v (fun w' hb=>?_) (fun _ w' hb=>?_) hmC hmA hfC Ri (fun hC w' hb=>(iJ hC).1 w' (cx.below hb)) (fun hC Yu w' hb=>(iJ hC).2.1 Yu w' (cx.below hb))).mono fun r w' hr=>⟨D',R,_,hr,?_⟩;{have c:=cx.below hb;exact NM w' b bs bn D SB NB HB UB c.ps (fun nd aV=>(c.gd.wf.pb nd aV).2.1) k h1 h2 S F E G c.hS pp np cp pq nv cv P c.eP c.hP c.hB c.hp c.kH c.jF c.hm _ _ _ _ _ _ _ (c.hT k h1 h2) _ (ae rfl) C0 (by show _=_;rw [<-eC0,c.eP,c.eV];rfl)};{have c:=cx.below hb;have:=CE k h1 h2 S F E G pp np cp pq nv cv P c.eP w' c.hP;rw [hq] at this;exact this};{by_cases hC:C0=0;{rw [(iJ hC).2.2,if_pos hC]};{rw [if_neg hC,if_neg hC];exact Sy h1 h2 eC0 hC}}
theorem Sn {SB NB HB UB:List Nat} {K S F E G:Int} (cx:uM w0 w b bs bn D SB NB HB UB S F E G pp np cp pq nv cv P V) (hK:K<1\/13<K) :
  Calls prog 36 #[.pointer (some ⟨b,0,none⟩),lW K S (.S pp np cp) F (.S pq nv cv) E G] w (oY w0 w b bs bn D (aM D K S F E G P V)):=by
 refine (Hz w b bs bn D D SB NB HB UB cx.ps K S F E G pp np cp pq nv cv 2 2 2 (ae rfl) rp0 196 (.agg #[]) 254 253 (.agg #[]) (.agg #[]) (fun w' hb=>Jv w' b K S F E G hK pp np cp pq nv cv) (fun h=>oT h) (fun w=>by kernel_rfl) (fun w=>by kernel_rfl) (fun vs w=>by kernel_rfl) (fun vs w=>by kernel_rfl) (fun h=>oT h) (fun h=>oT h)).mono fun r w' hr=>⟨D,rp0,2,hr,?_⟩;have hf:Af K S F P.length V.length E G=false:=by rw [Af,if_neg (by omega)]
 unfold aM;rw [if_pos hf]
 rfl
section
variable {w0 w:World} {b bs bn:Nat} {D:SD} {SB NB HB UB:List Nat} {S F E G:Int} {pp:Option Addr} {np cp:Nat} {pq:Option Addr} {nv cv:Nat} {P V:List Int}
theorem sF (h1:1<=k) (h2:k<=13) (hB:vH k S F P.length V.length E G=true):¬ Af k S F P.length V.length E G=false:=by
 rw [Af,if_pos (by omega),Int.toNat_natCast,hB];simp
theorem Fb (h:¬ lT D.ss S<0):∃ (i:Nat) (s:aY),lT D.ss S=i/\D.ss[i]?=some s/\s.1=S:=by
 unfold lT at h ⊢;cases hf:D.ss.findIdx? (fun s=>s.1==S) with
 | none=>rw [hf] at h;simp at h
 | some i=>
  obtain ⟨h1,h2,-⟩:=List.findIdx?_eq_some_iff_getElem.1 hf;exact ⟨i,_,rfl,aK h1,by simpa using h2⟩
theorem Ln (h:fE D.ns P≠none):∃ (i:Nat) (nd:aD),xY D.ns P=i/\D.ns[i]?=some nd/\nd.path=P/\fE D.ns P=some nd:=by
 have hn:¬ xY D.ns P<0:=fun e=>h (Db.1 e);unfold xY at hn ⊢;cases hf:D.ns.findIdx? (fun nd=>decide (nd.path=P)) with
 | none=>rw [hf] at hn;simp at hn
 | some i=>
  obtain ⟨h1,h2,h3⟩:=List.findIdx?_eq_some_iff_getElem.1 hf;refine ⟨i,_,rfl,aK h1,by simpa using h2,?_⟩;rw [fE,List.find?_eq_some_iff_getElem];exact ⟨by simpa using h2,i,h1,rfl,fun j hj=>by have:=h3 j hj;simpa using this⟩
theorem Oa (cx:uM w0 w b bs bn D SB NB HB UB S F E G pp np cp pq nv cv P V):Calls prog 36 #[.pointer (some ⟨b,0,none⟩),lW (1:Nat) S (.S pp np cp) F (.S pq nv cv) E G] w (oY w0 w b bs bn D (aM D (1:Nat) S F E G P V)):=by
 refine gh cx 1 (rQ D) _ _ 196 (.agg #[]) 254 253 (.agg #[]) (fun h0=>⟨fun w' c=>Qr w' b bs bn D SB NB HB UB c.ps _ (ae rfl),fun hC w' c=>(Qt w' b bs bn D SB NB HB UB c.ps ⟨c.gd.wf.x.1,(zl hC).2.2⟩ c.gd.wf.t (fun s hs e=>by have:=c.gd.sx s hs;omega) c.gd.sl).mono fun r w'' ⟨gN,h⟩=>jU.r h,?_⟩);have e:aM D (1:Nat) S F E G P V=ik D:=by unfold aM;rw [if_neg (sF (by decide) (by decide) (sI h0).1),if_pos (by decide)]
 rw [e];by_cases hC:rQ D=0;{
 rw [if_pos hC,(zl hC).1]
 rfl}
 {rw [if_neg hC,Lh hC]}
theorem Od (cx:uM w0 w b bs bn D SB NB HB UB S F E G pp np cp pq nv cv P V):Calls prog 36 #[.pointer (some ⟨b,0,none⟩),lW (2:Nat) S (.S pp np cp) F (.S pq nv cv) E G] w (oY w0 w b bs bn D (aM D (2:Nat) S F E G P V)):=by
 refine gh cx 2 0 (jE D (lT D.ss S).toNat).1 (jE D (lT D.ss S).toNat).2 199 (.agg #[.U S]) 255 256 (.agg #[]) (fun h0=>?_);obtain ⟨hB,hs,-⟩:=sI h0;have uS:=hs rfl;obtain ⟨i,s,e1,e2,e3⟩:=Fb uS;refine ⟨fun w' c=>ku _ rfl _ w',fun _ w' c=>?_,?_⟩;{have hk:=QN w' b bs bn D SB NB HB UB c.ps i s e2 (by rw [e3];exact c.hS) D.t (ae rfl) c.gd.wf.t;rw [e3] at hk;rw [e1,Int.toNat_natCast];refine hk.mono fun r w'' h=>?_;have e9:=Dw e2;rw [e9] at h ⊢;exact jU.r h};{unfold aM;rw [if_neg (sF (by decide) (by decide) hB),aw,if_neg (by simp;intro _;omega),if_pos (by decide),if_pos rfl]}
theorem iZ (h4:4<=k) (h2:k<=13) (WI:k≠12) (h0:oQ D (rowOf k).1 (rowOf k).2.1 (vH k S F P.length V.length E G) k S P=0):aM D k S F E G P V=iA D k S F E G P V:=by
 obtain ⟨hB,hs,-⟩:=sI h0;have uS:¬ ((DB k&&decide (lT D.ss S<0))=true):=by clear h0 hB;rcases kinds (by omega) h2 with rfl | rfl | rfl | rfl | rfl | rfl | rfl | rfl | rfl | rfl | rfl | rfl | rfl<;>simp_all [DB,rowOf]
 unfold aM;rw [if_neg (sF (by omega) h2 hB),if_neg (by omega),if_neg uS,if_neg (by omega),if_neg (by omega),if_neg (by omega)]
theorem G0 (h:ng D K P=0):jA K P=true\/(jA K P=false/\vp P=true/\(Tg K=true->fE D.ns P≠none)):=by
 unfold ng at h;cases hr:jA K P with
 | true=>exact .inl rfl
 | false=>
  refine .inr ⟨rfl,?_⟩;rw [hr] at h;cases hv:vp P with
  | false=>rw [hv] at h;simp at h
  | true=>
   refine ⟨rfl,fun e1 e2=>?_⟩;rw [hv] at h;simp [e1,e2] at h
theorem rG (h:K≠13):jA K P=false:=by simp [jA,h]
theorem km (hk:k=5\/k=6\/k=7\/k=8\/k=9\/k=11) (h:ng D k P=0):∃ (i:Nat) (nd:aD),D.ns[i]?=some nd/\nd.path=P/\iA D k S F E G P V=gI D i k S F V:=by
 have Yw:(k:Int)≠13:=by omega
 rcases G0 h with hr | ⟨hr,hv,hn⟩;{rw [rG Yw] at hr;cases hr};{obtain ⟨i,nd,e1,e2,e3,-⟩:=Ln (hn (by rcases hk with rfl | rfl | rfl | rfl | rfl | rfl<;>rfl));refine ⟨i,nd,e2,e3,?_⟩;unfold iA;rw [hr,hv,if_neg (by simp),if_neg (by omega),if_neg (by omega),if_neg (by simp;omega),if_neg Yw,e1,Int.toNat_natCast]}
theorem JB (cx:uM w0 w b bs bn D SB NB HB UB S F E G pp np cp pq nv cv P V):Calls prog 36 #[.pointer (some ⟨b,0,none⟩),lW (3:Nat) S (.S pp np cp) F (.S pq nv cv) E G] w (oY w0 w b bs bn D (aM D (3:Nat) S F E G P V)):=by
 refine gh cx 3 0 (gv D S) rp0 200 (.agg #[.U S]) 255 257 (.agg #[]) (fun h0=>?_);obtain ⟨hB,hs,-⟩:=sI h0;have uS:=hs rfl;obtain ⟨i,s,e1,e2,e3⟩:=Fb uS;refine ⟨fun w' c=>ku _ rfl _ w',fun _ w' c=>?_,?_⟩;{have hk:=NQ w' b bs bn D SB NB HB UB c.ps c.gd.ci c.gd.pw i s e2 _ (ae rfl) (Nat.le_of_lt c.gd.nl);rw [e3] at hk;exact hk.mono fun r w'' ⟨_,_,_,_,h⟩=>jU.r h};{unfold aM;rw [if_neg (sF (by decide) (by decide) hB),aw,if_neg (by simp;intro _;omega),aw,if_pos (by decide),if_pos rfl]}
theorem NU (cx:uM w0 w b bs bn D SB NB HB UB S F E G pp np cp pq nv cv P V):Calls prog 36 #[.pointer (some ⟨b,0,none⟩),lW (12:Nat) S (.S pp np cp) F (.S pq nv cv) E G] w (oY w0 w b bs bn D (aM D (12:Nat) S F E G P V)):=by
 obtain ⟨s,es⟩:=aH ((D.ss[(lT D.ss S).toNat]?).getD (0,0,[]));refine gh cx 12 0 { D with ss:=D.ss.set (lT D.ss S).toNat (s.1,s.2.1,[]) } { rp0 with qm:=s.2.2 } 216 (.agg #[.U S]) 255 279 (.agg #[]) (fun h0=>?_);obtain ⟨hB,hs,-⟩:=sI h0;have uS:=hs rfl;obtain ⟨i,s',e1,e2,e3⟩:=Fb uS;rw [e1,Int.toNat_natCast,e2,Option.getD_some] at es;subst es;have hm:=aF e2;refine ⟨fun w' c=>ku _ rfl _ w',fun _ w' c=>?_,?_⟩;{have hk:=Qn w' b bs bn D SB NB HB UB c.ps i s' e2 (by rw [e3];exact c.hS) _ (ae rfl) (c.gd.ql s' hm).1 (c.gd.ql s' hm).2;rw [e3] at hk ⊢;rw [e1,Int.toNat_natCast];exact hk.mono fun r w'' ⟨p,c,A,q1,q2,q3,q4,q5,q6⟩=>ZA rfl q1 q2 q3 q4 q5 q6};{unfold aM;rw [if_neg (sF (by decide) (by decide) hB),aw,if_neg (by simp;intro _;omega),aw,aw,if_pos (by decide),if_pos rfl,e1,Int.toNat_natCast];unfold pX;rw [e2]}
end
section
variable {w0 w:World} {b bs bn:Nat} {D:SD} {SB NB HB UB:List Nat} {S F E G:Int} {pp:Option Addr} {np cp:Nat} {pq:Option Addr} {nv cv:Nat} {P V:List Int}
theorem Gr (cx:uM w0 w b bs bn D SB NB HB UB S F E G pp np cp pq nv cv P V):Calls prog 36 #[.pointer (some ⟨b,0,none⟩),lW (5:Nat) S (.S pp np cp) F (.S pq nv cv) E G] w (oY w0 w b bs bn D (aM D (5:Nat) S F E G P V)):=by
 by_cases h0:oQ D (rowOf 5).1 (rowOf 5).2.1 (vH 5 S F P.length V.length E G) (5:Nat) S P=0;{
 obtain ⟨hB,hs,hp⟩:=sI h0;obtain ⟨i,nd,e2,rfl,e4⟩:=km (k:=5) (S:=S) (F:=F) (E:=E) (G:=G) (V:=V) (.inl rfl) (hp rfl);have fK:=aF e2;have eA:=(iZ (by decide) (by decide) (by decide) h0).trans e4;have gd:=cx.gd;obtain ⟨nt,nh,nl⟩:=gd.ci.nt nd fK;have jR:=nt.pl;refine gh cx 5 (Sc D nd S) (AH (cO D i 2) i) rp0 204 (.agg #[.U S,.string (aC nd.path)]) 268 267 (.agg #[.U S,.string (aC nd.path)]) (fun _=>⟨fun w' c=>Jq w' b bs bn D SB NB HB UB c.ps c.gd.pw (fun nd aV=>⟨(c.gd.wf.pb nd aV).2.1,(c.gd.wf.pb nd aV).2.2⟩) i nd e2 S c.hS _ (ae rfl),fun hC w' c=>(Jr w' b bs bn D SB NB HB UB c.ps i nd e2 c.gd.ci.so nt c.gd.ci.kd S).mono fun r w'' h=>jU.r h,?_⟩);rw [eA];unfold gI;simp only [e2];rw [if_pos (by decide)];unfold Sc;by_cases q1:gJ D.ns nd.path=[];{by_cases q2:jH nd S=false<;>simp [q1,q2]}
 {simp [q1]}};{exact gh cx 5 0 D rp0 204 (.agg #[.U S,.string (aC P)]) 268 267 (.agg #[.U S,.string (aC P)]) (fun h=>absurd h h0)}
theorem Sq (cx:uM w0 w b bs bn D SB NB HB UB S F E G pp np cp pq nv cv P V):Calls prog 36 #[.pointer (some ⟨b,0,none⟩),lW (6:Nat) S (.S pp np cp) F (.S pq nv cv) E G] w (oY w0 w b bs bn D (aM D (6:Nat) S F E G P V)):=by
 by_cases h0:oQ D (rowOf 6).1 (rowOf 6).2.1 (vH 6 S F P.length V.length E G) (6:Nat) S P=0;{obtain ⟨hB,hs,hp⟩:=sI h0;obtain ⟨i,nd,e2,rfl,e4⟩:=km (k:=6) (S:=S) (F:=F) (E:=E) (G:=G) (V:=V) (.inr (.inl rfl)) (hp rfl);have fK:=aF e2;have eA:=(iZ (by decide) (by decide) (by decide) h0).trans e4;have gd:=cx.gd;obtain ⟨nt,nh,nl⟩:=gd.ci.nt nd fK;have jR:=nt.pl;refine gh cx 6 0 D ⟨0,nd.owner,nd.aB,nd.gen,nd.mode,nd.value,[],[]⟩ 206 (.agg #[.string (aC nd.path)]) 255 270 (.agg #[]) (fun _=>⟨fun w' c=>ku _ rfl _ w',fun hC w' c=>(WL w' b bs bn D SB NB HB UB c.ps i nd e2 jR _ (ae rfl) (c.gd.wf.vl nd fK)).mono fun r w'' ⟨p,c,w5,q1,q2,q3,q4,q5⟩=>aS8 rfl q1 q2 q3 q4 q5,?_⟩);rw [eA];unfold gI;simp only [e2];rw [aw,if_pos (by decide),if_pos trivial]};{exact gh cx 6 0 D rp0 206 (.agg #[.string (aC P)]) 255 270 (.agg #[]) (fun h=>absurd h h0)}
theorem Sm (cx:uM w0 w b bs bn D SB NB HB UB S F E G pp np cp pq nv cv P V):Calls prog 36 #[.pointer (some ⟨b,0,none⟩),lW (7:Nat) S (.S pp np cp) F (.S pq nv cv) E G] w (oY w0 w b bs bn D (aM D (7:Nat) S F E G P V)):=by
 by_cases h0:oQ D (rowOf 7).1 (rowOf 7).2.1 (vH 7 S F P.length V.length E G) (7:Nat) S P=0;{
 obtain ⟨hB,hs,hp⟩:=sI h0;obtain ⟨i,nd,e2,rfl,e4⟩:=km (k:=7) (S:=S) (F:=F) (E:=E) (G:=G) (V:=V) (.inr (.inr (.inl rfl))) (hp rfl);have fK:=aF e2;have eA:=(iZ (by decide) (by decide) (by decide) h0).trans e4;have gd:=cx.gd;obtain ⟨nt,nh,nl⟩:=gd.ci.nt nd fK;have jR:=nt.pl;refine gh cx 7 (KM nd S) (cO { D with ns:=D.ns.set i { nd with value:=V } } i 1) rp0 208 (.agg #[.U S,.string (aC nd.path),.S pq nv cv]) 272 271 (.agg #[.U S,.string (aC nd.path),.S pq nv cv]) (fun _=>⟨fun w' c=>UZ w' b bs bn D SB NB HB UB c.ps i nd e2 jR S c.hS (.S pq nv cv) pq nv cv _ (ae rfl),fun hC w' c=>(U3 w' b bs bn D SB NB HB UB c.ps i nd e2 c.gd.ci.so nt S pq nv cv V c.hV).mono fun r w'' h=>jU.r h,?_⟩);rw [eA];unfold gI;simp only [e2];rw [aw,aw,if_pos (by decide),Qf (gd.ho nd fK).1];by_cases q1:nd.mode=1/\nd.holders.headD 0≠S
 {rw [if_pos q1,if_pos q1];rfl};{rw [if_neg q1,if_neg q1];rfl}};{exact gh cx 7 0 D rp0 208 (.agg #[.U S,.string (aC P),.S pq nv cv]) 272 271 (.agg #[.U S,.string (aC P),.S pq nv cv]) (fun h=>absurd h h0)}
theorem Ob (cx:uM w0 w b bs bn D SB NB HB UB S F E G pp np cp pq nv cv P V):Calls prog 36 #[.pointer (some ⟨b,0,none⟩),lW (8:Nat) S (.S pp np cp) F (.S pq nv cv) E G] w (oY w0 w b bs bn D (aM D (8:Nat) S F E G P V)):=by
 by_cases h0:oQ D (rowOf 8).1 (rowOf 8).2.1 (vH 8 S F P.length V.length E G) (8:Nat) S P=0;{
 obtain ⟨hB,hs,hp⟩:=sI h0;obtain ⟨i,nd,e2,rfl,e4⟩:=km (k:=8) (S:=S) (F:=F) (E:=E) (G:=G) (V:=V) (.inr (.inr (.inr (.inl rfl)))) (hp rfl);have fK:=aF e2;have eA:=(iZ (by decide) (by decide) (by decide) h0).trans e4;have gd:=cx.gd;obtain ⟨nt,nh,nl⟩:=gd.ci.nt nd fK;have jR:=nt.pl;have hF:F=1\/F=2:=by simp only [vH,rowOf,Jf,Bool.and_eq_true,decide_eq_true_eq] at hB;omega
 refine gh cx 8 (jV D nd S F) (iC D i S F).1 (iC D i S F).2 210 (.agg #[.U S,.string (aC nd.path),.I F]) 274 273 (.agg #[.U S,.string (aC nd.path),.I F]) (fun _=>⟨fun w' c=>QG w' b bs bn D SB NB HB UB c.ps i nd e2 jR S c.hS F hF _ (ae rfl),?_,?_⟩);{
 intro hC w' c;rcases hF with rfl | rfl;{obtain ⟨q1,q2⟩:=IM e2 (fun h=>List.length_eq_zero_iff.1 (((gd.ho nd fK).2 (by omega)).2.2 h)) hC;rw [q1];exact (Ly w' b bs bn D SB NB HB UB c.ps i nd e2 jR nh nl S c.hS ⟨gd.wf.g.1,q2⟩).mono fun r w'' h=>jU.r h};{
 rw [IL e2 hC];have sj:nd.mode≠1:=fun e=>by unfold jV at hC;rw [if_pos rfl,if_pos e] at hC;split at hC<;>omega
 obtain ⟨q1,q2,-⟩:=(gd.ho nd fK).2 sj;exact (Lx w' b bs bn D SB NB HB UB c.ps i nd e2 jR nh nl S c.hS ⟨q1,q2⟩).mono fun r w'' h=>jU.r h}};rw [eA];unfold gI;simp only [e2];rw [aw,aw,aw,if_pos (by decide)];by_cases q1:jV D nd S F=0;{rw [if_pos q1]};{rw [if_neg q1,Lw e2 q1]}};{exact gh cx 8 0 D rp0 210 (.agg #[.U S,.string (aC P),.I F]) 274 273 (.agg #[.U S,.string (aC P),.I F]) (fun h=>absurd h h0)}
theorem Gq (cx:uM w0 w b bs bn D SB NB HB UB S F E G pp np cp pq nv cv P V):Calls prog 36 #[.pointer (some ⟨b,0,none⟩),lW (9:Nat) S (.S pp np cp) F (.S pq nv cv) E G] w (oY w0 w b bs bn D (aM D (9:Nat) S F E G P V)):=by
 by_cases h0:oQ D (rowOf 9).1 (rowOf 9).2.1 (vH 9 S F P.length V.length E G) (9:Nat) S P=0;{
 obtain ⟨hB,hs,hp⟩:=sI h0;obtain ⟨i,nd,e2,rfl,e4⟩:=km (k:=9) (S:=S) (F:=F) (E:=E) (G:=G) (V:=V) (.inr (.inr (.inr (.inr (.inl rfl))))) (hp rfl);have fK:=aF e2;have eA:=(iZ (by decide) (by decide) (by decide) h0).trans e4;have gd:=cx.gd;obtain ⟨nt,nh,nl⟩:=gd.ci.nt nd fK;have jR:=nt.pl;refine gh cx 9 (if nd.holders.contains S=true then 0 else 10) (cT D i S) rp0 211 (.agg #[.U S,.string (aC nd.path)]) 276 275 (.agg #[.U S,.string (aC nd.path)]) (fun _=>⟨fun w' c=>Ir w' b bs bn D SB NB HB UB c.ps i nd e2 jR S c.hS _ (ae rfl),fun hC w' c=>by
   have uy:nd.holders.contains S=true:=by by_cases q:nd.holders.contains S=true;{exact q};{rw [if_neg q] at hC;omega}
   exact (Is w' b bs bn D SB NB HB UB c.ps i nd e2 c.gd.ci.so nt S c.hS nh nl uy).mono fun r w'' h=>jU.r h,?_⟩)
 rw [eA];unfold gI;simp only [e2];rw [aw,aw,aw,aw,if_pos (by decide)];by_cases q1:nd.holders.contains S=true;{rw [if_pos q1,if_pos q1];rfl};{rw [if_neg q1,if_neg q1];rfl}};{exact gh cx 9 0 D rp0 211 (.agg #[.U S,.string (aC P)]) 276 275 (.agg #[.U S,.string (aC P)]) (fun h=>absurd h h0)}
theorem JA (cx:uM w0 w b bs bn D SB NB HB UB S F E G pp np cp pq nv cv P V):Calls prog 36 #[.pointer (some ⟨b,0,none⟩),lW (11:Nat) S (.S pp np cp) F (.S pq nv cv) E G] w (oY w0 w b bs bn D (aM D (11:Nat) S F E G P V)):=by
 by_cases h0:oQ D (rowOf 11).1 (rowOf 11).2.1 (vH 11 S F P.length V.length E G) (11:Nat) S P=0;{obtain ⟨hB,hs,hp⟩:=sI h0;obtain ⟨i,nd,e2,rfl,e4⟩:=km (k:=11) (S:=S) (F:=F) (E:=E) (G:=G) (V:=V) (.inr (.inr (.inr (.inr (.inr rfl))))) (hp rfl);have fK:=aF e2;have eA:=(iZ (by decide) (by decide) (by decide) h0).trans e4;have gd:=cx.gd;obtain ⟨nt,nh,nl⟩:=gd.ci.nt nd fK;have jR:=nt.pl;refine gh cx 11 0 { D with ns:=D.ns.set i { nd with watchers:=ig nd.watchers S } } rp0 215 (.agg #[.U S,.string (aC nd.path)]) 255 278 (.agg #[]) (fun _=>⟨fun w' c=>ku _ rfl _ w',fun hC w' c=>(Ko w' b bs bn D SB NB HB UB c.ps i nd e2 jR nt.wpw nt.Cn S c.hS).mono fun r w'' h=>jU.r h,?_⟩);rw [eA];unfold gI;simp only [e2];rw [aw,aw,aw,aw,aw,if_pos trivial]};{exact gh cx 11 0 D rp0 215 (.agg #[.U S,.string (aC P)]) 255 278 (.agg #[]) (fun h=>absurd h h0)}
theorem JC (cx:uM w0 w b bs bn D SB NB HB UB S F E G pp np cp pq nv cv P V):Calls prog 36 #[.pointer (some ⟨b,0,none⟩),lW (10:Nat) S (.S pp np cp) F (.S pq nv cv) E G] w (oY w0 w b bs bn D (aM D (10:Nat) S F E G P V)):=by
 refine gh cx 10 0 D { rp0 with n:=NR D.ns P S E G } 213 (.agg #[.U S,.string (aC P),.U E,.U G]) 255 277 (.agg #[]) (fun h0=>⟨fun w' c=>ku _ rfl _ w',fun _ w' c=>(NS w' b bs bn D SB NB HB UB c.ps P c.hB (by show _<=_;rw [c.eP];exact c.hp) (fun nd aV=>(c.gd.wf.pb nd aV).2.1) S c.hS E G _ (ae rfl)).mono fun r w'' h=>jU.r h,?_⟩);obtain ⟨hB,hs,hp⟩:=sI h0;rw [iZ (by decide) (by decide) (by decide) h0,if_pos rfl,Sl (fun nd aV=>(cx.gd.ho nd aV).1)];rcases G0 (hp rfl) with hr | ⟨hr,hv,-⟩;{rw [rG (by decide)] at hr;cases hr};{unfold iA;rw [hr,hv,if_neg (by simp),aw,if_pos (by decide)]}
theorem Oc (cx:uM w0 w b bs bn D SB NB HB UB S F E G pp np cp pq nv cv P V):Calls prog 36 #[.pointer (some ⟨b,0,none⟩),lW (13:Nat) S (.S pp np cp) F (.S pq nv cv) E G] w (oY w0 w b bs bn D (aM D (13:Nat) S F E G P V)):=by
 refine gh cx 13 0 D { rp0 with pY:=(oC D.ns P).map lG } 217 (.agg #[.string (aC P)]) 255 280 (.agg #[]) (fun h0=>⟨fun w' c=>ku _ rfl _ w',fun _ w' c=>(QH w' b bs bn D SB NB HB UB c.ps c.gd.pw c.gd.wf.pb P c.hB _ (ae rfl) _ (ae rfl) (by have:=Dq D.ns P;have:=c.gd.nl;omega)).mono fun r w'' h=>SG.r rfl h,?_⟩);obtain ⟨hB,hs,hp⟩:=sI h0;rw [iZ (by decide) (by decide) (by decide) h0,if_pos rfl,<-zG];rcases G0 (hp rfl) with hr | ⟨hr,hv,hn⟩;{unfold iA;rw [hr,if_neg (by simp),aw,aw,if_neg (by simp),if_pos (by decide)]};{obtain ⟨i,nd,e1,e2,e3,-⟩:=Ln (hn rfl);unfold iA;rw [hr,hv,if_neg (by simp),aw,aw,if_neg (by simp;omega),if_pos (by decide)]}
theorem Gs (cx:uM w0 w b bs bn D SB NB HB UB S F E G pp np cp pq nv cv P V):Calls prog 36 #[.pointer (some ⟨b,0,none⟩),lW (4:Nat) S (.S pp np cp) F (.S pq nv cv) E G] w (oY w0 w b bs bn D (aM D (4:Nat) S F E G P V)):=by
 obtain ⟨j,hj,ej⟩:=He (gj P V (if F=1 then S else 0)) D.ns;refine gh cx 4 (BG D P) { D with ns:=jq (gj P V (if F=1 then S else 0)) D.ns } rp0 202 (.agg #[.U S,.string (aC P),.bool (F==1),.S pq nv cv]) 266 265 (.agg #[.U S,.string (aC P),.bool (F==1),.S pq nv cv]) (fun h0=>⟨fun w' c=>Jt w' b bs bn D SB NB HB UB c.ps P c.hB np c.eP c.hp (fun nd aV=>(c.gd.wf.pb nd aV).2.1) S (F==1) pq nv cv _ (ae rfl),fun hC w' c=>?_,?_⟩);{
 obtain ⟨-,jS,-⟩:=uF (V:=V) (S:=S) (F:=F) hC;have hA:=Ju w' b bs bn D SB NB HB UB c.ps P S (F==1) pq nv cv V c.hV (by show _<=_;rw [c.eP];exact c.hp) (fun nd' aV e=>by have e5:=jD (c.gd.wf.pb nd' aV).2.1 c.hB e;have:=List.find?_eq_none.1 jS nd' aV;simp [e5] at this) c.gd.nl j hj
 refine hA.mono fun r w'' ⟨gN,hN,uN,h⟩=>?_;have e6:(if (F==1)=true then S else 0)=if F=1 then S else 0:=by by_cases q:F=1<;>simp [q]
 rw [e6] at h;rw [ej];exact jU.r h};{
 obtain ⟨hB,hs,hp⟩:=sI h0;rw [iZ (by decide) (by decide) (by decide) h0];have e7:iA D (4:Nat) S F E G P V=fG D P V S F:=by rcases G0 (hp rfl) with hr | ⟨hr,hv,-⟩;{rw [rG (by decide)] at hr;cases hr};{unfold iA;rw [hr,hv,if_neg (by simp),if_pos (by decide)]}
 rw [e7];by_cases hC:BG D P=0;{rw [if_pos hC,(uF hC).1]};{rw [if_neg hC,Gm hC]}}
theorem Sr (cx:uM w0 w b bs bn D SB NB HB UB S F E G pp np cp pq nv cv P V):Calls prog 36 #[.pointer (some ⟨b,0,none⟩),lW K S (.S pp np cp) F (.S pq nv cv) E G] w (oY w0 w b bs bn D (aM D K S F E G P V)):=by
 by_cases h:1<=K/\K<=13;{obtain ⟨k,rfl⟩:∃ k:Nat,K=(k:Int):=⟨K.toNat,by omega⟩;rcases kinds (k:=k) (by omega) (by omega) with rfl | rfl | rfl | rfl | rfl | rfl | rfl | rfl | rfl | rfl | rfl | rfl | rfl;{exact Oa cx};{exact Od cx};{exact JB cx};{exact Gs cx};{exact Gr cx};{exact Sq cx};{exact Sm cx};{exact Ob cx};{exact Gq cx};{exact JC cx};{exact JA cx};{exact NU cx};{exact Oc cx}};{exact Sn cx (by omega)}
end
end Go.Proofs.YtcfcafeciggjeaaGreatDoor
