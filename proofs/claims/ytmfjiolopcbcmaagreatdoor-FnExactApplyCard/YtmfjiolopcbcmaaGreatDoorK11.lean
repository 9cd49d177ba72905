import Derived.Test.YtmfjiolopcbcmaaGreatDoorK10
namespace Go.Proofs.YtmfjiolopcbcmaaGreatDoor
set_option maxHeartbeats 1600000
set_option linter.unusedVariables false
set_option linter.unusedSimpArgs false
set_option maxRecDepth 100000
open Go.ChangeShapes Go.WideShapes Go.ChangeAt Go.RowKit Go.Proofs.Tryz
variable {a b o:Nat} {es:List Ev} {k:Int} {p:Option Addr} {ss:List aR} {v:Value} {w w':World}
def iO (w:World) (v:Value) (es:List Ev):Prop:=
 ∃ (p:Option Addr) (c:Nat),v=.slice p es.length c/\(es=[]\/∃ b o,p=some ⟨b,o,none⟩/\∀ i e,es[i]?=some e->w.cell? ⟨b,o+i*2,none⟩=some (.int .i64 e.1)/\∃ u,w.cell? ⟨b,o+i*2+1,none⟩=some u/\Rd w u e.2/\dh u)
theorem iO.rd (h:iO w v es):nS w v es:=by
 obtain ⟨p,c,rfl,h⟩:=h;refine ⟨p,c,rfl,?_⟩;rcases h with h | ⟨b,o,rfl,h⟩;{exact .inl h};{refine .inr ⟨b,o,rfl,fun i e he=>?_⟩;obtain ⟨h1,u,h2,h3,_⟩:=h i e he;exact ⟨h1,u,h2,h3⟩}
theorem iO.below (h:iO w v es) (hb:Below w.heap.size w w'):iO w' v es:=by
 obtain ⟨p,c,rfl,h⟩:=h;refine ⟨p,c,rfl,?_⟩;rcases h with h | ⟨b,o,rfl,h⟩;{exact .inl h};{refine .inr ⟨b,o,rfl,fun i e he=>?_⟩;obtain ⟨h1,u,h2,h3,h4⟩:=h i e he;exact ⟨af h1 hb,u,af h2 hb,h3.below hb,h4⟩}
def jP (w:World) (v:Value) (ss:List aR):Prop:=
 ∃ (p:Option Addr) (c:Nat),v=.slice p ss.length c/\(ss=[]\/∃ b o,p=some ⟨b,o,none⟩/\∀ i s,ss[i]?=some s->w.cell? ⟨b,o+i*3,none⟩=some (.int .u64 s.1)/\w.cell? ⟨b,o+i*3+1,none⟩=some (.int .i64 s.2.1)/\∃ u,w.cell? ⟨b,o+i*3+2,none⟩=some u/\iO w u s.2.2)
theorem jP.rd (h:jP w v ss):nR w v ss:=by
 obtain ⟨p,c,rfl,h⟩:=h;refine ⟨p,c,rfl,?_⟩;rcases h with h | ⟨b,o,rfl,h⟩;{exact .inl h};{refine .inr ⟨b,o,rfl,fun i e he=>?_⟩;obtain ⟨h1,h2,u,h3,h4⟩:=h i e he;exact ⟨h1,h2,u,h3,h4.rd⟩}
theorem jP.below (h:jP w v ss) (hb:Below w.heap.size w w'):jP w' v ss:=by
 obtain ⟨p,c,rfl,h⟩:=h;refine ⟨p,c,rfl,?_⟩;rcases h with h | ⟨b,o,rfl,h⟩;{exact .inl h};{refine .inr ⟨b,o,rfl,fun i e he=>?_⟩;obtain ⟨h1,h2,u,h3,h4⟩:=h i e he;exact ⟨af h1 hb,af h2 hb,u,af h3 hb,h4.below hb⟩}
def ML (w:World):Prop:=∃ m,w.cell? ⟨2,0,none⟩=some (.int .i64 m)
theorem ML.below (h:ML w) (hb:Below w.heap.size w w'):ML w':=by
 obtain ⟨m,h⟩:=h;exact ⟨m,af h hb⟩
theorem dh.of {n c:Nat} (h:dh (.slice p n c)):n<=c/\c<=maxLen:=by
 obtain ⟨p',n',c',e,h1,h2⟩:=h;simp only [Value.slice.injEq] at e;obtain ⟨rfl,rfl,rfl⟩:=e;exact ⟨h1,h2⟩
theorem Bn (K:Int) (pp:Option Addr) (pc m i:Nat) (P:List Int) (em:Hid (P.length=m)) (w:World) (hR:Rd w (.slice pp m pc) P) (hB:Hid (cT P)) (hm:m<=1048576) (oE:dh (.slice pp m pc)) (yh:ML w) (B:Bool) (eB:Hid (jk i (K,P)=B)) :
  Calls prog 139 #[.agg #[.int .i64 K,.slice pp m pc],.int .i64 i] w fun r w'=>r=.returned (.bool B)/\Below w.heap.size w w':=by
 obtain ⟨jg,jf⟩:=oE.of;have b1:Below w.heap.size w (w.alloc (.cells #[.int .i64 K,.slice pp m pc] 147)):=ar.alloc ay _;have HR:=ae (hR.below b1);have HM:=ae (yh.below b1);by_cases h7:i=7;{
 subst h7;by_cases h4:K=4;{
 subst h4;by_cases Gz:m=0;{
 subst Gz;have eT:B=true:=by rw [<-aa eB,jk,if_pos rfl];simp [aa em]
 subst eT;go_enter func139,ntmps139;go_wp2;go_ret;exact ⟨rfl,b1⟩};{
 have YJ:((m:Int)==0)=false:=by simp;omega
 have eT:B=false:=by rw [<-aa eB,jk,if_pos rfl];simp [aa em,Gz]
 subst eT;go_enter func139,ntmps139;go_wp2;go_ret;exact ⟨rfl,b1⟩}};{
 have h4d:(K==4)=false:=by simp [h4]
 have eT:B=false:=by rw [<-aa eB,jk,if_pos rfl];simp [h4]
 subst eT;go_enter func139,ntmps139;go_wp2;go_ret;exact ⟨rfl,b1⟩}};{
 have h7d:((i:Int)==7)=false:=by simp;omega
 by_cases h1:1<=K;{
 by_cases h3:K<=3;{
 have eV:Hid (vp P=B):=by show _=_;rw [<-aa eB,jk,if_neg h7];simp [h1,h3]
 go_enter func139,ntmps139;go_wp2_with fail;refine (EU pp pc m P em _ HR hB hm jg jf HM B eV).mono ?_;rintro r w2 ⟨rfl,aG⟩;have b2:=ai b1 aG;go_wp2;go_ret;exact ⟨rfl,b2⟩};{
 have eT:B=false:=by rw [<-aa eB,jk,if_neg h7];simp [h3]
 subst eT;go_enter func139,ntmps139;go_wp2;go_ret;exact ⟨rfl,b1⟩}};{
 have eT:B=false:=by rw [<-aa eB,jk,if_neg h7];simp [h1]
 subst eT;go_enter func139,ntmps139;go_wp2;go_ret;exact ⟨rfl,b1⟩}}
def uI (nx:Int) (s:aR):Bool:=decide (1<=s.1)&&(decide (s.1<=nx)&&(decide (0<=s.2.1)&&(decide (s.2.1<=1000015)&&gF s.2.2)))
theorem yR (I D x:Int) (p:Option Addr) (c n:Nat) (Q:List Ev) (en:Hid (Q.length=n)) (w:World) (h:iO w (.slice p n c) Q) (hn:n<=1048576) (du:Hid (∀ e∈Q,cT e.2/\e.2.length<=1048576)) (yh:ML w) (B:Bool) (eB:Hid (uI x (I,D,Q)=B)) :
  Calls prog 112 #[.agg #[.int .u64 I,.int .i64 D,.slice p n c],.int .u64 x] w fun r w'=>r=.returned (.bool B)/\Below w.heap.size w w':=by
 have HR:=ae fun (w':World) (hb:Below w.heap.size w w')=>ag (h.below hb) (yh.below hb);have b1:Below w.heap.size w (w.alloc (.cells #[.int .u64 I,.int .i64 D,.slice p n c] 95)):=ar.alloc ay _;have hB:B=(decide (1<=I)&&(decide (I<=x)&&(decide (0<=D)&&(decide (D<=1000015)&&(decide (n<=8)&&(List.range n).all fun i=>jk i (Q.getD i (0,[]))))))):=by rw [<-aa eB,uI,gF,aa en]
 have HB:=ae hB;clear h yh hB eB;by_cases h1:I<1;{
 have eF:B=false:=by rw [aa HB];simp;omega
 subst eF;clear HB;go_enter func112,ntmps112;go_wp2;go_ret;exact ⟨rfl,b1⟩};{
 by_cases h2:x<I;{
 have eF:B=false:=by rw [aa HB];simp;omega
 subst eF;clear HB;go_enter func112,ntmps112;go_wp2;go_ret;exact ⟨rfl,b1⟩};{
 by_cases h3:D<0;{
 have eF:B=false:=by rw [aa HB];simp;omega
 subst eF;clear HB;go_enter func112,ntmps112;go_wp2;go_ret;exact ⟨rfl,b1⟩};{
 by_cases h4:1000015<D;{
 have eF:B=false:=by rw [aa HB];simp;omega
 subst eF;clear HB;go_enter func112,ntmps112;go_wp2;go_ret;exact ⟨rfl,b1⟩};{
 by_cases h8:(8:Int)<(n:Int);{
 have eF:B=false:=by rw [aa HB];simp;omega
 subst eF;clear HB;go_enter func112,ntmps112;go_wp2;go_ret;exact ⟨rfl,b1⟩};{
 have rM:Hid (B=(List.range n).all fun i=>jk i (Q.getD i (0,[]))):=by show _=_;rw [aa HB];simp only [show decide (1<=I)=true by (rw [decide_eq_true_iff];omega),show decide (I<=x)=true by (rw [decide_eq_true_iff];omega),show decide (0<=D)=true by (rw [decide_eq_true_iff];omega),show decide (D<=1000015)=true by (rw [decide_eq_true_iff];omega),show decide (n<=8)=true by (rw [decide_eq_true_iff];omega),Bool.true_and]
 clear HB;go_enter func112,ntmps112;go_wp2_with fail;clear h1 h2 h3 h4 h8;obtain ⟨W,hW⟩:=ax (w.alloc (.cells #[.int .u64 I,.int .i64 D,.slice p n c] 95));rw [<-hW] at b1 ⊢;clear hW
 go_loopw [35] (fun iv wr=>∃ k:Nat,k<=n/\iv=.int .i64 k/\Hid ((List.range k).all (fun i=>jk i (Q.getD i (0,[])))=true)/\Below w.heap.size w wr) (fun iv _=>n-(intOf iv).toNat)
 case atStart=>exact ⟨0,Nat.zero_le _,rfl,(by show _=_;rfl),b1⟩
 case round =>(
 obtain ⟨k,hk,rfl,ic,aE⟩:=hrel;by_cases aU:k<n;{
 have aV:(k:Int)<(n:Int):=by omega
 have bH:k<Q.length:=by rw [aa en];exact aU
 obtain ⟨⟨K,P⟩,hy⟩:∃ y,Q[k]?=some y:=⟨_,aH bH⟩;have xk:Q.getD k (0,[])=(K,P):=by rw [List.getD_eq_getElem?_getD,hy];rfl
 obtain ⟨b,o,rfl,Qd,u,Lb,vk,oE⟩:∃ b o,p=some ⟨b,o,none⟩/\wr.cell? ⟨b,o+k*2,none⟩=some (.int .i64 K)/\∃ u,wr.cell? ⟨b,o+k*2+1,none⟩=some u/\Rd wr u P/\dh u:=by obtain ⟨p',c',ev,hd⟩:=(aa HR _ aE).1;simp only [Value.slice.injEq] at ev;obtain ⟨rfl,-,-⟩:=ev;rcases hd with h0 | ⟨b,o,h1,h2⟩;{rw [h0] at bH;simp at bH};{exact ⟨b,o,h1,h2 k _ hy⟩}
 obtain ⟨NM,Zr⟩:=aa du _ (aL hy);obtain ⟨pp,pc,m,rfl,em⟩:=vk.ed;have hm:m<=1048576:=by rw [<-aa em];exact Zr
 have Ju:Hid (cT P):=NM;obtain ⟨V,eV⟩:=aZ (jk k (K,P));have EV:=ae eV;have hF:V=false->B=false:=fun h=>by rw [aa rM];exact dB aU (by rw [xk,eV];exact h)
 have hT:V=true->Hid ((List.range (k+1)).all (fun i=>jk i (Q.getD i (0,[])))=true):=fun h=>bQ (aa ic) (by rw [xk,eV];exact h);have HF:=ae hF;have HT:=ae hT;have b2:Below wr.heap.size wr ((wr.alloc (.cells #[.int .i64 K,.slice pp m pc] 147))):=ar.alloc ay _;have Rm:=ae (vk.below b2);have HML:=ae ((aa HR _ aE).2.below b2);have aT5:=ae oE;clear bH hy xk NM Zr vk eV hF hT oE;go_wp2_with fail;refine (Bn K pp pc m k P em _ (by exact Rm) Ju hm aT5 (by exact HML) V EV).mono ?_;rintro r w2 ⟨rfl,aG⟩;have b3:=ai aE (ai b2 aG);clear aG b2;cases V with
 | false=>
  have eF:=aa HF rfl;subst eF;go_wp2;go_ret;exact ⟨rfl,b3⟩
 | true=>
  have rJ:=aa HT rfl;go_wp2;go_roundw
  case rel=>exact ⟨k+1,by omega,by go_num,rJ,b3⟩
  case measure=>simp [intOf];omega}
 {
 have aV:¬ (k:Int)<(n:Int):=by omega
 have eT:B=true:=by
  rw [aa rM];have:k=n:=by omega
  rw [<-this];exact ic
 subst eT;go_wp2;go_ret;exact ⟨rfl,aE⟩})}}}}}
structure Lf where
 b:Nat
 o:Nat
 k:IntKind
def aP (w:World) (A:List Lf):Prop:=∀ a∈A,(∃ n,w.cell? ⟨a.b,a.o,none⟩=some (.int a.k n))/\w.frozen? ⟨a.b,a.o,none⟩=false
def Pn (kd:IntKind) (k:Int):Int:=match kd with | .u8=>k % 256 | _=>k
structure Mk (w w':World) (A:List Lf) (k:Int):Prop where
 os:w'.os=w.os
 tape:w'.tape=w.tape
 output:w'.output=w.output
 size:w.heap.size<=w'.heap.size
 aF:∀ b,b<w.heap.size->(∀ a∈A,a.b≠b)->w'.heap[b]?=w.heap[b]?
 aN:∀ b o,b<w.heap.size->(∀ a∈A,¬ (a.b=b/\a.o=o))->w'.cell? ⟨b,o,none⟩=w.cell? ⟨b,o,none⟩
 fz:∀ b o,b<w.heap.size->w'.frozen? ⟨b,o,none⟩=w.frozen? ⟨b,o,none⟩
 int:∀ a∈A,∃ n,w'.cell? ⟨a.b,a.o,none⟩=some (.int a.k n)
 val:(A.map fun a=>(a.b,a.o)).Nodup->∀ (i:Nat) (a:Lf),A[i]?=some a->w'.cell? ⟨a.b,a.o,none⟩=some (.int a.k (Pn a.k (k+i)))
theorem aP.lt {A:List Lf} (h:aP w A) {a:Lf} (ha:a∈A):a.b<w.heap.size:=by
 obtain ⟨⟨n,hn⟩,_⟩:=h a ha;exact World.block_lt_of_cell? w _ hn
theorem aP.nil (w:World):aP w []:=fun a ha=>by simp at ha
theorem aP.app {A A':List Lf}:aP w (A++A')↔aP w A/\aP w A':=by
 constructor;{intro h;exact ⟨fun a ha=>h a (List.mem_append_left _ ha),fun a ha=>h a (List.mem_append_right _ ha)⟩};{rintro ⟨h,k⟩ a ha;rcases List.mem_append.1 ha with ha | ha;{exact h a ha};{exact k a ha}}
theorem aP.sub {A A':List Lf} (h:aP w A) (hs:∀ a∈A',a∈A):aP w A':=fun a ha=>h a (hs a ha)
theorem aP.below {A:List Lf} (h:aP w A) (hb:Below w.heap.size w w'):aP w' A:=fun a ha=>by
 obtain ⟨⟨n,hn⟩,hf⟩:=h a ha;exact ⟨⟨n,af hn hb⟩,(hb.frozen (p:=⟨a.b,a.o,none⟩) (h.lt ha)).trans hf⟩
theorem Mk.fG (h:Below w.heap.size w w') (k:Int):Mk w w' [] k:=
 ⟨h.os,h.tape,h.output,h.size,fun b hb _=>h.block b hb,fun b o hb _=>h.cell (p:=⟨b,o,none⟩) hb,fun b o hb=>h.frozen (p:=⟨b,o,none⟩) hb,fun a ha=>by simp at ha,fun _ i a ha=>by simp at ha⟩
theorem Mk.refl (w:World) (k:Int):Mk w w [] k:=Mk.fG ar k
theorem Mk.one {kd:IntKind} {k n:Int} (hc:w.cell? ⟨b,o,none⟩=some (.int kd n)):Mk w (w.setCell ⟨b,o,none⟩ (.int kd (Pn kd k))) [⟨b,o,kd⟩] k:=by
 have hs:(w.setCell ⟨b,o,none⟩ (.int kd (Pn kd k))).cell? ⟨b,o,none⟩=some (.int kd (Pn kd k)):=World.cell?_setCell_same' w _ _ (by rw [hc];rfl);refine ⟨rfl,rfl,rfl,by simp,fun b' hb bm=>dr _ _ _ _ (fun e=>bm ⟨b,o,kd⟩ (by simp) e.symm),fun b' o' hb bm=>?_,fun b' o' hb=>?_,fun a ha=>?_,fun _ i a ha=>?_⟩;{have h1:=bm ⟨b,o,kd⟩ (by simp);simp only at h1;exact World.cell?_setCell_other _ _ _ _ (fun e=>h1 (by simpa using e))};{simp};{simp at ha;subst ha;exact ⟨_,hs⟩};{
 cases i with
 | zero=>simp at ha;subst ha;simpa using hs
 | succ i=>simp at ha}
theorem Mk.trans {w1 w2:World} {A A2:List Lf} (h:Mk w w1 A k) (h2:Mk w1 w2 A2 (k+A.length)) (hA:aP w A) (Vn:aP w A2):Mk w w2 (A++A2) k:=by
 refine ⟨h2.os.trans h.os,h2.tape.trans h.tape,h2.output.trans h.output,Nat.le_trans h.size h2.size,fun b hb bm=>?_,fun b o hb bm=>?_,fun b o hb=>?_,fun a ha=>?_,fun bf i a ha=>?_⟩;{exact (h2.aF b (Nat.lt_of_lt_of_le hb h.size) (fun a ha=>bm a (List.mem_append_right _ ha))).trans (h.aF b hb (fun a ha=>bm a (List.mem_append_left _ ha)))};{exact (h2.aN b o (Nat.lt_of_lt_of_le hb h.size) (fun a ha=>bm a (List.mem_append_right _ ha))).trans (h.aN b o hb (fun a ha=>bm a (List.mem_append_left _ ha)))};{exact (h2.fz b o (Nat.lt_of_lt_of_le hb h.size)).trans (h.fz b o hb)};{by_cases h3:∃ a2∈A2,a2.b=a.b/\a2.o=a.o;{obtain ⟨a2,m2,e1,e2⟩:=h3;obtain ⟨n,hn⟩:=h2.int a2 m2;obtain ⟨⟨n1,tW⟩,_⟩:=Vn a2 m2;obtain ⟨⟨n2,Fb⟩,_⟩:=aP.app.2 ⟨hA,Vn⟩ a ha;rw [e1,e2] at hn tW;rw [tW] at Fb;simp only [Option.some.injEq,Value.int.injEq] at Fb;exact ⟨n,by rw [hn,Fb.1]⟩};{rcases List.mem_append.1 ha with ha | ha;{obtain ⟨n,hn⟩:=h.int a ha;refine ⟨n,(h2.aN a.b a.o (Nat.lt_of_lt_of_le (hA.lt ha) h.size) (fun a2 m2 e=>h3 ⟨a2,m2,e⟩)).trans hn⟩};{exact absurd ⟨a,ha,rfl,rfl⟩ h3}}};{
 rw [List.map_append,List.nodup_append] at bf;obtain ⟨n1,n2,n3⟩:=bf;by_cases hi:i<A.length;{rw [List.getElem?_append_left hi] at ha;have hm:=aL ha;refine (h2.aN a.b a.o (Nat.lt_of_lt_of_le (hA.lt hm) h.size) (fun a2 m2 e=>?_)).trans (h.val n1 i a ha);exact n3 (a.b,a.o) (List.mem_map_of_mem hm) (a2.b,a2.o) (List.mem_map_of_mem m2) (by rw [e.1,e.2])};{
 rw [List.getElem?_append_right (by omega)] at ha;have:=h2.val n2 (i-A.length) a ha;rw [this]
 congr 3
 omega}}
theorem aP.mk {A A':List Lf} (h:aP w A') (hm:Mk w w' A k) (hA:aP w A):aP w' A':=fun a ha=>by
 obtain ⟨⟨n,hn⟩,hf⟩:=h a ha;refine ⟨?_,(hm.fz _ _ (h.lt ha)).trans hf⟩;by_cases h3:∃ a2∈A,a2.b=a.b/\a2.o=a.o;{obtain ⟨a2,m2,e1,e2⟩:=h3;obtain ⟨n',DT⟩:=hm.int a2 m2;obtain ⟨⟨n1,tW⟩,_⟩:=hA a2 m2;rw [e1,e2] at DT tW;rw [hn] at tW;simp only [Option.some.injEq,Value.int.injEq] at tW;exact ⟨n',by rw [DT,tW.1]⟩};{exact ⟨n,(hm.aN _ _ (h.lt ha) (fun a2 m2 e=>h3 ⟨a2,m2,e⟩)).trans hn⟩}
theorem Mk.head {A:List Lf} (hm:Mk w w' A k) (hA:aP w A) {n c:Nat} (h:w.cell? ⟨b,o,none⟩=some (.slice p n c)):w'.cell? ⟨b,o,none⟩=some (.slice p n c):=by
 refine (hm.aN b o (World.block_lt_of_cell? w _ h) (fun a ha e=>?_)).trans h;obtain ⟨⟨n',hn⟩,_⟩:=hA a ha;rw [e.1,e.2,h] at hn;simp at hn
theorem Mk.below {A:List Lf} {B:Nat} (hm:Mk w w' A k) (hB:∀ a∈A,B<=a.b) (hz:B<=w.heap.size):Below B w w':=
 ⟨hm.os,hm.tape,hm.output,hm.size,fun b hb=>hm.aF b (by omega) (fun a ha e=>by have:=hB a ha;omega)⟩
def tI {α:Type} (P:α->Nat->Nat->List Lf->Prop) (sz:Nat) (v:Value) (xs:List α) (A:List Lf):Prop:=
 ∃ (p:Option Addr) (c:Nat) (Ls:List (List Lf)),v=.slice p xs.length c/\Ls.length=xs.length/\A=Ls.flatten/\(xs=[]\/∃ b o,p=some ⟨b,o,none⟩/\∀ i x l,xs[i]?=some x->Ls[i]?=some l->P x b (o+i*sz) l)
theorem tI.imp {α:Type} {P P':α->Nat->Nat->List Lf->Prop} {sz:Nat} {xs:List α} {A:List Lf} (h:tI P sz v xs A) (hi:∀ x b a l,x∈xs->(∀ y∈l,y∈A)->P x b a l->P' x b a l):tI P' sz v xs A:=by
 obtain ⟨p,c,Ls,h1,h2,h3,h4⟩:=h;refine ⟨p,c,Ls,h1,h2,h3,?_⟩;rcases h4 with h4 | ⟨b,o,h5,h6⟩;{exact .inl h4};{refine .inr ⟨b,o,h5,fun i x l hx hl=>hi _ _ _ _ (aL hx) (fun y hy=>?_) (h6 i x l hx hl)⟩;rw [h3];exact List.mem_flatten.2 ⟨l,aL hl,hy⟩}
def LvI (kd:IntKind) (x:Int) (b a:Nat) (l:List Lf):Prop:=l=[⟨b,a,kd⟩]
abbrev qs (v:Value) (xs:List Int) (A:List Lf):Prop:=tI (LvI .u8) 1 v xs A
abbrev GW (v:Value) (xs:List Int) (A:List Lf):Prop:=tI (LvI .u64) 1 v xs A
def vX (w:World) (x:Ev) (b a:Nat) (l:List Lf):Prop:=
 ∃ p c lb,l=⟨b,a,.i64⟩::lb/\w.cell? ⟨b,a+1,none⟩=some (.slice p x.2.length c)/\qs (.slice p x.2.length c) x.2 lb
abbrev kJ (w:World) (v:Value) (xs:List Ev) (A:List Lf):Prop:=tI (vX w) 2 v xs A
def vV (w:World) (x:aR) (b a:Nat) (l:List Lf):Prop:=
 ∃ p c lq,l=⟨b,a,.u64⟩::⟨b,a+1,.i64⟩::lq/\w.cell? ⟨b,a+2,none⟩=some (.slice p x.2.2.length c)/\kJ w (.slice p x.2.2.length c) x.2.2 lq
abbrev mP (w:World) (v:Value) (xs:List aR) (A:List Lf):Prop:=tI (vV w) 3 v xs A
def vW (w:World) (x:aA) (b a:Nat) (l:List Lf):Prop:=
 ∃ p0 c0 p1 c1 p4 c4 p7 c7 l0 l1 l4 l7,l=l0++(l1++(⟨b,a+2,.u64⟩::⟨b,a+3,.i64⟩::(l4++(⟨b,a+5,.u64⟩::⟨b,a+6,.u64⟩::l7)))) ∧
  (w.cell? ⟨b,a,none⟩=some (.slice p0 x.path.length c0)/\qs (.slice p0 x.path.length c0) x.path l0) ∧
  (w.cell? ⟨b,a+1,none⟩=some (.slice p1 x.value.length c1)/\qs (.slice p1 x.value.length c1) x.value l1) ∧
  (w.cell? ⟨b,a+4,none⟩=some (.slice p4 x.holders.length c4)/\GW (.slice p4 x.holders.length c4) x.holders l4) ∧
  (w.cell? ⟨b,a+7,none⟩=some (.slice p7 x.watchers.length c7)/\GW (.slice p7 x.watchers.length c7) x.watchers l7)
abbrev mJ (w:World) (v:Value) (xs:List aA) (A:List Lf):Prop:=tI (vW w) 8 v xs A
theorem vX.mk {x:Ev} {l:List Lf} {A:List Lf} (h:vX w x b a l) (hm:Mk w w' A k) (hA:aP w A):vX w' x b a l:=by
 obtain ⟨p,c,lb,h1,h2,h3⟩:=h;exact ⟨p,c,lb,h1,hm.head hA h2,h3⟩
theorem kJ.mk {xs:List Ev} {l:List Lf} {A:List Lf} (h:kJ w v xs l) (hm:Mk w w' A k) (hA:aP w A):kJ w' v xs l:=h.imp fun _ _ _ _ _ _ h=>h.mk hm hA
theorem vV.mk {x:aR} {l:List Lf} {A:List Lf} (h:vV w x b a l) (hm:Mk w w' A k) (hA:aP w A):vV w' x b a l:=by
 obtain ⟨p,c,lb,h1,h2,h3⟩:=h;exact ⟨p,c,lb,h1,hm.head hA h2,kJ.mk h3 hm hA⟩
theorem mP.mk {xs:List aR} {l:List Lf} {A:List Lf} (h:mP w v xs l) (hm:Mk w w' A k) (hA:aP w A):mP w' v xs l:=h.imp fun _ _ _ _ _ _ h=>h.mk hm hA
theorem vW.mk {x:aA} {l:List Lf} {A:List Lf} (h:vW w x b a l) (hm:Mk w w' A k) (hA:aP w A):vW w' x b a l:=by
 obtain ⟨p0,c0,p1,c1,p4,c4,p7,c7,l0,l1,l4,l7,h1,⟨h2,h3⟩,⟨h4,h5⟩,⟨h6,h7⟩,⟨h8,h9⟩⟩:=h;exact ⟨p0,c0,p1,c1,p4,c4,p7,c7,l0,l1,l4,l7,h1,⟨hm.head hA h2,h3⟩,⟨hm.head hA h4,h5⟩,⟨hm.head hA h6,h7⟩,⟨hm.head hA h8,h9⟩⟩
theorem mJ.mk {xs:List aA} {l:List Lf} {A:List Lf} (h:mJ w v xs l) (hm:Mk w w' A k) (hA:aP w A):mJ w' v xs l:=h.imp fun _ _ _ _ _ _ h=>h.mk hm hA
theorem tI.at {α:Type} {P:α->Nat->Nat->List Lf->Prop} {sz:Nat} {n c:Nat} {xs:List α} {A:List Lf} (h:tI P sz (.slice p n c) xs A) :
  ∃ Ls:List (List Lf),n=xs.length/\Ls.length=n/\A=Ls.flatten/\∀ k,k<n->∃ b o x l,p=some ⟨b,o,none⟩/\xs[k]?=some x/\Ls[k]?=some l/\P x b (o+k*sz) l/\(Ls.take (k+1)).flatten=(Ls.take k).flatten++l/\∀ y∈l,y∈A:=by
 obtain ⟨p',c',Ls,h1,h2,h3,h4⟩:=h;simp only [Value.slice.injEq] at h1;obtain ⟨rfl,rfl,rfl⟩:=h1;refine ⟨Ls,rfl,h2,h3,fun k hk=>?_⟩;obtain ⟨x,hx⟩:∃ x,xs[k]?=some x:=⟨_,aH hk⟩;obtain ⟨l,hl⟩:∃ l,Ls[k]?=some l:=⟨_,aH (by omega)⟩;rcases h4 with h4 | ⟨b,o,h5,h6⟩;{rw [h4] at hk;simp at hk};{refine ⟨b,o,x,l,h5,hx,hl,h6 k x l hx hl,?_,fun y hy=>?_⟩;{rw [List.take_add_one,hl];simp};{rw [h3];exact List.mem_flatten.2 ⟨l,aL hl,hy⟩}}
theorem aJ (Ls:List (List Lf)) (k:Nat):(Ls.take k).flatten.length<=Ls.flatten.length:=by
 have h:Ls.flatten=(Ls.take k).flatten++(Ls.drop k).flatten:=by rw [<-List.flatten_append,List.take_append_drop]
 rw [h,List.length_append];omega
theorem cM {Ls:List (List Lf)} {k:Nat} {y:Lf} (h:y∈(Ls.take k).flatten):y∈Ls.flatten:=by
 obtain ⟨l,hl,hy⟩:=List.mem_flatten.1 h;exact List.mem_flatten.2 ⟨l,List.mem_of_mem_take hl,hy⟩
end Go.Proofs.YtmfjiolopcbcmaaGreatDoor
