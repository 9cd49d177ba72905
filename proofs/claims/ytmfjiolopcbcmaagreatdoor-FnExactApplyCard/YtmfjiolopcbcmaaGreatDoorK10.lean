import Derived.Test.YtmfjiolopcbcmaaGreatDoorVS8
import Derived.Lib.BytesEntry
import Derived.Laws.Externs
namespace Go.Proofs.YtmfjiolopcbcmaaGreatDoor
set_option maxHeartbeats 1600000
set_option linter.unusedVariables false
set_option linter.unusedSimpArgs false
set_option maxRecDepth 100000
open Go.ChangeShapes Go.WideShapes Go.ChangeAt Go.RowKit Go.Proofs.Tryz
variable {c:Nat} {l:List Int} {p:Option Addr} {w:World}
def ng (e g x t:Int) (ss:List aR) (ns:List aA):Bool:=
 decide (e<=4611686018427387904/\g<=4611686018427387904/\x<=4611686018427387904/\0<=t/\t<=1000000/\ss.length<=50/\ns.length<=200)&&((List.range ss.length).all (jX x ss)&&(List.range ns.length).all (ja e g ss ns))
theorem TG (e g x t:Int) (p q:Option Addr) (c n d m:Nat) (ss:List aR) (ns:List aA) (en:Hid (ss.length=n)) (em:Hid (ns.length=m)) (w:World) (h:nR w (.slice p n c) ss) (hN:jB w (.slice q m d) ns) (hn:n<=1048576) (hm:m<=1048576)
  (sR:Hid (∀ s∈ss,s.2.2.length<=1048576/\∀ e∈s.2.2,cT e.2/\e.2.length<=1048576))
  (du:Hid (∀ nd∈ns,cT nd.path/\nd.path.length<=1048576/\nd.value.length<=1048576/\nd.holders.length<=1048576/\nd.watchers.length<=1048576)) (B:Bool) (eB:Hid (ng e g x t ss ns=B)) :
  Calls prog 21 #[cL e g x t (.slice p n c) (.slice q m d)] w fun r w'=>r=.returned (.bool B)/\Below w.heap.size w w':=by
 have HR:=ae fun (w':World) (hb:Below w.heap.size w w')=>ag (h.below hb) (hN.below hb);have b1:Below w.heap.size w (w.alloc (.cells #[.int .u64 e,.int .u64 g,.int .u64 x,.int .i64 t,.slice p n c,.slice q m d] 35)):=ar.alloc ay _;have hB:B=(decide (e<=4611686018427387904/\g<=4611686018427387904/\x<=4611686018427387904/\0<=t/\t<=1000000/\n<=50/\m<=200)&&((List.range n).all (jX x ss)&&(List.range m).all (ja e g ss ns))):=by rw [<-aa eB,ng,aa en,aa em]
 have HB:=ae hB;clear h hN hB eB;by_cases h0:4611686018427387904<e;{
 have eF:B=false:=by rw [aa HB,Bool.and_eq_false_iff];exact .inl (decide_eq_false (fun hh=>by omega))
 subst eF;clear HB;go_enter func21,ntmps21;go_wp2;go_ret;exact ⟨rfl,b1⟩};{
 have q0:e<=4611686018427387904:=by omega
 by_cases h1:4611686018427387904<g;{
 have eF:B=false:=by rw [aa HB,Bool.and_eq_false_iff];exact .inl (decide_eq_false (fun hh=>by omega))
 subst eF;clear HB;go_enter func21,ntmps21;go_wp2;go_ret;exact ⟨rfl,b1⟩};{
 have q1:g<=4611686018427387904:=by omega
 by_cases h2:4611686018427387904<x;{
 have eF:B=false:=by rw [aa HB,Bool.and_eq_false_iff];exact .inl (decide_eq_false (fun hh=>by omega))
 subst eF;clear HB;go_enter func21,ntmps21;go_wp2;go_ret;exact ⟨rfl,b1⟩};{
 have q2:x<=4611686018427387904:=by omega
 by_cases h3:t<0;{
 have eF:B=false:=by rw [aa HB,Bool.and_eq_false_iff];exact .inl (decide_eq_false (fun hh=>by omega))
 subst eF;clear HB;go_enter func21,ntmps21;go_wp2;go_ret;exact ⟨rfl,b1⟩};{
 have q3:0<=t:=by omega
 by_cases h4:1000000<t;{
 have eF:B=false:=by rw [aa HB,Bool.and_eq_false_iff];exact .inl (decide_eq_false (fun hh=>by omega))
 subst eF;clear HB;go_enter func21,ntmps21;go_wp2;go_ret;exact ⟨rfl,b1⟩};{
 have q4:t<=1000000:=by omega
 by_cases h5:(50:Int)<(n:Int);{
 have eF:B=false:=by rw [aa HB,Bool.and_eq_false_iff];exact .inl (decide_eq_false (fun hh=>by omega))
 subst eF;clear HB;go_enter func21,ntmps21;go_wp2;go_ret;exact ⟨rfl,b1⟩};{
 have q5:n<=50:=by omega
 by_cases h6:(200:Int)<(m:Int);{
 have eF:B=false:=by rw [aa HB,Bool.and_eq_false_iff];exact .inl (decide_eq_false (fun hh=>by omega))
 subst eF;clear HB;go_enter func21,ntmps21;go_wp2;go_ret;exact ⟨rfl,b1⟩};{
 have q6:m<=200:=by omega
 have rM:Hid (B=((List.range n).all (jX x ss)&&(List.range m).all (ja e g ss ns))):=by show _=_;rw [aa HB,decide_eq_true ⟨q0,q1,q2,q3,q4,q5,q6⟩,Bool.true_and]
 clear HB;go_enter func21,ntmps21;go_wp2_with fail;obtain ⟨W,hW⟩:=ax (w.alloc (.cells #[.int .u64 e,.int .u64 g,.int .u64 x,.int .i64 t,.slice p n c,.slice q m d] 35));have sw:js W w.heap.size e g x t (.slice p n c) (.slice q m d):=by rw [hW];simp [js]
 rw [<-hW] at b1 ⊢;clear hW;have BW:=ae b1;have Ol:=ae sw;clear b1 sw;clear h0 h1 h2 h3 h4 h5 h6 q0 q1 q2 q3 q4 q5 q6
 go_loopw [3] (fun iv wr=>∃ k:Nat,k<=n/\iv=.int .i64 k/\Hid ((List.range k).all (jX x ss)=true)/\Below W.heap.size W wr) (fun iv _=>n-(intOf iv).toNat)
 case atStart=>exact ⟨0,Nat.zero_le _,rfl,(by show _=_;rfl),Below.refl _ _⟩
 case round =>(
 obtain ⟨k,hk,rfl,ic,aE⟩:=hrel;have BB:=ai BW aE;obtain ⟨i0,i1,i2,i3,i4,i5⟩:=Ol.below aE;by_cases aU:k<n;{
 have aV:(k:Int)<(n:Int):=by omega
 obtain ⟨T,eT⟩:=aZ (jX x ss k);have ET:=ae eT;go_wp2_with fail;refine (tm e g x t p c n k _ ss en _ (aa HR _ BB).1 hn aU sR T ET).mono ?_;rintro r w2 ⟨rfl,aG⟩;clear i0 i1 i2 i3 i4 i5;cases T with
 | false=>
  have eF:B=false:=by rw [aa rM,dB aU eT];rfl
  subst eF;have b2:=ai BB aG;clear rM eT aG;go_wp2;go_ret;exact ⟨rfl,b2⟩
 | true=>
  have rJ:=ae (bQ ic eT);have b2:=ai aE aG;clear eT aG BB;go_wp2;go_roundw
  case rel=>exact ⟨k+1,by omega,by go_num,rJ,b2⟩
  case measure=>simp [intOf];omega}
 {
 have aV:¬ (k:Int)<(n:Int):=by omega
 have ui:k=n:=by omega
 have qw:Hid (B=(List.range m).all (ja e g ss ns)):=by show _=_;rw [aa rM,show (List.range n).all (jX x ss)=true from ui▸aa ic,Bool.true_and]
 have HC7:=ae (Ol.below aE);clear rM ui ic;go_wp2_with fail;clear i0 i1 i2 i3 i4 i5;obtain ⟨Y,eY⟩:=ax wr;subst eY;have BY:=ae BB;clear BB aE aU aV hk
 go_loopw [4] (fun iv wr=>∃ k:Nat,k<=m/\iv=.int .i64 k/\Hid ((List.range k).all (ja e g ss ns)=true)/\Below Y.heap.size Y wr) (fun iv _=>m-(intOf iv).toNat)
 case atStart=>exact ⟨0,Nat.zero_le _,rfl,(by show _=_;rfl),Below.refl _ _⟩
 case round =>(
 obtain ⟨j,hk,rfl,ic,aE⟩:=hrel;have BB:=ai BY aE;obtain ⟨i0,i1,i2,i3,i4,i5⟩:=HC7.below aE;by_cases aU:j<m;{
 have aV:(j:Int)<(m:Int):=by omega
 obtain ⟨T,eT⟩:=aZ (ja e g ss ns j);have ET:=ae eT;go_wp2_with fail;refine (zt e g x t p q c n d m j ss ns en em _ (aa HR _ BB).1 (aa HR _ BB).2 hn hm aU du T ET).mono ?_;rintro r w2 ⟨rfl,aG⟩;clear i0 i1 i2 i3 i4 i5;cases T with
 | false=>
  have eF:B=false:=by rw [aa qw];exact dB aU eT
  subst eF;have b2:=ai BB aG;clear qw eT aG;go_wp2;go_ret;exact ⟨rfl,b2⟩
 | true=>
  have rJ:=ae (bQ ic eT);have b2:=ai aE aG;clear eT aG BB;go_wp2;go_roundw
  case rel=>exact ⟨j+1,by omega,by go_num,rJ,b2⟩
  case measure=>simp [intOf];omega}
 {
 have aV:¬ (j:Int)<(m:Int):=by omega
 have ekm:j=m:=by omega
 have eT:B=true:=by rw [aa qw,<-ekm];exact aa ic
 subst eT;clear qw ekm ic;go_wp2;go_ret;exact ⟨rfl,BB⟩})})}}}}}}}
def xu (x y:Int):Int:=if x<y then -1 else if y<x then 1 else 0
theorem xR (x:Int) (w:World):Calls prog 140 #[.int .u64 x] w fun e w'=>e=.returned (.bool false)/\w'=w:=by
 go_enter func140,ntmps140;go_wp2;go_ret;refine ⟨?_,rfl⟩;simp
theorem rz (x y:Int) (w:World):Calls prog 115 #[.int .u64 x,.int .u64 y] w fun e w'=>e=.returned (.int .i64 (xu x y))/\w'=w:=by
 obtain ⟨C,eC⟩:=aZ (xu x y);rw [eC];have EC:=ae eC;clear eC;go_enter func115,ntmps115;go_wp2_with fail;refine (xR x w).mono ?_;rintro e w1 ⟨rfl,rfl⟩;go_wp2_with fail;refine (xR y _).mono ?_;rintro e w2 ⟨rfl,rfl⟩;by_cases h1:x<y;{
 have e1:C=-1:=by rw [<-aa EC];rw [xu,if_pos h1]
 subst e1;go_wp2;go_ret;exact ⟨rfl,rfl⟩};{
 by_cases h2:y<x;{
 have e1:C=1:=by rw [<-aa EC];rw [xu,if_neg h1,if_pos h2]
 subst e1;go_wp2;go_ret;exact ⟨rfl,rfl⟩};{
 have e1:C=0:=by rw [<-aa EC];rw [xu,if_neg h1,if_neg h2]
 subst e1;go_wp2;go_ret;exact ⟨rfl,rfl⟩}}
theorem sI (h:Rd w (.slice p l.length c) l):(Extern.Bytes.bytesOf (.slice p l.length c)).run prog w=.ok ⟨(Lib.bytesOf l).toArray⟩ w:=by
 cases p with
 | none=>
  have e:=h.nA;subst e;simp only [Extern.Bytes.bytesOf,Sem.run_pure]
  rfl
 | some a=>
  obtain ⟨n1,n2,n3⟩:=h.news;have:=Lib.run_loadBytesX (P:=prog) w l a .empty (fun j x hj=>n2 j _ (by rw [List.getElem?_map,hj];rfl));simp only [Extern.Bytes.bytesOf];rw [this]
  congr 1
  apply ByteArray.ext;simp
theorem JN {q:Option Addr} {d:Nat} {m:List Int} (h:Rd w (.slice p l.length c) l) (k:Rd w (.slice q m.length d) m) :
  (Extern.BytealgCompare.compare #[.slice p l.length c,.slice q m.length d]).run prog w=.ok (.int .i64 (Lib.compareBytes (Lib.bytesOf l) (Lib.bytesOf m))) w:=by
 change Sem.run prog (do pure (goInt (Extern.BytealgCompare.cmp (<-Extern.Bytes.bytesOf (.slice p l.length c)) (<-Extern.Bytes.bytesOf (.slice q m.length d))))) w=_
 simp only [Sem.run_bind,sI h,sI k,Sem.run_pure,Result.andThen];rw [Lib.cmp_eq]
 rfl
def Mp (l m:List Int):Int:=Lib.compareBytes (Lib.bytesOf l) (Lib.bytesOf m)
theorem Dt:∀ (a b:List UInt8),(0<=Lib.compareBytes a b)=(Op.bytesLess b a=true\/b=a)
 | [],[]=>by simp [Lib.compareBytes]
 | [],_::_=>by simp [Lib.compareBytes,Op.bytesLess]
 | _::_,[]=>by simp [Lib.compareBytes,Op.bytesLess]
 | x::a,y::b=>by
  have ih:=Dt a b;rw [Lib.compareBytes,Op.bytesLess];by_cases h1:x<y;{
 have h2:¬ y<x:=fun h=>UInt8.lt_irrefl _ (UInt8.lt_trans h1 h);have h3:¬ y=x:=fun h=>by subst h;exact UInt8.lt_irrefl _ h1
 simp [h1,h2,h3]};{by_cases h2:y<x;{simp [h1,h2]};{have h3:y=x:=UInt8.le_antisymm (UInt8.not_lt.1 h1) (UInt8.not_lt.1 h2);subst h3;simp only [h1,if_false,ih];simp}}
theorem QN (l m:List Int):decide (0<=Mp l m)=leB m l:=by
 rw [leB,dW,dW,Bool.eq_iff_iff,decide_eq_true_iff,Mp,Dt];simp only [Bool.or_eq_true,beq_iff_eq];exact Iff.rfl
theorem Ay (p q:Option Addr) (c d n k:Nat) (l m:List Int) (el:Hid (l.length=n)) (em:Hid (m.length=k)) (w:World) (h1:Rd w (.slice p n c) l) (h2:Rd w (.slice q k d) m) :
  Calls prog 119 #[.slice p n c,.slice q k d] w fun e w'=>e=.returned (.int .i64 (Mp l m))/\w'=w:=by
 have e1:=aa el;have e2:=aa em;subst e1 e2;go_enter func119,ntmps119;go_wp2;rw [run_callFunc_extern func144 (by kernel_rfl) (by kernel_rfl) (by kernel_rfl) (e:=Extern.BytealgCompare.compare) (by kernel_rfl),JN h1 h2];simp only [Result.andThen];rw [Oper.upon_value];go_wp2;go_ret;exact ⟨rfl,rfl⟩
theorem mZ {P:Program} {ops:Array Oper} {o:Oper} {a:Act} {K:Act->World->Prop} {Q:Exit->Act->World->Prop} {E:Prop} {R:Ending->World->Prop} (kM:o.guard=none) (f:FuncId) (x0 x1 x2:Operand) (Bp:Array TypeId)
  (ho:o.op=.call { callee:=.value x0,args:=#[x1,x2],argTypes:=Bp }) (v1 v2:Value) (h0:a.eval x0=.func (.func f) #[] #[]) (h1:a.eval x1=v1) (h2:a.eval x2=v2) (rQ:∀ vs,(callFunc f vs).run P w=.ok (.enter f vs) w) (hc:Calls P f #[v1,v2] w R) (hR:∀ e w',R e w'->∃ v,e=.returned v/\K (a.put o.dst v) w') :
  if Region.wanted o (yielded ops a.tmps)=true then Oper.wp P o a w K Q else E:=by
 have hw:Region.wanted o (yielded ops a.tmps)=true:=by simp [Region.wanted,kM]
 rw [if_pos hw];have bS:(execOp a.eval o).run P w=.ok (.enter f #[v1,v2]) w:=by subst h1 h2;unfold execOp;simp [ho,resolve,invoke,rQ,h0,Deferred.ofValue,Sem.run_bind,Sem.run_pure,Result.andThen]
 show o.upon P a K Q _;rw [bS,Oper.upon_enter];refine hc.mono ?_;intro e w' h;obtain ⟨v,rfl,hk⟩:=hR e w' h;exact hk
def gM (n:Nat) (lt:Nat->Nat->Bool):Bool:=(List.range n).all fun i=>i==0||lt (i-1) i
theorem FN {f:Nat->Bool} {k n:Nat} (h:(List.range k).all f=true) (hn:n<=k):(List.range n).all f=true:=by
 rw [List.all_eq_true] at h ⊢;exact fun i hi=>h i (List.mem_range.2 (Nat.lt_of_lt_of_le (List.mem_range.1 hi) hn))
theorem QO (i1 d1 i2 d2:Int) (q1 q2:Value) (w:World):Calls prog 114 #[.agg #[.int .u64 i1,.int .i64 d1,q1],.agg #[.int .u64 i2,.int .i64 d2,q2]] w fun e w'=>e=.returned (.int .i64 (xu i1 i2))/\Below w.heap.size w w':=by
 go_enter func114,ntmps114;go_wp2_with fail;refine (rz i1 i2 _).mono ?_;rintro e w1 ⟨rfl,rfl⟩;go_wp2;go_ret;exact ⟨rfl,(ar.alloc ay _).alloc (by simp) _⟩
theorem QP (p1 p2:Option Addr) (c1 c2 n1 n2:Nat) (l1 l2:List Int) (e1:Hid (l1.length=n1)) (e2:Hid (l2.length=n2)) (V1 V2 H1 H2 U1 U2:Value) (o1 o2 m1 m2 x1 x2 g1 g2:Int) (w:World) (h1:Rd w (.slice p1 n1 c1) l1) (h2:Rd w (.slice p2 n2 c2) l2) :
  Calls prog 118 #[Ey (.slice p1 n1 c1) V1 o1 m1 H1 x1 g1 U1,Ey (.slice p2 n2 c2) V2 o2 m2 H2 x2 g2 U2] w fun e w'=>e=.returned (.int .i64 (Mp l1 l2))/\Below w.heap.size w w':=by
 have HR:=ae fun (w':World) (hb:Below w.heap.size w w')=>ag (h1.below hb) (h2.below hb);go_enter func118,ntmps118;go_wp2_with fail;have b1:Below w.heap.size w ((w.alloc (.cells #[.slice p1 n1 c1,V1,.int .u64 o1,.int .i64 m1,H1,.int .u64 x1,.int .u64 g1,U1] 103)).alloc (.cells #[.slice p2 n2 c2,V2,.int .u64 o2,.int .i64 m2,H2,.int .u64 x2,.int .u64 g2,U2] 103)):=(ar.alloc ay _).alloc (by simp) _;refine (Ay p1 p2 c1 c2 n1 n2 l1 l2 e1 e2 _ (aa HR _ b1).1 (aa HR _ b1).2).mono ?_;rintro e w1 ⟨rfl,rfl⟩;go_wp2;go_ret;exact ⟨rfl,b1⟩
theorem DC (p:Option Addr) (c n:Nat) (l:List Int) (en:Hid (l.length=n)) (w:World) (h:iA w (.slice p n c) l) (hn:n<=1048576) (B:Bool) (eB:Hid (gM n (fun i j=>decide (l.getD i 0<l.getD j 0))=B)) :
  Calls prog 143 #[.slice p n c,.func (.func 115) #[] #[]] w fun r w'=>r=.returned (.bool B)/\Below w.heap.size w w':=by
 have HR:=ae fun (w':World) (hb:Below w.heap.size w w')=>h.below hb;have rQ:∀ (vs:Array Value) (w:World),(callFunc 115 vs).run prog w=.ok (.enter 115 vs) w:=fun vs w=>by kernel_rfl
 have te:=ae rQ;go_enter func143,ntmps143;go_wp2_with fail
 go_loopw [5] (fun iv wr=>∃ k:Nat,1<=k/\(k<=n\/k=1)/\iv=.int .i64 k/\Hid ((List.range k).all (fun i=>i==0||(fun i j=>decide (l.getD i 0<l.getD j 0)) (i-1) i)=true)/\Below w.heap.size w wr) (fun iv _=>n-(intOf iv).toNat)
 case atStart=>exact ⟨1,Nat.le_refl _,.inr rfl,rfl,(by show _=_;rfl),Below.refl _ _⟩
 case round =>(
 obtain ⟨k,oo,Jg,rfl,ic,aE⟩:=hrel;by_cases aU:k<n;{
 have aV:(k:Int)<(n:Int):=by omega
 have bH:k<l.length:=by rw [aa en];exact aU
 obtain ⟨j,ej⟩:∃ j:Nat,(k:Int)-1=(j:Int):=⟨k-1,by omega⟩;have AY:k-1=j:=by omega
 have tZ:j<l.length:=by omega
 have Sa:(j:Int)<(n:Int):=by omega
 have YR:(0:Int)<=(j:Int):=by omega
 have wj:IntKind.i64.wrap (j:Int)=(j:Int):=IntWalk.i64_in _ (by omega);obtain ⟨b,o,rfl,bD⟩:∃ b o,p=some ⟨b,o,none⟩/\∀ i,i<n->wr.cell? ⟨b,o+i,none⟩=some (.int .u64 (l.getD i 0)):=by obtain ⟨p',c',ev,hd⟩:=aa HR _ aE;simp only [Value.slice.injEq] at ev;obtain ⟨rfl,-,-⟩:=ev;rcases hd with h0 | ⟨b,o,h1,h2⟩;{rw [h0] at bH;simp at bH};{exact ⟨b,o,h1,fun i hi=>h2 i (by rw [aa en];exact hi)⟩}
 have sQ:=bD k aU;have Qa:=bD j (by omega);obtain ⟨y,ey⟩:=aZ (l.getD k 0);obtain ⟨z,ez⟩:=aZ (l.getD j 0);rw [ey] at sQ;rw [ez] at Qa;have K0:=ae (ag Qa sQ);obtain ⟨C,eC⟩:=aZ (xu z y);have dE:((k==0)||(fun i j=>decide (l.getD i 0<l.getD j 0)) (k-1) k)=!decide (0<=C):=by rw [show (k==0)=false by simp;omega,Bool.false_or,AY];show decide (l.getD j 0<l.getD k 0)=_;rw [ey,ez,<-eC,xu];by_cases h1:z<y;{simp [h1]};{by_cases h2:y<z;{simp [h1,h2]};{simp [h1,h2]}}
 have hF:decide (0<=C)=true->B=false:=fun h=>by rw [<-aa eB,gM];exact dB aU (by rw [dE,h];rfl)
 have hT:decide (0<=C)=false->Hid ((List.range (k+1)).all (fun i=>i==0||(fun i j=>decide (l.getD i 0<l.getD j 0)) (i-1) i)=true):=fun h=>bQ (aa ic) (by rw [dE,h];rfl);have EC:=ae eC;obtain ⟨D,eD⟩:∃ D,decide (0<=C)=D:=⟨_,rfl⟩;have HF:=ae (fun h:D=true=>hF (eD.trans h));have HT:=ae (fun h:D=false=>hT (eD.trans h));go_wp2_with fail
 go_cut [23] (fun rv wc=>rv=.bool D/\Below w.heap.size w wc)
 case first =>(
 refine wp_region_noPanic ?_;refine wp_region_held_drew (S:=fun w'=>w'.cell? ⟨b,o+j,none⟩=some (.int .u64 z)/\w'.cell? ⟨b,o+k,none⟩=some (.int .u64 y)) (by kernel_rfl) (by exact K0) (fun hS=>?_);refine fL 0 1 2 3 4 5 6 7 hS ?_;refine fq 8 9 hS ?_;refine ry [10] ?_;refine cn (fun KK hK=>?_) ?_;{refine mZ (by rfl) 115 _ _ _ _ (by rfl) (.int .u64 z) (.int .u64 y) (by rfl) (by rfl) (by rfl) (fun _=>aa te _ _) (rz z y _) ?_;rintro r w2 ⟨rfl,rfl⟩;refine ⟨_,rfl,?_⟩;have bu:Below wr.heap.size wr wr.drew:=ar.drew;rw [aa EC];refine bM hK hS fun hS=>?_;refine tn 11 hS ?_;refine wpAnyH_done (by kernel_rfl) ?_ _;refine bc ?_;go_wp2_with fail;go_meet;exact ⟨rfl,ai aE bu⟩};exact AllReadyH.nil)
 obtain ⟨rfl,xn⟩:=hcut;cases D with
 | true=>
  have eF:=aa HF rfl;subst eF;go_wp2;go_ret;exact ⟨rfl,xn⟩
 | false=>
  have rJ:=aa HT rfl;go_wp2;go_roundw
  case rel=>exact ⟨k+1,by omega,.inl (by omega),by go_num,rJ,xn⟩
  case measure=>simp [intOf];omega}
 {
 have aV:¬ (k:Int)<(n:Int):=by omega
 have eT:B=true:=by rw [<-aa eB,gM];exact FN ic (by omega)
 subst eT;go_wp2;go_ret;exact ⟨rfl,aE⟩})
theorem MT (p:Option Addr) (c n:Nat) (l:List aR) (en:Hid (l.length=n)) (w:World) (h:nR w (.slice p n c) l) (hn:n<=1048576) (B:Bool) (eB:Hid (gM n (fun i j=>decide ((l.getD i (0,0,[])).1<(l.getD j (0,0,[])).1))=B)) :
  Calls prog 113 #[.slice p n c,.func (.func 114) #[] #[]] w fun r w'=>r=.returned (.bool B)/\Below w.heap.size w w':=by
 have HR:=ae fun (w':World) (hb:Below w.heap.size w w')=>h.below hb;have rQ:∀ (vs:Array Value) (w:World),(callFunc 114 vs).run prog w=.ok (.enter 114 vs) w:=fun vs w=>by kernel_rfl
 have te:=ae rQ;go_enter func113,ntmps113;go_wp2_with fail
 go_loopw [5] (fun iv wr=>∃ k:Nat,1<=k/\(k<=n\/k=1)/\iv=.int .i64 k/\Hid ((List.range k).all (fun i=>i==0||(fun i j=>decide ((l.getD i (0,0,[])).1<(l.getD j (0,0,[])).1)) (i-1) i)=true)/\Below w.heap.size w wr) (fun iv _=>n-(intOf iv).toNat)
 case atStart=>exact ⟨1,Nat.le_refl _,.inr rfl,rfl,(by show _=_;rfl),Below.refl _ _⟩
 case round =>(
 obtain ⟨k,oo,Jg,rfl,ic,aE⟩:=hrel;by_cases aU:k<n;{
 have aV:(k:Int)<(n:Int):=by omega
 have bH:k<l.length:=by rw [aa en];exact aU
 obtain ⟨j,ej⟩:∃ j:Nat,(k:Int)-1=(j:Int):=⟨k-1,by omega⟩;have AY:k-1=j:=by omega
 have tZ:j<l.length:=by omega
 have Sa:(j:Int)<(n:Int):=by omega
 have YR:(0:Int)<=(j:Int):=by omega
 have wj:IntKind.i64.wrap (j:Int)=(j:Int):=IntWalk.i64_in _ (by omega);obtain ⟨⟨y,yd,yq⟩,hy⟩:∃ y,l[k]?=some y:=⟨_,aH bH⟩;obtain ⟨⟨z,zd,zq⟩,hz⟩:∃ y,l[j]?=some y:=⟨_,aH tZ⟩;obtain ⟨b,o,rfl,⟨y1,y2,yu,y3,-⟩,z1,z2,zu,z3,-⟩:∃ b o,p=some ⟨b,o,none⟩/\(wr.cell? ⟨b,o+k*3,none⟩=some (.int .u64 y)/\wr.cell? ⟨b,o+k*3+1,none⟩=some (.int .i64 yd)/\∃ u,wr.cell? ⟨b,o+k*3+2,none⟩=some u/\nS wr u yq)/\(wr.cell? ⟨b,o+j*3,none⟩=some (.int .u64 z)/\wr.cell? ⟨b,o+j*3+1,none⟩=some (.int .i64 zd)/\∃ u,wr.cell? ⟨b,o+j*3+2,none⟩=some u/\nS wr u zq):=by obtain ⟨p',c',ev,hd⟩:=aa HR _ aE;simp only [Value.slice.injEq] at ev;obtain ⟨rfl,-,-⟩:=ev;rcases hd with h0 | ⟨b,o,h1,h2⟩;{rw [h0] at bH;simp at bH};{exact ⟨b,o,h1,h2 k _ hy,h2 j _ hz⟩}
 have ey:(l.getD k (0,0,[])).1=y:=by rw [List.getD_eq_getElem?_getD,hy];rfl
 have ez:(l.getD j (0,0,[])).1=z:=by rw [List.getD_eq_getElem?_getD,hz];rfl
 have K0:=ae (ag z1 (ag z2 (ag z3 (ag y1 (ag y2 y3)))));obtain ⟨C,eC⟩:=aZ (xu z y);have dE:((k==0)||(fun i j=>decide ((l.getD i (0,0,[])).1<(l.getD j (0,0,[])).1)) (k-1) k)=!decide (0<=C):=by rw [show (k==0)=false by simp;omega,Bool.false_or,AY];show decide ((l.getD j (0,0,[])).1<(l.getD k (0,0,[])).1)=_;rw [ey,ez,<-eC,xu];by_cases h1:z<y;{simp [h1]};{by_cases h2:y<z;{simp [h1,h2]};{simp [h1,h2]}}
 have hF:decide (0<=C)=true->B=false:=fun h=>by rw [<-aa eB,gM];exact dB aU (by rw [dE,h];rfl)
 have hT:decide (0<=C)=false->Hid ((List.range (k+1)).all (fun i=>i==0||(fun i j=>decide ((l.getD i (0,0,[])).1<(l.getD j (0,0,[])).1)) (i-1) i)=true):=fun h=>bQ (aa ic) (by rw [dE,h];rfl);have EC:=ae eC;obtain ⟨D,eD⟩:∃ D,decide (0<=C)=D:=⟨_,rfl⟩;have HF:=ae (fun h:D=true=>hF (eD.trans h));have HT:=ae (fun h:D=false=>hT (eD.trans h));go_wp2_with fail
 go_cut [23] (fun rv wc=>rv=.bool D/\Below w.heap.size w wc)
 case first =>(
 refine wp_region_noPanic ?_;refine wp_region_held_drew (S:=fun w'=>w'.cell? ⟨b,o+j*3,none⟩=some (.int .u64 z)/\w'.cell? ⟨b,o+j*3+1,none⟩=some (.int .i64 zd)/\w'.cell? ⟨b,o+j*3+2,none⟩=some zu/\w'.cell? ⟨b,o+k*3,none⟩=some (.int .u64 y)/\w'.cell? ⟨b,o+k*3+1,none⟩=some (.int .i64 yd)/\w'.cell? ⟨b,o+k*3+2,none⟩=some yu) (by kernel_rfl) (by exact K0) (fun hS=>?_);refine fL 0 1 2 3 4 5 6 7 hS ?_;refine fq 8 9 hS ?_;refine ry [10] ?_;refine cn (fun KK hK=>?_) ?_;{refine mZ (by rfl) 114 _ _ _ _ (by rfl) (.agg #[.int .u64 z,.int .i64 zd,zu]) (.agg #[.int .u64 y,.int .i64 yd,yu]) (by rfl) (by rfl) (by rfl) (fun _=>aa te _ _) (QO z zd y yd zu yu _) ?_;rintro r w2 ⟨rfl,aG⟩;refine ⟨_,rfl,?_⟩;have bu:Below wr.heap.size wr w2:=ai (Below.refl wr.heap.size wr).drew aG;rw [aa EC];refine bM hK (by obtain ⟨k1,k2,k3,k4,k5,k6⟩:=aa K0;exact ⟨af k1 bu,af k2 bu,af k3 bu,af k4 bu,af k5 bu,af k6 bu⟩) fun hS=>?_;refine tn 11 hS ?_;refine wpAnyH_done (by kernel_rfl) ?_ _;refine bc ?_;go_wp2_with fail;go_meet;exact ⟨rfl,ai aE bu⟩};exact AllReadyH.nil)
 obtain ⟨rfl,xn⟩:=hcut;cases D with
 | true=>
  have eF:=aa HF rfl;subst eF;go_wp2;go_ret;exact ⟨rfl,xn⟩
 | false=>
  have rJ:=aa HT rfl;go_wp2;go_roundw
  case rel=>exact ⟨k+1,by omega,.inl (by omega),by go_num,rJ,xn⟩
  case measure=>simp [intOf];omega}
 {
 have aV:¬ (k:Int)<(n:Int):=by omega
 have eT:B=true:=by rw [<-aa eB,gM];exact FN ic (by omega)
 subst eT;go_wp2;go_ret;exact ⟨rfl,aE⟩})
theorem MU (p:Option Addr) (c n:Nat) (l:List aA) (en:Hid (l.length=n)) (w:World) (h:jB w (.slice p n c) l) (hn:n<=1048576) (B:Bool) (eB:Hid (gM n (fun i j=>!leB (l.getD j dQ).path (l.getD i dQ).path)=B)) :
  Calls prog 117 #[.slice p n c,.func (.func 118) #[] #[]] w fun r w'=>r=.returned (.bool B)/\Below w.heap.size w w':=by
 have HR:=ae fun (w':World) (hb:Below w.heap.size w w')=>h.below hb;have rQ:∀ (vs:Array Value) (w:World),(callFunc 118 vs).run prog w=.ok (.enter 118 vs) w:=fun vs w=>by kernel_rfl
 have te:=ae rQ;go_enter func117,ntmps117;go_wp2_with fail
 go_loopw [5] (fun iv wr=>∃ k:Nat,1<=k/\(k<=n\/k=1)/\iv=.int .i64 k/\Hid ((List.range k).all (fun i=>i==0||(fun i j=>!leB (l.getD j dQ).path (l.getD i dQ).path) (i-1) i)=true)/\Below w.heap.size w wr) (fun iv _=>n-(intOf iv).toNat)
 case atStart=>exact ⟨1,Nat.le_refl _,.inr rfl,rfl,(by show _=_;rfl),Below.refl _ _⟩
 case round =>(
 obtain ⟨k,oo,Jg,rfl,ic,aE⟩:=hrel;by_cases aU:k<n;{
 have aV:(k:Int)<(n:Int):=by omega
 have bH:k<l.length:=by rw [aa en];exact aU
 obtain ⟨j,ej⟩:∃ j:Nat,(k:Int)-1=(j:Int):=⟨k-1,by omega⟩;have AY:k-1=j:=by omega
 have tZ:j<l.length:=by omega
 have Sa:(j:Int)<(n:Int):=by omega
 have YR:(0:Int)<=(j:Int):=by omega
 have wj:IntKind.i64.wrap (j:Int)=(j:Int):=IntWalk.i64_in _ (by omega);obtain ⟨Ts,hy⟩:∃ y,l[k]?=some y:=⟨_,aH bH⟩;obtain ⟨Tq,hz⟩:∃ y,l[j]?=some y:=⟨_,aH tZ⟩;obtain ⟨b,o,rfl,hA⟩:=(aa HR _ aE).at (by omega);obtain ⟨yP,yV,yH,yU,ny⟩:=hA k _ hy;obtain ⟨zP,zV,zH,zU,nz⟩:=hA j _ hz;have ey:(l.getD k dQ).path=Ts.path:=by rw [List.getD_eq_getElem?_getD,hy];rfl
 have ez:(l.getD j dQ).path=Tq.path:=by rw [List.getD_eq_getElem?_getD,hz];rfl
 obtain ⟨yp,yc,yn,rfl,eyn⟩:=ny.r0.ed;obtain ⟨zp,zc,zn,rfl,ezn⟩:=nz.r0.ed;have RY:=ae ny.r0;have RZ:=ae nz.r0;obtain ⟨y0,y1,y2,y3,y4,y5,y6,y7,-,-,-,-,-⟩:=ny;obtain ⟨z0,z1,z2,z3,z4,z5,z6,z7,-,-,-,-,-⟩:=nz;obtain ⟨yo,ym,ye,yg,e1,e2,e3,e4⟩:∃ a b c d,Ts.owner=a/\Ts.mode=b/\Ts.aC=c/\Ts.gen=d:=⟨_,_,_,_,rfl,rfl,rfl,rfl⟩;obtain ⟨zo,zm,ze,zg,f1,f2,f3,f4⟩:∃ a b c d,Tq.owner=a/\Tq.mode=b/\Tq.aC=c/\Tq.gen=d:=⟨_,_,_,_,rfl,rfl,rfl,rfl⟩;rw [e1] at y2;rw [e2] at y3;rw [e3] at y5;rw [e4] at y6;rw [f1] at z2;rw [f2] at z3;rw [f3] at z5;rw [f4] at z6;have K0:=ae (ag z0 (ag z1 (ag z2 (ag z3 (ag z4 (ag z5 (ag z6 (ag z7 (ag y0 (ag y1 (ag y2 (ag y3 (ag y4 (ag y5 (ag y6 y7)))))))))))))));obtain ⟨C,eC⟩:=aZ (Mp Tq.path Ts.path);have dE:((k==0)||(fun i j=>!leB (l.getD j dQ).path (l.getD i dQ).path) (k-1) k)=!decide (0<=C):=by rw [show (k==0)=false by simp;omega,Bool.false_or,AY];show (!leB (l.getD k dQ).path (l.getD j dQ).path)=_;rw [ey,ez,<-eC,QN]
 have hF:decide (0<=C)=true->B=false:=fun h=>by rw [<-aa eB,gM];exact dB aU (by rw [dE,h];rfl)
 have hT:decide (0<=C)=false->Hid ((List.range (k+1)).all (fun i=>i==0||(fun i j=>!leB (l.getD j dQ).path (l.getD i dQ).path) (i-1) i)=true):=fun h=>bQ (aa ic) (by rw [dE,h];rfl);have EC:=ae eC;obtain ⟨D,eD⟩:∃ D,decide (0<=C)=D:=⟨_,rfl⟩;have HF:=ae (fun h:D=true=>hF (eD.trans h));have HT:=ae (fun h:D=false=>hT (eD.trans h));go_wp2_with fail
 go_cut [23] (fun rv wc=>rv=.bool D/\Below w.heap.size w wc)
 case first =>(
 refine wp_region_noPanic ?_;refine wp_region_held_drew (S:=fun w'=>w'.cell? ⟨b,o+j*8,none⟩=some (.slice zp zn zc)/\w'.cell? ⟨b,o+j*8+1,none⟩=some zV/\w'.cell? ⟨b,o+j*8+2,none⟩=some (.int .u64 zo)/\w'.cell? ⟨b,o+j*8+3,none⟩=some (.int .i64 zm)/\w'.cell? ⟨b,o+j*8+4,none⟩=some zH/\w'.cell? ⟨b,o+j*8+5,none⟩=some (.int .u64 ze)/\w'.cell? ⟨b,o+j*8+6,none⟩=some (.int .u64 zg)/\w'.cell? ⟨b,o+j*8+7,none⟩=some zU/\w'.cell? ⟨b,o+k*8,none⟩=some (.slice yp yn yc)/\w'.cell? ⟨b,o+k*8+1,none⟩=some yV/\w'.cell? ⟨b,o+k*8+2,none⟩=some (.int .u64 yo)/\w'.cell? ⟨b,o+k*8+3,none⟩=some (.int .i64 ym)/\w'.cell? ⟨b,o+k*8+4,none⟩=some yH/\w'.cell? ⟨b,o+k*8+5,none⟩=some (.int .u64 ye)/\w'.cell? ⟨b,o+k*8+6,none⟩=some (.int .u64 yg)/\w'.cell? ⟨b,o+k*8+7,none⟩=some yU) (by kernel_rfl) (by exact K0) (fun hS=>?_);refine fL 0 1 2 3 4 5 6 7 hS ?_;refine fq 8 9 hS ?_;refine ry [10] ?_;refine cn (fun KK hK=>?_) ?_;{refine mZ (by rfl) 118 _ _ _ _ (by rfl) (Ey (.slice zp zn zc) zV zo zm zH ze zg zU) (Ey (.slice yp yn yc) yV yo ym yH ye yg yU) (by rfl) (by rfl) (by rfl) (fun _=>aa te _ _) (QP zp yp zc yc zn yn Tq.path Ts.path ezn eyn zV yV zH yH zU yU zo yo zm ym ze ye zg yg _ (RZ.below ar.drew) (RY.below ar.drew)) ?_;rintro r w2 ⟨rfl,aG⟩;refine ⟨_,rfl,?_⟩;have bu:Below wr.heap.size wr w2:=ai (Below.refl wr.heap.size wr).drew aG;rw [aa EC];refine bM hK (by obtain ⟨k0,k1,k2,k3,k4,k5,k6,k7,k8,k9,k10,k11,k12,k13,k14,k15⟩:=aa K0;exact ⟨af k0 bu,af k1 bu,af k2 bu,af k3 bu,af k4 bu,af k5 bu,af k6 bu,af k7 bu,af k8 bu,af k9 bu,af k10 bu,af k11 bu,af k12 bu,af k13 bu,af k14 bu,af k15 bu⟩) fun hS=>?_;refine tn 11 hS ?_;refine wpAnyH_done (by kernel_rfl) ?_ _;refine bc ?_;go_wp2_with fail;go_meet;exact ⟨rfl,ai aE bu⟩};exact AllReadyH.nil)
 obtain ⟨rfl,xn⟩:=hcut;cases D with
 | true=>
  have eF:=aa HF rfl;subst eF;go_wp2;go_ret;exact ⟨rfl,xn⟩
 | false=>
  have rJ:=aa HT rfl;go_wp2;go_roundw
  case rel=>exact ⟨k+1,by omega,.inl (by omega),by go_num,rJ,xn⟩
  case measure=>simp [intOf];omega}
 {
 have aV:¬ (k:Int)<(n:Int):=by omega
 have eT:B=true:=by rw [<-aa eB,gM];exact FN ic (by omega)
 subst eT;go_wp2;go_ret;exact ⟨rfl,aE⟩})
end Go.Proofs.YtmfjiolopcbcmaaGreatDoor
