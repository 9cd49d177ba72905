import Derived.Test.YtcfcafeciggjeaaGreatDoorVS8
import Derived.Test.YtcfcafeciggjeaaGreatDoorK10
import Derived.Lib.BytesEntry
import Derived.Laws.Externs
namespace Go.Proofs.YtcfcafeciggjeaaGreatDoor
set_option maxHeartbeats 1600000
set_option linter.unusedVariables false
set_option linter.unusedSimpArgs false
set_option maxRecDepth 100000
open Go.ChangeShapes Go.WideShapes Go.ChangeAt Go.RowKit Go.Proofs.Tryz
variable {c:Nat} {es:List Ev} {l:List Int} {p:Option Addr} {ss:List aL} {v:Value} {w w':World}
def jl (e g x t:Int) (ss:List aL) (ns:List aA):Bool:=
 decide (e<=4611686018427387904/\g<=4611686018427387904/\x<=4611686018427387904/\0<=t/\t<=1000000/\ss.length<=50/\ns.length<=200)&&((List.range ss.length).all (gU x ss)&&(List.range ns.length).all (gq e g ss ns))
theorem Oc (e g x t:Int) (p q:Option Addr) (c n d m:Nat) (ss:List aL) (ns:List aA) (en:Hid (ss.length=n)) (em:Hid (ns.length=m)) (w:World) (h:IS w (.slice p n c) ss) (hN:mi w (.slice q m d) ns) (hn:n<=1048576) (hm:m<=1048576)
  (yG:Hid (∀ s∈ss,s.2.2.length<=1048576/\∀ e∈s.2.2,bQ e.2/\e.2.length<=1048576))
  (fK:Hid (∀ nd∈ns,bQ nd.path/\nd.path.length<=1048576/\nd.value.length<=1048576/\nd.holders.length<=1048576/\nd.watchers.length<=1048576)) (B:Bool) (eB:Hid (jl e g x t ss ns=B)) :
  Calls prog 9 #[cK e g x t (.slice p n c) (.slice q m d)] w fun r w'=>r=.returned (.bool B)/\Below w.heap.size w w':=by
 have HR:=ae fun (w':World) (hb:Below w.heap.size w w')=>ag (h.below hb) (hN.below hb);have b1:Below w.heap.size w (w.alloc (.cells #[.int .u64 e,.int .u64 g,.int .u64 x,.int .i64 t,.slice p n c,.slice q m d] 27)):=ay.alloc ax _;have hB:B=(decide (e<=4611686018427387904/\g<=4611686018427387904/\x<=4611686018427387904/\0<=t/\t<=1000000/\n<=50/\m<=200)&&((List.range n).all (gU x ss)&&(List.range m).all (gq e g ss ns))):=by rw [<-aa eB,jl,aa en,aa em]
 have HB:=ae hB;clear h hN hB eB;by_cases h0:4611686018427387904<e;{
 have eF:B=false:=by rw [aa HB,Bool.and_eq_false_iff];exact .inl (decide_eq_false (fun hh=>by omega))
 subst eF;clear HB;go_enter func9,ntmps9;go_wp2;go_ret;exact ⟨rfl,b1⟩};{
 have q0:e<=4611686018427387904:=by omega
 by_cases h1:4611686018427387904<g;{
 have eF:B=false:=by rw [aa HB,Bool.and_eq_false_iff];exact .inl (decide_eq_false (fun hh=>by omega))
 subst eF;clear HB;go_enter func9,ntmps9;go_wp2;go_ret;exact ⟨rfl,b1⟩};{
 have q1:g<=4611686018427387904:=by omega
 by_cases h2:4611686018427387904<x;{
 have eF:B=false:=by rw [aa HB,Bool.and_eq_false_iff];exact .inl (decide_eq_false (fun hh=>by omega))
 subst eF;clear HB;go_enter func9,ntmps9;go_wp2;go_ret;exact ⟨rfl,b1⟩};{
 have q2:x<=4611686018427387904:=by omega
 by_cases h3:t<0;{
 have eF:B=false:=by rw [aa HB,Bool.and_eq_false_iff];exact .inl (decide_eq_false (fun hh=>by omega))
 subst eF;clear HB;go_enter func9,ntmps9;go_wp2;go_ret;exact ⟨rfl,b1⟩};{
 have q3:0<=t:=by omega
 by_cases h4:1000000<t;{
 have eF:B=false:=by rw [aa HB,Bool.and_eq_false_iff];exact .inl (decide_eq_false (fun hh=>by omega))
 subst eF;clear HB;go_enter func9,ntmps9;go_wp2;go_ret;exact ⟨rfl,b1⟩};{
 have q4:t<=1000000:=by omega
 by_cases h5:(50:Int)<(n:Int);{
 have eF:B=false:=by rw [aa HB,Bool.and_eq_false_iff];exact .inl (decide_eq_false (fun hh=>by omega))
 subst eF;clear HB;go_enter func9,ntmps9;go_wp2;go_ret;exact ⟨rfl,b1⟩};{
 have q5:n<=50:=by omega
 by_cases h6:(200:Int)<(m:Int);{
 have eF:B=false:=by rw [aa HB,Bool.and_eq_false_iff];exact .inl (decide_eq_false (fun hh=>by omega))
 subst eF;clear HB;go_enter func9,ntmps9;go_wp2;go_ret;exact ⟨rfl,b1⟩};{
 have q6:m<=200:=by omega
 have km:Hid (B=((List.range n).all (gU x ss)&&(List.range m).all (gq e g ss ns))):=by show _=_;rw [aa HB,decide_eq_true ⟨q0,q1,q2,q3,q4,q5,q6⟩,Bool.true_and]
 clear HB;go_enter func9,ntmps9;go_wp2_with fail;obtain ⟨W,hW⟩:=ar (w.alloc (.cells #[.int .u64 e,.int .u64 g,.int .u64 x,.int .i64 t,.slice p n c,.slice q m d] 27));have Jg:mh W w.heap.size e g x t (.slice p n c) (.slice q m d):=by rw [hW];simp [mh]
 rw [<-hW] at b1 ⊢;clear hW;have BW:=ae b1;have Jy:=ae Jg;clear b1 Jg;clear h0 h1 h2 h3 h4 h5 h6 q0 q1 q2 q3 q4 q5 q6
 go_loopw [3] (fun iv wr=>∃ k:Nat,k<=n/\iv=.int .i64 k/\Hid ((List.range k).all (gU x ss)=true)/\Below W.heap.size W wr) (fun iv _=>n-(intOf iv).toNat)
 case atStart=>exact ⟨0,Nat.zero_le _,rfl,(by show _=_;rfl),Below.refl _ _⟩
 case round =>(
 obtain ⟨k,hk,rfl,gC,aT⟩:=hrel;have BB:=ai BW aT;obtain ⟨i0,i1,i2,i3,i4,i5⟩:=Jy.below aT;by_cases br:k<n;{
 have bt:(k:Int)<(n:Int):=by omega
 obtain ⟨T,eT⟩:=aN (gU x ss k);have ET:=ae eT;go_wp2_with fail;refine (qX e g x t p c n k _ ss en _ (aa HR _ BB).1 hn br yG T ET).mono ?_;rintro r w2 ⟨rfl,aS⟩;clear i0 i1 i2 i3 i4 i5;cases T with
 | false=>
  have eF:B=false:=by rw [aa km,db br eT];rfl
  subst eF;have b2:=ai BB aS;clear km eT aS;go_wp2;go_ret;exact ⟨rfl,b2⟩
 | true=>
  have pL:=ae (bU gC eT);have b2:=ai aT aS;clear eT aS BB;go_wp2;go_roundw
  case rel=>exact ⟨k+1,by omega,by go_num,pL,b2⟩
  case measure=>simp [intOf];omega}
 {
 have bt:¬ (k:Int)<(n:Int):=by omega
 have xr:k=n:=by omega
 have jy:Hid (B=(List.range m).all (gq e g ss ns)):=by show _=_;rw [aa km,show (List.range n).all (gU x ss)=true from xr▸aa gC,Bool.true_and]
 have HC7:=ae (Jy.below aT);clear km xr gC;go_wp2_with fail;clear i0 i1 i2 i3 i4 i5;obtain ⟨Y,eY⟩:=ar wr;subst eY;have BY:=ae BB;clear BB aT br bt hk
 go_loopw [4] (fun iv wr=>∃ k:Nat,k<=m/\iv=.int .i64 k/\Hid ((List.range k).all (gq e g ss ns)=true)/\Below Y.heap.size Y wr) (fun iv _=>m-(intOf iv).toNat)
 case atStart=>exact ⟨0,Nat.zero_le _,rfl,(by show _=_;rfl),Below.refl _ _⟩
 case round =>(
 obtain ⟨j,hk,rfl,gC,aT⟩:=hrel;have BB:=ai BY aT;obtain ⟨i0,i1,i2,i3,i4,i5⟩:=HC7.below aT;by_cases br:j<m;{
 have bt:(j:Int)<(m:Int):=by omega
 obtain ⟨T,eT⟩:=aN (gq e g ss ns j);have ET:=ae eT;go_wp2_with fail;refine (vV e g x t p q c n d m j ss ns en em _ (aa HR _ BB).1 (aa HR _ BB).2 hn hm br fK T ET).mono ?_;rintro r w2 ⟨rfl,aS⟩;clear i0 i1 i2 i3 i4 i5;cases T with
 | false=>
  have eF:B=false:=by rw [aa jy];exact db br eT
  subst eF;have b2:=ai BB aS;clear jy eT aS;go_wp2;go_ret;exact ⟨rfl,b2⟩
 | true=>
  have pL:=ae (bU gC eT);have b2:=ai aT aS;clear eT aS BB;go_wp2;go_roundw
  case rel=>exact ⟨j+1,by omega,by go_num,pL,b2⟩
  case measure=>simp [intOf];omega}
 {
 have bt:¬ (j:Int)<(m:Int):=by omega
 have XU:j=m:=by omega
 have eT:B=true:=by rw [aa jy,<-XU];exact aa gC
 subst eT;clear jy XU gC;go_wp2;go_ret;exact ⟨rfl,BB⟩})})}}}}}}}
def uI (x y:Int):Int:=if x<y then -1 else if y<x then 1 else 0
theorem u7 (x:Int) (w:World):Calls prog 157 #[.int .u64 x] w fun e w'=>e=.returned (.bool false)/\w'=w:=by
 go_enter func157,ntmps157;go_wp2;go_ret;refine ⟨?_,rfl⟩;simp
theorem pE (x y:Int) (w:World):Calls prog 116 #[.int .u64 x,.int .u64 y] w fun e w'=>e=.returned (.int .i64 (uI x y))/\w'=w:=by
 obtain ⟨C,eC⟩:=aN (uI x y);rw [eC];have EC:=ae eC;clear eC;go_enter func116,ntmps116;go_wp2_with fail;refine (u7 x w).mono ?_;rintro e w1 ⟨rfl,rfl⟩;go_wp2_with fail;refine (u7 y _).mono ?_;rintro e w2 ⟨rfl,rfl⟩;by_cases h1:x<y;{
 have e1:C=-1:=by rw [<-aa EC];rw [uI,if_pos h1]
 subst e1;go_wp2;go_ret;exact ⟨rfl,rfl⟩};{
 by_cases h2:y<x;{
 have e1:C=1:=by rw [<-aa EC];rw [uI,if_neg h1,if_pos h2]
 subst e1;go_wp2;go_ret;exact ⟨rfl,rfl⟩};{
 have e1:C=0:=by rw [<-aa EC];rw [uI,if_neg h1,if_neg h2]
 subst e1;go_wp2;go_ret;exact ⟨rfl,rfl⟩}}
theorem qG (h:Rd w (.slice p l.length c) l):(Extern.Bytes.bytesOf (.slice p l.length c)).run prog w=.ok ⟨(Lib.bytesOf l).toArray⟩ w:=by
 cases p with
 | none=>
  have e:=h.lr;subst e;simp only [Extern.Bytes.bytesOf,Sem.run_pure]
  rfl
 | some a=>
  obtain ⟨n1,n2,n3⟩:=h.news;have:=Lib.run_loadBytesX (P:=prog) w l a .empty (fun j x hj=>n2 j _ (by rw [List.getElem?_map,hj];rfl));simp only [Extern.Bytes.bytesOf];rw [this]
  congr 1
  apply ByteArray.ext;simp
theorem Gf {p q:Option Addr} {d:Nat} {m:List Int} (h:Rd w (.slice p l.length c) l) (k:Rd w (.slice q m.length d) m) :
  (Extern.BytealgCompare.compare #[.slice p l.length c,.slice q m.length d]).run prog w=.ok (.int .i64 (Lib.compareBytes (Lib.bytesOf l) (Lib.bytesOf m))) w:=by
 change Sem.run prog (do pure (goInt (Extern.BytealgCompare.cmp (<-Extern.Bytes.bytesOf (.slice p l.length c)) (<-Extern.Bytes.bytesOf (.slice q m.length d))))) w=_
 simp only [Sem.run_bind,qG h,qG k,Sem.run_pure,Result.andThen];rw [Lib.cmp_eq]
 rfl
def ID (l m:List Int):Int:=Lib.compareBytes (Lib.bytesOf l) (Lib.bytesOf m)
theorem yZ:∀ (a b:List UInt8),(0<=Lib.compareBytes a b)=(Op.bytesLess b a=true\/b=a)
 | [],[]=>by simp [Lib.compareBytes]
 | [],_::_=>by simp [Lib.compareBytes,Op.bytesLess]
 | _::_,[]=>by simp [Lib.compareBytes,Op.bytesLess]
 | x::a,y::b=>by
  have ih:=yZ a b;rw [Lib.compareBytes,Op.bytesLess];by_cases h1:x<y;{
 have h2:¬ y<x:=fun h=>UInt8.lt_irrefl _ (UInt8.lt_trans h1 h);have h3:¬ y=x:=fun h=>by subst h;exact UInt8.lt_irrefl _ h1
 simp [h1,h2,h3]};{by_cases h2:y<x;{simp [h1,h2]};{have h3:y=x:=UInt8.le_antisymm (UInt8.not_lt.1 h1) (UInt8.not_lt.1 h2);subst h3;simp only [h1,if_false,ih];simp}}
theorem LG (l m:List Int):decide (0<=ID l m)=leB m l:=by
 rw [leB,dE,dE,Bool.eq_iff_iff,decide_eq_true_iff,ID,yZ];simp only [Bool.or_eq_true,beq_iff_eq];exact Iff.rfl
theorem xd (p q:Option Addr) (c d n k:Nat) (l m:List Int) (el:Hid (l.length=n)) (em:Hid (m.length=k)) (w:World) (h1:Rd w (.slice p n c) l) (h2:Rd w (.slice q k d) m) :
  Calls prog 120 #[.slice p n c,.slice q k d] w fun e w'=>e=.returned (.int .i64 (ID l m))/\w'=w:=by
 have e1:=aa el;have e2:=aa em;subst e1 e2;go_enter func120,ntmps120;go_wp2;rw [run_callFunc_extern func161 (by kernel_rfl) (by kernel_rfl) (by kernel_rfl) (e:=Extern.BytealgCompare.compare) (by kernel_rfl),Gf h1 h2];simp only [Result.andThen];rw [Oper.upon_value];go_wp2;go_ret;exact ⟨rfl,rfl⟩
theorem la {P:Program} {ops:Array Oper} {o:Oper} {a:Act} {K:Act->World->Prop} {Q:Exit->Act->World->Prop} {E:Prop} {R:Ending->World->Prop} (jw:o.guard=none) (f:FuncId) (x0 x1 x2:Operand) (An:Array TypeId)
  (ho:o.op=.call { callee:=.value x0,args:=#[x1,x2],argTypes:=An }) (v1 v2:Value) (h0:a.eval x0=.func (.func f) #[] #[]) (h1:a.eval x1=v1) (h2:a.eval x2=v2) (sP:∀ vs,(callFunc f vs).run P w=.ok (.enter f vs) w) (hc:Calls P f #[v1,v2] w R) (hR:∀ e w',R e w'->∃ v,e=.returned v/\K (a.put o.dst v) w') :
  if Region.wanted o (yielded ops a.tmps)=true then Oper.wp P o a w K Q else E:=by
 have hw:Region.wanted o (yielded ops a.tmps)=true:=by simp [Region.wanted,jw]
 rw [if_pos hw];have du:(execOp a.eval o).run P w=.ok (.enter f #[v1,v2]) w:=by subst h1 h2;unfold execOp;simp [ho,resolve,invoke,sP,h0,Deferred.ofValue,Sem.run_bind,Sem.run_pure,Result.andThen]
 show o.upon P a K Q _;rw [du,Oper.upon_enter];refine hc.mono ?_;intro e w' h;obtain ⟨v,rfl,hk⟩:=hR e w' h;exact hk
def fU (n:Nat) (lt:Nat->Nat->Bool):Bool:=(List.range n).all fun i=>i==0||lt (i-1) i
theorem BT {f:Nat->Bool} {k n:Nat} (h:(List.range k).all f=true) (hn:n<=k):(List.range n).all f=true:=by
 rw [List.all_eq_true] at h ⊢;exact fun i hi=>h i (List.mem_range.2 (Nat.lt_of_lt_of_le (List.mem_range.1 hi) hn))
theorem LH (i1 d1 i2 d2:Int) (q1 q2:Value) (w:World):Calls prog 115 #[.agg #[.int .u64 i1,.int .i64 d1,q1],.agg #[.int .u64 i2,.int .i64 d2,q2]] w fun e w'=>e=.returned (.int .i64 (uI i1 i2))/\Below w.heap.size w w':=by
 go_enter func115,ntmps115;go_wp2_with fail;refine (pE i1 i2 _).mono ?_;rintro e w1 ⟨rfl,rfl⟩;go_wp2;go_ret;exact ⟨rfl,(ay.alloc ax _).alloc (by simp) _⟩
theorem LI (p1 p2:Option Addr) (c1 c2 n1 n2:Nat) (l1 l2:List Int) (e1:Hid (l1.length=n1)) (e2:Hid (l2.length=n2)) (V1 V2 H1 H2 U1 U2:Value) (o1 o2 m1 m2 x1 x2 g1 g2:Int) (w:World) (h1:Rd w (.slice p1 n1 c1) l1) (h2:Rd w (.slice p2 n2 c2) l2) :
  Calls prog 119 #[Jb (.slice p1 n1 c1) V1 o1 m1 H1 x1 g1 U1,Jb (.slice p2 n2 c2) V2 o2 m2 H2 x2 g2 U2] w fun e w'=>e=.returned (.int .i64 (ID l1 l2))/\Below w.heap.size w w':=by
 have HR:=ae fun (w':World) (hb:Below w.heap.size w w')=>ag (h1.below hb) (h2.below hb);go_enter func119,ntmps119;go_wp2_with fail;have b1:Below w.heap.size w ((w.alloc (.cells #[.slice p1 n1 c1,V1,.int .u64 o1,.int .i64 m1,H1,.int .u64 x1,.int .u64 g1,U1] 38)).alloc (.cells #[.slice p2 n2 c2,V2,.int .u64 o2,.int .i64 m2,H2,.int .u64 x2,.int .u64 g2,U2] 38)):=(ay.alloc ax _).alloc (by simp) _;refine (xd p1 p2 c1 c2 n1 n2 l1 l2 e1 e2 _ (aa HR _ b1).1 (aa HR _ b1).2).mono ?_;rintro e w1 ⟨rfl,rfl⟩;go_wp2;go_ret;exact ⟨rfl,b1⟩
theorem zh (p:Option Addr) (c n:Nat) (l:List Int) (en:Hid (l.length=n)) (w:World) (h:kL w (.slice p n c) l) (hn:n<=1048576) (B:Bool) (eB:Hid (fU n (fun i j=>decide (l.getD i 0<l.getD j 0))=B)) :
  Calls prog 160 #[.slice p n c,.func (.func 116) #[] #[]] w fun r w'=>r=.returned (.bool B)/\Below w.heap.size w w':=by
 have HR:=ae fun (w':World) (hb:Below w.heap.size w w')=>h.below hb;have sP:∀ (vs:Array Value) (w:World),(callFunc 116 vs).run prog w=.ok (.enter 116 vs) w:=fun vs w=>by kernel_rfl
 have Mh:=ae sP;go_enter func160,ntmps160;go_wp2_with fail
 go_loopw [5] (fun iv wr=>∃ k:Nat,1<=k/\(k<=n\/k=1)/\iv=.int .i64 k/\Hid ((List.range k).all (fun i=>i==0||(fun i j=>decide (l.getD i 0<l.getD j 0)) (i-1) i)=true)/\Below w.heap.size w wr) (fun iv _=>n-(intOf iv).toNat)
 case atStart=>exact ⟨1,Nat.le_refl _,.inr rfl,rfl,(by show _=_;rfl),Below.refl _ _⟩
 case round =>(
 obtain ⟨k,oe,MI,rfl,gC,aT⟩:=hrel;by_cases br:k<n;{
 have bt:(k:Int)<(n:Int):=by omega
 have dT:k<l.length:=by rw [aa en];exact br
 obtain ⟨j,ej⟩:∃ j:Nat,(k:Int)-1=(j:Int):=⟨k-1,by omega⟩;have By:k-1=j:=by omega
 have wu:j<l.length:=by omega
 have Ph:(j:Int)<(n:Int):=by omega
 have Un:(0:Int)<=(j:Int):=by omega
 have wj:IntKind.i64.wrap (j:Int)=(j:Int):=IntWalk.i64_in _ (by omega);obtain ⟨b,o,rfl,bE⟩:∃ b o,p=some ⟨b,o,none⟩/\∀ i,i<n->wr.cell? ⟨b,o+i,none⟩=some (.int .u64 (l.getD i 0)):=by obtain ⟨p',c',ev,hd⟩:=aa HR _ aT;simp only [Value.slice.injEq] at ev;obtain ⟨rfl,-,-⟩:=ev;rcases hd with h0 | ⟨b,o,h1,h2⟩;{rw [h0] at dT;simp at dT};{exact ⟨b,o,h1,fun i hi=>h2 i (by rw [aa en];exact hi)⟩}
 have uz:=bE k br;have MQ:=bE j (by omega);obtain ⟨y,ey⟩:=aN (l.getD k 0);obtain ⟨z,ez⟩:=aN (l.getD j 0);rw [ey] at uz;rw [ez] at MQ;have K0:=ae (ag MQ uz);obtain ⟨C,eC⟩:=aN (uI z y);have fo:((k==0)||(fun i j=>decide (l.getD i 0<l.getD j 0)) (k-1) k)=!decide (0<=C):=by rw [show (k==0)=false by simp;omega,Bool.false_or,By];show decide (l.getD j 0<l.getD k 0)=_;rw [ey,ez,<-eC,uI];by_cases h1:z<y;{simp [h1]};{by_cases h2:y<z;{simp [h1,h2]};{simp [h1,h2]}}
 have hF:decide (0<=C)=true->B=false:=fun h=>by rw [<-aa eB,fU];exact db br (by rw [fo,h];rfl)
 have hT:decide (0<=C)=false->Hid ((List.range (k+1)).all (fun i=>i==0||(fun i j=>decide (l.getD i 0<l.getD j 0)) (i-1) i)=true):=fun h=>bU (aa gC) (by rw [fo,h];rfl);have EC:=ae eC;obtain ⟨D,eD⟩:∃ D,decide (0<=C)=D:=⟨_,rfl⟩;have HF:=ae (fun h:D=true=>hF (eD.trans h));have HT:=ae (fun h:D=false=>hT (eD.trans h));go_wp2_with fail
 go_cut [23] (fun rv wc=>rv=.bool D/\Below w.heap.size w wc)
 case first =>(
 refine wp_region_noPanic ?_;refine wp_region_held_drew (S:=fun w'=>w'.cell? ⟨b,o+j,none⟩=some (.int .u64 z)/\w'.cell? ⟨b,o+k,none⟩=some (.int .u64 y)) (by kernel_rfl) (by exact K0) (fun hS=>?_);refine gj 0 1 2 3 4 5 6 7 hS ?_;refine dQ 8 9 hS ?_;refine ry [10] ?_;refine cn (fun KK hK=>?_) ?_;{refine la (by rfl) 116 _ _ _ _ (by rfl) (.int .u64 z) (.int .u64 y) (by rfl) (by rfl) (by rfl) (fun _=>aa Mh _ _) (pE z y _) ?_;rintro r w2 ⟨rfl,rfl⟩;refine ⟨_,rfl,?_⟩;have cL:Below wr.heap.size wr wr.drew:=ay.drew;rw [aa EC];refine bm hK hS fun hS=>?_;refine tn 11 hS ?_;refine wpAnyH_done (by kernel_rfl) ?_ _;refine aX ?_;go_wp2_with fail;go_meet;exact ⟨rfl,ai aT cL⟩};exact AllReadyH.nil)
 obtain ⟨rfl,uB⟩:=hcut;cases D with
 | true=>
  have eF:=aa HF rfl;subst eF;go_wp2;go_ret;exact ⟨rfl,uB⟩
 | false=>
  have pL:=aa HT rfl;go_wp2;go_roundw
  case rel=>exact ⟨k+1,by omega,.inl (by omega),by go_num,pL,uB⟩
  case measure=>simp [intOf];omega}
 {
 have bt:¬ (k:Int)<(n:Int):=by omega
 have eT:B=true:=by rw [<-aa eB,fU];exact BT gC (by omega)
 subst eT;go_wp2;go_ret;exact ⟨rfl,aT⟩})
theorem IK (p:Option Addr) (c n:Nat) (l:List aL) (en:Hid (l.length=n)) (w:World) (h:IS w (.slice p n c) l) (hn:n<=1048576) (B:Bool) (eB:Hid (fU n (fun i j=>decide ((l.getD i (0,0,[])).1<(l.getD j (0,0,[])).1))=B)) :
  Calls prog 114 #[.slice p n c,.func (.func 115) #[] #[]] w fun r w'=>r=.returned (.bool B)/\Below w.heap.size w w':=by
 have HR:=ae fun (w':World) (hb:Below w.heap.size w w')=>h.below hb;have sP:∀ (vs:Array Value) (w:World),(callFunc 115 vs).run prog w=.ok (.enter 115 vs) w:=fun vs w=>by kernel_rfl
 have Mh:=ae sP;go_enter func114,ntmps114;go_wp2_with fail
 go_loopw [5] (fun iv wr=>∃ k:Nat,1<=k/\(k<=n\/k=1)/\iv=.int .i64 k/\Hid ((List.range k).all (fun i=>i==0||(fun i j=>decide ((l.getD i (0,0,[])).1<(l.getD j (0,0,[])).1)) (i-1) i)=true)/\Below w.heap.size w wr) (fun iv _=>n-(intOf iv).toNat)
 case atStart=>exact ⟨1,Nat.le_refl _,.inr rfl,rfl,(by show _=_;rfl),Below.refl _ _⟩
 case round =>(
 obtain ⟨k,oe,MI,rfl,gC,aT⟩:=hrel;by_cases br:k<n;{
 have bt:(k:Int)<(n:Int):=by omega
 have dT:k<l.length:=by rw [aa en];exact br
 obtain ⟨j,ej⟩:∃ j:Nat,(k:Int)-1=(j:Int):=⟨k-1,by omega⟩;have By:k-1=j:=by omega
 have wu:j<l.length:=by omega
 have Ph:(j:Int)<(n:Int):=by omega
 have Un:(0:Int)<=(j:Int):=by omega
 have wj:IntKind.i64.wrap (j:Int)=(j:Int):=IntWalk.i64_in _ (by omega);obtain ⟨⟨y,yd,yq⟩,hy⟩:∃ y,l[k]?=some y:=⟨_,aE dT⟩;obtain ⟨⟨z,zd,zq⟩,hz⟩:∃ y,l[j]?=some y:=⟨_,aE wu⟩;obtain ⟨b,o,rfl,⟨y1,y2,yu,y3,-⟩,z1,z2,zu,z3,-⟩:∃ b o,p=some ⟨b,o,none⟩/\(wr.cell? ⟨b,o+k*3,none⟩=some (.int .u64 y)/\wr.cell? ⟨b,o+k*3+1,none⟩=some (.int .i64 yd)/\∃ u,wr.cell? ⟨b,o+k*3+2,none⟩=some u/\L5 wr u yq)/\(wr.cell? ⟨b,o+j*3,none⟩=some (.int .u64 z)/\wr.cell? ⟨b,o+j*3+1,none⟩=some (.int .i64 zd)/\∃ u,wr.cell? ⟨b,o+j*3+2,none⟩=some u/\L5 wr u zq):=by obtain ⟨p',c',ev,hd⟩:=aa HR _ aT;simp only [Value.slice.injEq] at ev;obtain ⟨rfl,-,-⟩:=ev;rcases hd with h0 | ⟨b,o,h1,h2⟩;{rw [h0] at dT;simp at dT};{exact ⟨b,o,h1,h2 k _ hy,h2 j _ hz⟩}
 have ey:(l.getD k (0,0,[])).1=y:=by rw [List.getD_eq_getElem?_getD,hy];rfl
 have ez:(l.getD j (0,0,[])).1=z:=by rw [List.getD_eq_getElem?_getD,hz];rfl
 have K0:=ae (ag z1 (ag z2 (ag z3 (ag y1 (ag y2 y3)))));obtain ⟨C,eC⟩:=aN (uI z y);have fo:((k==0)||(fun i j=>decide ((l.getD i (0,0,[])).1<(l.getD j (0,0,[])).1)) (k-1) k)=!decide (0<=C):=by rw [show (k==0)=false by simp;omega,Bool.false_or,By];show decide ((l.getD j (0,0,[])).1<(l.getD k (0,0,[])).1)=_;rw [ey,ez,<-eC,uI];by_cases h1:z<y;{simp [h1]};{by_cases h2:y<z;{simp [h1,h2]};{simp [h1,h2]}}
 have hF:decide (0<=C)=true->B=false:=fun h=>by rw [<-aa eB,fU];exact db br (by rw [fo,h];rfl)
 have hT:decide (0<=C)=false->Hid ((List.range (k+1)).all (fun i=>i==0||(fun i j=>decide ((l.getD i (0,0,[])).1<(l.getD j (0,0,[])).1)) (i-1) i)=true):=fun h=>bU (aa gC) (by rw [fo,h];rfl);have EC:=ae eC;obtain ⟨D,eD⟩:∃ D,decide (0<=C)=D:=⟨_,rfl⟩;have HF:=ae (fun h:D=true=>hF (eD.trans h));have HT:=ae (fun h:D=false=>hT (eD.trans h));go_wp2_with fail
 go_cut [23] (fun rv wc=>rv=.bool D/\Below w.heap.size w wc)
 case first =>(
 refine wp_region_noPanic ?_;refine wp_region_held_drew (S:=fun w'=>w'.cell? ⟨b,o+j*3,none⟩=some (.int .u64 z)/\w'.cell? ⟨b,o+j*3+1,none⟩=some (.int .i64 zd)/\w'.cell? ⟨b,o+j*3+2,none⟩=some zu/\w'.cell? ⟨b,o+k*3,none⟩=some (.int .u64 y)/\w'.cell? ⟨b,o+k*3+1,none⟩=some (.int .i64 yd)/\w'.cell? ⟨b,o+k*3+2,none⟩=some yu) (by kernel_rfl) (by exact K0) (fun hS=>?_);refine gj 0 1 2 3 4 5 6 7 hS ?_;refine dQ 8 9 hS ?_;refine ry [10] ?_;refine cn (fun KK hK=>?_) ?_;{refine la (by rfl) 115 _ _ _ _ (by rfl) (.agg #[.int .u64 z,.int .i64 zd,zu]) (.agg #[.int .u64 y,.int .i64 yd,yu]) (by rfl) (by rfl) (by rfl) (fun _=>aa Mh _ _) (LH z zd y yd zu yu _) ?_;rintro r w2 ⟨rfl,aS⟩;refine ⟨_,rfl,?_⟩;have cL:Below wr.heap.size wr w2:=ai (Below.refl wr.heap.size wr).drew aS;rw [aa EC];refine bm hK (by obtain ⟨k1,k2,k3,k4,k5,k6⟩:=aa K0;exact ⟨af k1 cL,af k2 cL,af k3 cL,af k4 cL,af k5 cL,af k6 cL⟩) fun hS=>?_;refine tn 11 hS ?_;refine wpAnyH_done (by kernel_rfl) ?_ _;refine aX ?_;go_wp2_with fail;go_meet;exact ⟨rfl,ai aT cL⟩};exact AllReadyH.nil)
 obtain ⟨rfl,uB⟩:=hcut;cases D with
 | true=>
  have eF:=aa HF rfl;subst eF;go_wp2;go_ret;exact ⟨rfl,uB⟩
 | false=>
  have pL:=aa HT rfl;go_wp2;go_roundw
  case rel=>exact ⟨k+1,by omega,.inl (by omega),by go_num,pL,uB⟩
  case measure=>simp [intOf];omega}
 {
 have bt:¬ (k:Int)<(n:Int):=by omega
 have eT:B=true:=by rw [<-aa eB,fU];exact BT gC (by omega)
 subst eT;go_wp2;go_ret;exact ⟨rfl,aT⟩})
theorem IL (p:Option Addr) (c n:Nat) (l:List aA) (en:Hid (l.length=n)) (w:World) (h:mi w (.slice p n c) l) (hn:n<=1048576) (B:Bool) (eB:Hid (fU n (fun i j=>!leB (l.getD j dH).path (l.getD i dH).path)=B)) :
  Calls prog 118 #[.slice p n c,.func (.func 119) #[] #[]] w fun r w'=>r=.returned (.bool B)/\Below w.heap.size w w':=by
 have HR:=ae fun (w':World) (hb:Below w.heap.size w w')=>h.below hb;have sP:∀ (vs:Array Value) (w:World),(callFunc 119 vs).run prog w=.ok (.enter 119 vs) w:=fun vs w=>by kernel_rfl
 have Mh:=ae sP;go_enter func118,ntmps118;go_wp2_with fail
 go_loopw [5] (fun iv wr=>∃ k:Nat,1<=k/\(k<=n\/k=1)/\iv=.int .i64 k/\Hid ((List.range k).all (fun i=>i==0||(fun i j=>!leB (l.getD j dH).path (l.getD i dH).path) (i-1) i)=true)/\Below w.heap.size w wr) (fun iv _=>n-(intOf iv).toNat)
 case atStart=>exact ⟨1,Nat.le_refl _,.inr rfl,rfl,(by show _=_;rfl),Below.refl _ _⟩
 case round =>(
 obtain ⟨k,oe,MI,rfl,gC,aT⟩:=hrel;by_cases br:k<n;{
 have bt:(k:Int)<(n:Int):=by omega
 have dT:k<l.length:=by rw [aa en];exact br
 obtain ⟨j,ej⟩:∃ j:Nat,(k:Int)-1=(j:Int):=⟨k-1,by omega⟩;have By:k-1=j:=by omega
 have wu:j<l.length:=by omega
 have Ph:(j:Int)<(n:Int):=by omega
 have Un:(0:Int)<=(j:Int):=by omega
 have wj:IntKind.i64.wrap (j:Int)=(j:Int):=IntWalk.i64_in _ (by omega);obtain ⟨NP,hy⟩:∃ y,l[k]?=some y:=⟨_,aE dT⟩;obtain ⟨NN,hz⟩:∃ y,l[j]?=some y:=⟨_,aE wu⟩;obtain ⟨b,o,rfl,hA⟩:=(aa HR _ aT).at (by omega);obtain ⟨yP,yV,yH,yU,ny⟩:=hA k _ hy;obtain ⟨zP,zV,zH,zU,nz⟩:=hA j _ hz;have ey:(l.getD k dH).path=NP.path:=by rw [List.getD_eq_getElem?_getD,hy];rfl
 have ez:(l.getD j dH).path=NN.path:=by rw [List.getD_eq_getElem?_getD,hz];rfl
 obtain ⟨yp,yc,yn,rfl,eyn⟩:=ny.r0.ew;obtain ⟨zp,zc,zn,rfl,ezn⟩:=nz.r0.ew;have RY:=ae ny.r0;have RZ:=ae nz.r0;obtain ⟨y0,y1,y2,y3,y4,y5,y6,y7,-,-,-,-,-⟩:=ny;obtain ⟨z0,z1,z2,z3,z4,z5,z6,z7,-,-,-,-,-⟩:=nz;obtain ⟨yo,ym,ye,yg,e1,e2,e3,e4⟩:∃ a b c d,NP.owner=a/\NP.mode=b/\NP.aD=c/\NP.gen=d:=⟨_,_,_,_,rfl,rfl,rfl,rfl⟩;obtain ⟨zo,zm,ze,zg,f1,f2,f3,f4⟩:∃ a b c d,NN.owner=a/\NN.mode=b/\NN.aD=c/\NN.gen=d:=⟨_,_,_,_,rfl,rfl,rfl,rfl⟩;rw [e1] at y2;rw [e2] at y3;rw [e3] at y5;rw [e4] at y6;rw [f1] at z2;rw [f2] at z3;rw [f3] at z5;rw [f4] at z6;have K0:=ae (ag z0 (ag z1 (ag z2 (ag z3 (ag z4 (ag z5 (ag z6 (ag z7 (ag y0 (ag y1 (ag y2 (ag y3 (ag y4 (ag y5 (ag y6 y7)))))))))))))));obtain ⟨C,eC⟩:=aN (ID NN.path NP.path);have fo:((k==0)||(fun i j=>!leB (l.getD j dH).path (l.getD i dH).path) (k-1) k)=!decide (0<=C):=by rw [show (k==0)=false by simp;omega,Bool.false_or,By];show (!leB (l.getD k dH).path (l.getD j dH).path)=_;rw [ey,ez,<-eC,LG]
 have hF:decide (0<=C)=true->B=false:=fun h=>by rw [<-aa eB,fU];exact db br (by rw [fo,h];rfl)
 have hT:decide (0<=C)=false->Hid ((List.range (k+1)).all (fun i=>i==0||(fun i j=>!leB (l.getD j dH).path (l.getD i dH).path) (i-1) i)=true):=fun h=>bU (aa gC) (by rw [fo,h];rfl);have EC:=ae eC;obtain ⟨D,eD⟩:∃ D,decide (0<=C)=D:=⟨_,rfl⟩;have HF:=ae (fun h:D=true=>hF (eD.trans h));have HT:=ae (fun h:D=false=>hT (eD.trans h));go_wp2_with fail
 go_cut [23] (fun rv wc=>rv=.bool D/\Below w.heap.size w wc)
 case first =>(
 refine wp_region_noPanic ?_;refine wp_region_held_drew (S:=fun w'=>w'.cell? ⟨b,o+j*8,none⟩=some (.slice zp zn zc)/\w'.cell? ⟨b,o+j*8+1,none⟩=some zV/\w'.cell? ⟨b,o+j*8+2,none⟩=some (.int .u64 zo)/\w'.cell? ⟨b,o+j*8+3,none⟩=some (.int .i64 zm)/\w'.cell? ⟨b,o+j*8+4,none⟩=some zH/\w'.cell? ⟨b,o+j*8+5,none⟩=some (.int .u64 ze)/\w'.cell? ⟨b,o+j*8+6,none⟩=some (.int .u64 zg)/\w'.cell? ⟨b,o+j*8+7,none⟩=some zU/\w'.cell? ⟨b,o+k*8,none⟩=some (.slice yp yn yc)/\w'.cell? ⟨b,o+k*8+1,none⟩=some yV/\w'.cell? ⟨b,o+k*8+2,none⟩=some (.int .u64 yo)/\w'.cell? ⟨b,o+k*8+3,none⟩=some (.int .i64 ym)/\w'.cell? ⟨b,o+k*8+4,none⟩=some yH/\w'.cell? ⟨b,o+k*8+5,none⟩=some (.int .u64 ye)/\w'.cell? ⟨b,o+k*8+6,none⟩=some (.int .u64 yg)/\w'.cell? ⟨b,o+k*8+7,none⟩=some yU) (by kernel_rfl) (by exact K0) (fun hS=>?_);refine gj 0 1 2 3 4 5 6 7 hS ?_;refine dQ 8 9 hS ?_;refine ry [10] ?_;refine cn (fun KK hK=>?_) ?_;{refine la (by rfl) 119 _ _ _ _ (by rfl) (Jb (.slice zp zn zc) zV zo zm zH ze zg zU) (Jb (.slice yp yn yc) yV yo ym yH ye yg yU) (by rfl) (by rfl) (by rfl) (fun _=>aa Mh _ _) (LI zp yp zc yc zn yn NN.path NP.path ezn eyn zV yV zH yH zU yU zo yo zm ym ze ye zg yg _ (RZ.below ay.drew) (RY.below ay.drew)) ?_;rintro r w2 ⟨rfl,aS⟩;refine ⟨_,rfl,?_⟩;have cL:Below wr.heap.size wr w2:=ai (Below.refl wr.heap.size wr).drew aS;rw [aa EC];refine bm hK (by obtain ⟨k0,k1,k2,k3,k4,k5,k6,k7,k8,k9,k10,k11,k12,k13,k14,k15⟩:=aa K0;exact ⟨af k0 cL,af k1 cL,af k2 cL,af k3 cL,af k4 cL,af k5 cL,af k6 cL,af k7 cL,af k8 cL,af k9 cL,af k10 cL,af k11 cL,af k12 cL,af k13 cL,af k14 cL,af k15 cL⟩) fun hS=>?_;refine tn 11 hS ?_;refine wpAnyH_done (by kernel_rfl) ?_ _;refine aX ?_;go_wp2_with fail;go_meet;exact ⟨rfl,ai aT cL⟩};exact AllReadyH.nil)
 obtain ⟨rfl,uB⟩:=hcut;cases D with
 | true=>
  have eF:=aa HF rfl;subst eF;go_wp2;go_ret;exact ⟨rfl,uB⟩
 | false=>
  have pL:=aa HT rfl;go_wp2;go_roundw
  case rel=>exact ⟨k+1,by omega,.inl (by omega),by go_num,pL,uB⟩
  case measure=>simp [intOf];omega}
 {
 have bt:¬ (k:Int)<(n:Int):=by omega
 have eT:B=true:=by rw [<-aa eB,fU];exact BT gC (by omega)
 subst eT;go_wp2;go_ret;exact ⟨rfl,aT⟩})
def iC (w:World) (v:Value) (es:List Ev):Prop:=
 ∃ (p:Option Addr) (c:Nat),v=.slice p es.length c/\(es=[]\/∃ b o,p=some ⟨b,o,none⟩/\∀ i e,es[i]?=some e->w.cell? ⟨b,o+i*2,none⟩=some (.int .i64 e.1)/\∃ u,w.cell? ⟨b,o+i*2+1,none⟩=some u/\Rd w u e.2/\fV u)
theorem iC.rd (h:iC w v es):L5 w v es:=by
 obtain ⟨p,c,rfl,h⟩:=h;refine ⟨p,c,rfl,?_⟩;rcases h with h | ⟨b,o,rfl,h⟩;{exact .inl h};{refine .inr ⟨b,o,rfl,fun i e he=>?_⟩;obtain ⟨h1,u,h2,h3,_⟩:=h i e he;exact ⟨h1,u,h2,h3⟩}
theorem iC.below (h:iC w v es) (hb:Below w.heap.size w w'):iC w' v es:=by
 obtain ⟨p,c,rfl,h⟩:=h;refine ⟨p,c,rfl,?_⟩;rcases h with h | ⟨b,o,rfl,h⟩;{exact .inl h};{refine .inr ⟨b,o,rfl,fun i e he=>?_⟩;obtain ⟨h1,u,h2,h3,h4⟩:=h i e he;exact ⟨af h1 hb,u,af h2 hb,h3.below hb,h4⟩}
def gh (w:World) (v:Value) (ss:List aL):Prop:=
 ∃ (p:Option Addr) (c:Nat),v=.slice p ss.length c/\(ss=[]\/∃ b o,p=some ⟨b,o,none⟩/\∀ i s,ss[i]?=some s->w.cell? ⟨b,o+i*3,none⟩=some (.int .u64 s.1)/\w.cell? ⟨b,o+i*3+1,none⟩=some (.int .i64 s.2.1)/\∃ u,w.cell? ⟨b,o+i*3+2,none⟩=some u/\iC w u s.2.2)
theorem gh.rd (h:gh w v ss):IS w v ss:=by
 obtain ⟨p,c,rfl,h⟩:=h;refine ⟨p,c,rfl,?_⟩;rcases h with h | ⟨b,o,rfl,h⟩;{exact .inl h};{refine .inr ⟨b,o,rfl,fun i e he=>?_⟩;obtain ⟨h1,h2,u,h3,h4⟩:=h i e he;exact ⟨h1,h2,u,h3,h4.rd⟩}
theorem gh.below (h:gh w v ss) (hb:Below w.heap.size w w'):gh w' v ss:=by
 obtain ⟨p,c,rfl,h⟩:=h;refine ⟨p,c,rfl,?_⟩;rcases h with h | ⟨b,o,rfl,h⟩;{exact .inl h};{refine .inr ⟨b,o,rfl,fun i e he=>?_⟩;obtain ⟨h1,h2,u,h3,h4⟩:=h i e he;exact ⟨af h1 hb,af h2 hb,u,af h3 hb,h4.below hb⟩}
def ML (w:World):Prop:=∃ m,w.cell? ⟨2,0,none⟩=some (.int .i64 m)
theorem ML.below (h:ML w) (hb:Below w.heap.size w w'):ML w':=by
 obtain ⟨m,h⟩:=h;exact ⟨m,af h hb⟩
theorem fV.of {n c:Nat} (h:fV (.slice p n c)):n<=c/\c<=maxLen:=by
 obtain ⟨p',n',c',e,h1,h2⟩:=h;simp only [Value.slice.injEq] at e;obtain ⟨rfl,rfl,rfl⟩:=e;exact ⟨h1,h2⟩
theorem xB (K:Int) (pp:Option Addr) (pc m i:Nat) (P:List Int) (em:Hid (P.length=m)) (w:World) (hR:Rd w (.slice pp m pc) P) (hB:Hid (bQ P)) (hm:m<=1048576) (nS:fV (.slice pp m pc)) (xq:ML w) (B:Bool) (eB:Hid (fQ i (K,P)=B)) :
  Calls prog 156 #[.agg #[.int .i64 K,.slice pp m pc],.int .i64 i] w fun r w'=>r=.returned (.bool B)/\Below w.heap.size w w':=by
 obtain ⟨mG,jN⟩:=nS.of;have b1:Below w.heap.size w (w.alloc (.cells #[.int .i64 K,.slice pp m pc] 49)):=ay.alloc ax _;have HR:=ae (hR.below b1);have HM:=ae (xq.below b1);by_cases h7:i=7;{
 subst h7;by_cases h4:K=4;{
 subst h4;by_cases ur:m=0;{
 subst ur;have eT:B=true:=by rw [<-aa eB,fQ,if_pos rfl];simp [aa em]
 subst eT;go_enter func156,ntmps156;go_wp2;go_ret;exact ⟨rfl,b1⟩};{
 have Ue:((m:Int)==0)=false:=by simp;omega
 have eT:B=false:=by rw [<-aa eB,fQ,if_pos rfl];simp [aa em,ur]
 subst eT;go_enter func156,ntmps156;go_wp2;go_ret;exact ⟨rfl,b1⟩}};{
 have XM:(K==4)=false:=by simp [h4]
 have eT:B=false:=by rw [<-aa eB,fQ,if_pos rfl];simp [h4]
 subst eT;go_enter func156,ntmps156;go_wp2;go_ret;exact ⟨rfl,b1⟩}};{
 have h7d:((i:Int)==7)=false:=by simp;omega
 by_cases h1:1<=K;{
 by_cases h3:K<=3;{
 have eV:Hid (vp P=B):=by show _=_;rw [<-aa eB,fQ,if_neg h7];simp [h1,h3]
 go_enter func156,ntmps156;go_wp2_with fail;refine (AX pp pc m P em _ HR hB hm mG jN HM B eV).mono ?_;rintro r w2 ⟨rfl,aS⟩;have b2:=ai b1 aS;go_wp2;go_ret;exact ⟨rfl,b2⟩};{
 have eT:B=false:=by rw [<-aa eB,fQ,if_neg h7];simp [h3]
 subst eT;go_enter func156,ntmps156;go_wp2;go_ret;exact ⟨rfl,b1⟩}};{
 have eT:B=false:=by rw [<-aa eB,fQ,if_neg h7];simp [h1]
 subst eT;go_enter func156,ntmps156;go_wp2;go_ret;exact ⟨rfl,b1⟩}}
def sa (nx:Int) (s:aL):Bool:=decide (1<=s.1)&&(decide (s.1<=nx)&&(decide (0<=s.2.1)&&(decide (s.2.1<=1000015)&&dM s.2.2)))
theorem vK (I D x:Int) (p:Option Addr) (c n:Nat) (Q:List Ev) (en:Hid (Q.length=n)) (w:World) (h:iC w (.slice p n c) Q) (hn:n<=1048576) (fK:Hid (∀ e∈Q,bQ e.2/\e.2.length<=1048576)) (xq:ML w) (B:Bool) (eB:Hid (sa x (I,D,Q)=B)) :
  Calls prog 113 #[.agg #[.int .u64 I,.int .i64 D,.slice p n c],.int .u64 x] w fun r w'=>r=.returned (.bool B)/\Below w.heap.size w w':=by
 have HR:=ae fun (w':World) (hb:Below w.heap.size w w')=>ag (h.below hb) (xq.below hb);have b1:Below w.heap.size w (w.alloc (.cells #[.int .u64 I,.int .i64 D,.slice p n c] 35)):=ay.alloc ax _;have hB:B=(decide (1<=I)&&(decide (I<=x)&&(decide (0<=D)&&(decide (D<=1000015)&&(decide (n<=8)&&(List.range n).all fun i=>fQ i (Q.getD i (0,[]))))))):=by rw [<-aa eB,sa,dM,aa en]
 have HB:=ae hB;clear h xq hB eB;by_cases h1:I<1;{
 have eF:B=false:=by rw [aa HB];simp;omega
 subst eF;clear HB;go_enter func113,ntmps113;go_wp2;go_ret;exact ⟨rfl,b1⟩};{
 by_cases h2:x<I;{
 have eF:B=false:=by rw [aa HB];simp;omega
 subst eF;clear HB;go_enter func113,ntmps113;go_wp2;go_ret;exact ⟨rfl,b1⟩};{
 by_cases h3:D<0;{
 have eF:B=false:=by rw [aa HB];simp;omega
 subst eF;clear HB;go_enter func113,ntmps113;go_wp2;go_ret;exact ⟨rfl,b1⟩};{
 by_cases h4:1000015<D;{
 have eF:B=false:=by rw [aa HB];simp;omega
 subst eF;clear HB;go_enter func113,ntmps113;go_wp2;go_ret;exact ⟨rfl,b1⟩};{
 by_cases h8:(8:Int)<(n:Int);{
 have eF:B=false:=by rw [aa HB];simp;omega
 subst eF;clear HB;go_enter func113,ntmps113;go_wp2;go_ret;exact ⟨rfl,b1⟩};{
 have km:Hid (B=(List.range n).all fun i=>fQ i (Q.getD i (0,[]))):=by show _=_;rw [aa HB];simp only [show decide (1<=I)=true by (rw [decide_eq_true_iff];omega),show decide (I<=x)=true by (rw [decide_eq_true_iff];omega),show decide (0<=D)=true by (rw [decide_eq_true_iff];omega),show decide (D<=1000015)=true by (rw [decide_eq_true_iff];omega),show decide (n<=8)=true by (rw [decide_eq_true_iff];omega),Bool.true_and]
 clear HB;go_enter func113,ntmps113;go_wp2_with fail;clear h1 h2 h3 h4 h8;obtain ⟨W,hW⟩:=ar (w.alloc (.cells #[.int .u64 I,.int .i64 D,.slice p n c] 35));rw [<-hW] at b1 ⊢;clear hW
 go_loopw [35] (fun iv wr=>∃ k:Nat,k<=n/\iv=.int .i64 k/\Hid ((List.range k).all (fun i=>fQ i (Q.getD i (0,[])))=true)/\Below w.heap.size w wr) (fun iv _=>n-(intOf iv).toNat)
 case atStart=>exact ⟨0,Nat.zero_le _,rfl,(by show _=_;rfl),b1⟩
 case round =>(
 obtain ⟨k,hk,rfl,gC,aT⟩:=hrel;by_cases br:k<n;{
 have bt:(k:Int)<(n:Int):=by omega
 have dT:k<Q.length:=by rw [aa en];exact br
 obtain ⟨⟨K,P⟩,hy⟩:∃ y,Q[k]?=some y:=⟨_,aE dT⟩;have xo:Q.getD k (0,[])=(K,P):=by rw [List.getD_eq_getElem?_getD,hy];rfl
 obtain ⟨b,o,rfl,Uw,u,Pt,CH,nS⟩:∃ b o,p=some ⟨b,o,none⟩/\wr.cell? ⟨b,o+k*2,none⟩=some (.int .i64 K)/\∃ u,wr.cell? ⟨b,o+k*2+1,none⟩=some u/\Rd wr u P/\fV u:=by obtain ⟨p',c',ev,hd⟩:=(aa HR _ aT).1;simp only [Value.slice.injEq] at ev;obtain ⟨rfl,-,-⟩:=ev;rcases hd with h0 | ⟨b,o,h1,h2⟩;{rw [h0] at dT;simp at dT};{exact ⟨b,o,h1,h2 k _ hy⟩}
 obtain ⟨Nb,XD⟩:=aa fK _ (aF hy);obtain ⟨pp,pc,m,rfl,em⟩:=CH.ew;have hm:m<=1048576:=by rw [<-aa em];exact XD
 have Fp:Hid (bQ P):=Nb;obtain ⟨V,eV⟩:=aN (fQ k (K,P));have EV:=ae eV;have hF:V=false->B=false:=fun h=>by rw [aa km];exact db br (by rw [xo,eV];exact h)
 have hT:V=true->Hid ((List.range (k+1)).all (fun i=>fQ i (Q.getD i (0,[])))=true):=fun h=>bU (aa gC) (by rw [xo,eV];exact h);have HF:=ae hF;have HT:=ae hT;have b2:Below wr.heap.size wr ((wr.alloc (.cells #[.int .i64 K,.slice pp m pc] 49))):=ay.alloc ax _;have QQ:=ae (CH.below b2);have Wn:=ae ((aa HR _ aT).2.below b2);have ap0:=ae nS;clear dT hy xo Nb XD CH eV hF hT nS;go_wp2_with fail;refine (xB K pp pc m k P em _ (by exact QQ) Fp hm ap0 (by exact Wn) V EV).mono ?_;rintro r w2 ⟨rfl,aS⟩;have b3:=ai aT (ai b2 aS);clear aS b2;cases V with
 | false=>
  have eF:=aa HF rfl;subst eF;go_wp2;go_ret;exact ⟨rfl,b3⟩
 | true=>
  have pL:=aa HT rfl;go_wp2;go_roundw
  case rel=>exact ⟨k+1,by omega,by go_num,pL,b3⟩
  case measure=>simp [intOf];omega}
 {
 have bt:¬ (k:Int)<(n:Int):=by omega
 have eT:B=true:=by
  rw [aa km];have:k=n:=by omega
  rw [<-this];exact gC
 subst eT;go_wp2;go_ret;exact ⟨rfl,aT⟩})}}}}}
end Go.Proofs.YtcfcafeciggjeaaGreatDoor
