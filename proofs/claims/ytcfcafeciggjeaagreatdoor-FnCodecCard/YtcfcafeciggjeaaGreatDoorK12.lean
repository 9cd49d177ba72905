import Derived.Test.YtcfcafeciggjeaaGreatDoorVS8
import Derived.Test.YtcfcafeciggjeaaGreatDoorK11
import Derived.Lib.BytesEntry
import Derived.Laws.Externs
namespace Go.Proofs.YtcfcafeciggjeaaGreatDoor
set_option maxHeartbeats 1600000
set_option linter.all false
set_option maxRecDepth 100000
open Go.ChangeShapes Go.WideShapes Go.ChangeAt Go.RowKit Go.Proofs.Tryz
def jY (e g x t:Int) (ss:List aY) (ns:List aD):Bool:=
 decide (e<=4611686018427387904/\g<=4611686018427387904/\x<=4611686018427387904/\0<=t/\t<=1000000/\ss.length<=50/\ns.length<=200)&&((List.range ss.length).all (jy x ss)&&(List.range ns.length).all (iP e g ss ns))
theorem Az (e g x t:Int) (p q:Option Addr) (c n d m:Nat) (ss:List aY) (ns:List aD) (en:Hid (ss.length=n)) (em:Hid (ns.length=m)) (w:World) (h:RdS w (.S p n c) ss) (hN:kJ w (.S q m d) ns) (hn:n<=1048576) (hm:m<=1048576)
  (nO:Hid (∀ s∈ss,s.2.2.length<=1048576/\∀ e∈s.2.2,bM e.2/\e.2.length<=1048576))
  (fI:Hid (∀ nd∈ns,bM nd.path/\nd.path.length<=1048576/\nd.value.length<=1048576/\nd.holders.length<=1048576/\nd.watchers.length<=1048576)) (B:Bool) (eB:Hid (jY e g x t ss ns=B)) :
  Calls prog 9 #[cY e g x t (.S p n c) (.S q m d)] w fun r w'=>r=.returned (.bool B)/\Bw w w':=by
 have HR:=ae fun (w':World) (hb:Bw w w')=>ag (h.below hb) (hN.below hb);have b1:Bw w (w.alloc (.cells #[.U e,.U g,.U x,.I t,.S p n c,.S q m d] 27)):=aJ.alloc aA _;have hB:B=(decide (e<=4611686018427387904/\g<=4611686018427387904/\x<=4611686018427387904/\0<=t/\t<=1000000/\n<=50/\m<=200)&&((List.range n).all (jy x ss)&&(List.range m).all (iP e g ss ns))):=by rw [<-aa eB,jY,aa en,aa em]
 have HB:=ae hB;clear h hN hB eB;by_cases h0:4611686018427387904<e;{
 have eF:B=false:=by rw [aa HB,Bool.and_eq_false_iff];exact .inl (decide_eq_false (fun hh=>ab))
 subst eF;clear HB;go_enter func9,ntmps9;go_wp2;go_ret;exact ⟨rfl,b1⟩};{
 have q0:e<=4611686018427387904:=ab;by_cases h1:4611686018427387904<g;{
 have eF:B=false:=by rw [aa HB,Bool.and_eq_false_iff];exact .inl (decide_eq_false (fun hh=>ab))
 subst eF;clear HB;go_enter func9,ntmps9;go_wp2;go_ret;exact ⟨rfl,b1⟩};{
 have q1:g<=4611686018427387904:=ab;by_cases h2:4611686018427387904<x;{
 have eF:B=false:=by rw [aa HB,Bool.and_eq_false_iff];exact .inl (decide_eq_false (fun hh=>ab))
 subst eF;clear HB;go_enter func9,ntmps9;go_wp2;go_ret;exact ⟨rfl,b1⟩};{
 have q2:x<=4611686018427387904:=ab;by_cases h3:t<0;{
 have eF:B=false:=by rw [aa HB,Bool.and_eq_false_iff];exact .inl (decide_eq_false (fun hh=>ab))
 subst eF;clear HB;go_enter func9,ntmps9;go_wp2;go_ret;exact ⟨rfl,b1⟩};{
 have q3:0<=t:=ab;by_cases h4:1000000<t;{
 have eF:B=false:=by rw [aa HB,Bool.and_eq_false_iff];exact .inl (decide_eq_false (fun hh=>ab))
 subst eF;clear HB;go_enter func9,ntmps9;go_wp2;go_ret;exact ⟨rfl,b1⟩};{
 have q4:t<=1000000:=ab;by_cases h5:(50:Int)<(n:Int);{
 have eF:B=false:=by rw [aa HB,Bool.and_eq_false_iff];exact .inl (decide_eq_false (fun hh=>ab))
 subst eF;clear HB;go_enter func9,ntmps9;go_wp2;go_ret;exact ⟨rfl,b1⟩};{
 have q5:n<=50:=ab;by_cases h6:(200:Int)<(m:Int);{
 have eF:B=false:=by rw [aa HB,Bool.and_eq_false_iff];exact .inl (decide_eq_false (fun hh=>ab))
 subst eF;clear HB;go_enter func9,ntmps9;go_wp2;go_ret;exact ⟨rfl,b1⟩};{
 have q6:m<=200:=ab;have qv:Hid (B=((List.range n).all (jy x ss)&&(List.range m).all (iP e g ss ns))):=by show _=_;rw [aa HB,decide_eq_true ⟨q0,q1,q2,q3,q4,q5,q6⟩,Bool.true_and]
 clear HB;go_enter func9,ntmps9;go_wp2_with fail;obtain ⟨W,hW⟩:=ax (w.alloc (.cells #[.U e,.U g,.U x,.I t,.S p n c,.S q m d] 27));have Pa:lX W w.heap.size e g x t (.S p n c) (.S q m d):=by rw [hW];simp [lX]
 rw [<-hW] at b1 ⊢;clear hW;have BW:=ae b1;have Pz:=ae Pa;clear b1 Pa;clear h0 h1 h2 h3 h4 h5 h6 q0 q1 q2 q3 q4 q5 q6
 go_loopw [3] (fun iv wr=>∃ k:Nat,k<=n/\iv=.I k/\Hid ((List.range k).all (jy x ss)=true)/\Bw W wr) (fun iv _=>n-(intOf iv).toNat)
 case atStart=>exact ⟨0,Nat.zero_le _,rfl,cw,Below.refl _ _⟩
 case round =>(
 obtain ⟨k,hk,rfl,iJ,aR⟩:=hrel;have BB:=ah BW aR;obtain ⟨i0,i1,i2,i3,i4,i5⟩:=Pz.below aR;by_cases bj:k<n;{
 have da:=aT k n;obtain ⟨T,eT⟩:=aH (jy x ss k);have ET:=ae eT;go_wp2_with fail;refine (uQ e g x t p c n k _ ss en _ (aa HR _ BB).1 hn bj nO T ET).mono ?_;rintro r w2 ⟨rfl,cX⟩;clear i0 i1 i2 i3 i4 i5;cases T with
 | false=>
  have eF:B=false:=by rw [aa qv,dK bj eT];rfl
  subst eF;have b2:=ah BB cX;clear qv eT cX;go_wp2;go_ret;exact ⟨rfl,b2⟩
 | true=>
  have zb:=ae (cM iJ eT);have b2:=ah aR cX;clear eT cX BB;go_wp2;go_roundw
  case rel=>exact ⟨k+1,ab,by go_num,zb,b2⟩
  exact dC};{
 have da:=dy k n;have Ex:k=n:=ab;have ra:Hid (B=(List.range m).all (iP e g ss ns)):=by show _=_;rw [aa qv,show (List.range n).all (jy x ss)=true from Ex▸aa iJ,Bool.true_and]
 have HC7:=ae (Pz.below aR);clear qv Ex iJ;go_wp2_with fail;clear i0 i1 i2 i3 i4 i5;obtain ⟨Y,eY⟩:=ax wr;subst eY;have BY:=ae BB;clear BB aR bj da hk
 go_loopw [4] (fun iv wr=>∃ k:Nat,k<=m/\iv=.I k/\Hid ((List.range k).all (iP e g ss ns)=true)/\Bw Y wr) (fun iv _=>m-(intOf iv).toNat)
 case atStart=>exact ⟨0,Nat.zero_le _,rfl,cw,Below.refl _ _⟩
 case round =>(
 obtain ⟨j,hk,rfl,iJ,aR⟩:=hrel;have BB:=ah BY aR;obtain ⟨i0,i1,i2,i3,i4,i5⟩:=HC7.below aR;by_cases bj:j<m;{
 have da:=aT j m;obtain ⟨T,eT⟩:=aH (iP e g ss ns j);have ET:=ae eT;go_wp2_with fail;refine (IM e g x t p q c n d m j ss ns en em _ (aa HR _ BB).1 (aa HR _ BB).2 hn hm bj fI T ET).mono ?_;rintro r w2 ⟨rfl,cX⟩;clear i0 i1 i2 i3 i4 i5;cases T with
 | false=>
  have eF:B=false:=by rw [aa ra];exact dK bj eT
  subst eF;have b2:=ah BB cX;clear ra eT cX;go_wp2;go_ret;exact ⟨rfl,b2⟩
 | true=>
  have zb:=ae (cM iJ eT);have b2:=ah aR cX;clear eT cX BB;go_wp2;go_roundw
  case rel=>exact ⟨j+1,ab,by go_num,zb,b2⟩
  exact dC};{
 have da:=dy j m;have ekm:j=m:=ab;have eT:B=true:=by rw [aa ra,<-ekm];exact aa iJ
 subst eT;clear ra ekm iJ;go_wp2;go_ret;exact ⟨rfl,BB⟩})})}}}}}}}
def yL (x y:Int):Int:=if x<y then -1 else if y<x then 1 else 0
theorem zJ (x:Int) (w:World):Calls prog 157 #[.U x] w fun e w'=>e=.returned (.bool false)/\w'=w:=by
 go_enter func157,ntmps157;go_wp2;go_ret;refine ⟨?_,rfl⟩;simp
theorem sH (x y:Int) (w:World):Calls prog 116 #[.U x,.U y] w fun e w'=>e=.returned (.I (yL x y))/\w'=w:=by
 obtain ⟨C,eC⟩:=aH (yL x y);rw [eC];have EC:=ae eC;clear eC;go_enter func116,ntmps116;go_wp2_with fail;refine (zJ x w).mono ?_;rintro e w1 ⟨rfl,rfl⟩;go_wp2_with fail;refine (zJ y _).mono ?_;rintro e w2 ⟨rfl,rfl⟩;by_cases h1:x<y;{
 have e1:C=-1:=by rw [<-aa EC];rw [yL,if_pos h1]
 subst e1;go_wp2;go_ret;exact ⟨rfl,rfl⟩};{
 by_cases h2:y<x;{
 have e1:C=1:=by rw [<-aa EC];rw [yL,if_neg h1,if_pos h2]
 subst e1;go_wp2;go_ret;exact ⟨rfl,rfl⟩};{
 have e1:C=0:=by rw [<-aa EC];rw [yL,if_neg h1,if_neg h2]
 subst e1;go_wp2;go_ret;exact ⟨rfl,rfl⟩}}
theorem uk {w:World} {p:Option Addr} {c:Nat} {l:List Int} (h:Rd w (.S p l.length c) l):(Extern.Bytes.bytesOf (.S p l.length c)).run prog w=.ok ⟨(Lib.bytesOf l).toArray⟩ w:=by
 cases p with
 | none=>
  have e:=h.oz;subst e;simp only [Extern.Bytes.bytesOf,Sem.run_pure]
  rfl
 | some a=>
  obtain ⟨n1,n2,n3⟩:=h.news;have:=Lib.run_loadBytesX (P:=prog) w l a .empty (fun j x hj=>n2 j _ (by rw [List.getElem?_map,hj];rfl));simp only [Extern.Bytes.bytesOf];rw [this]
  congr 1
  apply ByteArray.ext;simp
theorem KQ {w:World} {p q:Option Addr} {c d:Nat} {l m:List Int} (h:Rd w (.S p l.length c) l) (k:Rd w (.S q m.length d) m) :
  (Extern.BytealgCompare.compare #[.S p l.length c,.S q m.length d]).run prog w=.ok (.I (Lib.compareBytes (Lib.bytesOf l) (Lib.bytesOf m))) w:=by
 change Sem.run prog (do pure (goInt (Extern.BytealgCompare.cmp (<-Extern.Bytes.bytesOf (.S p l.length c)) (<-Extern.Bytes.bytesOf (.S q m.length d))))) w=_
 simp only [Sem.run_bind,uk h,uk k,Sem.run_pure,Result.andThen];rw [Lib.cmp_eq]
 rfl
def YF (l m:List Int):Int:=Lib.compareBytes (Lib.bytesOf l) (Lib.bytesOf m)
theorem ab0:∀ (a b:List UInt8),(0<=Lib.compareBytes a b)=(Op.bytesLess b a=true\/b=a)
 | [],[]=>by simp [Lib.compareBytes]
 | [],_::_=>by simp [Lib.compareBytes,Op.bytesLess]
 | _::_,[]=>by simp [Lib.compareBytes,Op.bytesLess]
 | x::a,y::b=>by
  have ih:=ab0 a b;rw [Lib.compareBytes,Op.bytesLess];by_cases h1:x<y;{
 have h2:¬ y<x:=fun h=>UInt8.lt_irrefl _ (UInt8.lt_trans h1 h);have h3:¬ y=x:=fun h=>by subst h;exact UInt8.lt_irrefl _ h1
 simp [h1,h2,h3]};{by_cases h2:y<x;{simp [h1,h2]};{have h3:y=x:=UInt8.le_antisymm (UInt8.not_lt.1 h1) (UInt8.not_lt.1 h2);subst h3;simp only [h1,if_false,ih];simp}}
theorem af1 (l m:List Int):decide (0<=YF l m)=leB m l:=by
 rw [leB,dR,dR,Bool.eq_iff_iff,decide_eq_true_iff,YF,ab0];simp only [Bool.or_eq_true,beq_iff_eq];exact Iff.rfl
theorem BH (p q:Option Addr) (c d n k:Nat) (l m:List Int) (el:Hid (l.length=n)) (em:Hid (m.length=k)) (w:World) (h1:Rd w (.S p n c) l) (h2:Rd w (.S q k d) m) :
  Calls prog 120 #[.S p n c,.S q k d] w fun e w'=>e=.returned (.I (YF l m))/\w'=w:=by
 have e1:=aa el;have e2:=aa em;subst e1 e2;go_enter func120,ntmps120;go_wp2;rw [run_callFunc_extern func161 cW cW cW (e:=Extern.BytealgCompare.compare) cW,KQ h1 h2];simp only [Result.andThen];rw [Oper.upon_value];go_wp2;go_ret;exact ⟨rfl,rfl⟩
theorem oq {P:Program} {w:World} {ops:Array Oper} {o:Oper} {a:Act} {K:Act->World->Prop} {Q:Exit->Act->World->Prop} {E:Prop} {R:Ending->World->Prop} (jK:o.guard=none) (f:FuncId) (x0 x1 x2:Operand) (Cq:Array TypeId)
  (ho:o.op=.call { callee:=.value x0,args:=#[x1,x2],argTypes:=Cq }) (v1 v2:Value) (h0:a.eval x0=.func (.func f) #[] #[]) (h1:a.eval x1=v1) (h2:a.eval x2=v2) (ve:∀ vs,(callFunc f vs).run P w=.ok (.enter f vs) w) (hc:Calls P f #[v1,v2] w R) (hR:∀ e w',R e w'->∃ v,e=.returned v/\K (a.put o.dst v) w') :
  if Region.wanted o (yielded ops a.tmps)=true then Oper.wp P o a w K Q else E:=by
 have hw:Region.wanted o (yielded ops a.tmps)=true:=by simp [Region.wanted,jK]
 rw [if_pos hw];have cK:(execOp a.eval o).run P w=.ok (.enter f #[v1,v2]) w:=by subst h1 h2;unfold execOp;simp [ho,resolve,invoke,ve,h0,Deferred.ofValue,Sem.run_bind,Sem.run_pure,Result.andThen]
 show o.upon P a K Q _;rw [cK,Oper.upon_enter];refine hc.mono ?_;intro e w' h;obtain ⟨v,rfl,hk⟩:=hR e w' h;exact hk
end Go.Proofs.YtcfcafeciggjeaaGreatDoor
