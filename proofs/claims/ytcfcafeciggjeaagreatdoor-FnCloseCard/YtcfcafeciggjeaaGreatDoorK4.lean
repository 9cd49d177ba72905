import Derived.Test.YtcfcafeciggjeaaGreatDoorVPm
import Derived.Test.YtcfcafeciggjeaaGreatDoorGC
import Derived.Test.YtcfcafeciggjeaaGreatDoorVPy
namespace Go.Proofs.YtcfcafeciggjeaaGreatDoor
set_option maxHeartbeats 4000000
set_option linter.unusedVariables false
set_option linter.unusedSimpArgs false
set_option maxRecDepth 100000
open Go.ChangeShapes Go.WideShapes Go.ChangeAt Go.RowKit
variable {B a j k:Nat} {b:Bool} {l:List Int} {v:Value} {vs:List Value} {w:World}
theorem Rd.at {p:Option Addr} {n c:Nat} (h:Rd w (.slice p n c) l) (hl:0<l.length):∃ b o,p=some ⟨b,o,none⟩/\n=l.length/\∀ i,i<l.length->w.cell? ⟨b,o+i,none⟩=some (.int .u8 (l.getD i 0)):=by
 obtain ⟨p',c',e,h⟩:=h;simp only [Value.slice.injEq] at e;obtain ⟨rfl,rfl,-⟩:=e;rcases h with rfl | ⟨b,o,e2,hc⟩;{simp at hl};{exact ⟨b,o,e2,rfl,hc⟩}
theorem xU (c:Int):(97<=c/\c<=122/\kJ c=true)\/(122<c/\kJ c=false)\/(48<=c/\c<=57/\kJ c=true)\/(c=95/\kJ c=true)\/(57<c/\c<97/\¬ c=95/\kJ c=false)\/(c=45/\kJ c=true)\/(c<48/\¬ c=45/\kJ c=false):=by
 unfold kJ;by_cases h1:97<=c<;>by_cases h2:c<=122<;>by_cases h3:48<=c<;>by_cases h4:c<=57<;>by_cases h5:c=45<;>by_cases h6:c=95<;>simp [h1,h2,h3,h4,h5,h6]<;>omega
theorem sC (c:Int) (w:World) :
  Calls Tryz.prog 165 #[.int .u8 c] w fun e w'=>e=.returned (.bool (kJ c))/\w'=w:=by
 rcases xU c with ⟨h1,h2,hb⟩ | ⟨h2,hb⟩ | ⟨h3,h4,hb⟩ | ⟨rfl,hb⟩ | ⟨h4,h1,h6,hb⟩ | ⟨rfl,hb⟩ | ⟨h3,h5,hb⟩;{rw [hb];go_enter Tryz.func165,Tryz.ntmps165;go_wp2;go_ret;exact ⟨rfl,rfl⟩};{
 rw [hb];have h1:(97:Int)<=c:=by omega
 have h3:(48:Int)<=c:=by omega
 have h2':¬ c<=122:=by omega
 have h4:¬ c<=57:=by omega
 have h5:¬ c=45:=by omega
 have h6:¬ c=95:=by omega
 go_enter Tryz.func165,Tryz.ntmps165;go_wp2;go_ret;exact ⟨by simp [h5,h6],rfl⟩};{
 rw [hb];have h1:¬ (97:Int)<=c:=by omega
 go_enter Tryz.func165,Tryz.ntmps165;go_wp2;go_ret;exact ⟨rfl,rfl⟩};{rw [hb];go_enter Tryz.func165,Tryz.ntmps165;go_wp2;go_ret;exact ⟨rfl,rfl⟩};{
 rw [hb];have h1:¬ (97:Int)<=c:=by omega
 have h3:(48:Int)<=c:=by omega
 have h4:¬ c<=57:=by omega
 have h5:¬ c=45:=by omega
 go_enter Tryz.func165,Tryz.ntmps165;go_wp2;go_ret;exact ⟨by simp [h5,h6],rfl⟩};{rw [hb];go_enter Tryz.func165,Tryz.ntmps165;go_wp2;go_ret;exact ⟨rfl,rfl⟩};{
 rw [hb];have h1:¬ (97:Int)<=c:=by omega
 have h3':¬ (48:Int)<=c:=by omega
 have h6:¬ c=95:=by omega
 go_enter Tryz.func165,Tryz.ntmps165;go_wp2;go_ret;exact ⟨by simp [h5,h6],rfl⟩}
theorem Tryz.infoSl:(Tryz.prog.info? 22).map (fun i=>(i.zero,i.size,i.bytes))=some (some (.slice none 0 0),1,24):=by kernel_rfl
def mL (B:Nat) (w:World) (v:Value) (n:Nat) (vs:List Value):Prop:=w.ownsRow B 22 1 v n vs
theorem mL.nil (B:Nat) (w:World):mL B w (.slice none 0 0) 0 []:=World.ownsRow_nil _ _ _ _
theorem mL.form {n:Nat} (h:mL B w v n vs):∃ p c,v=.slice p n c:=by
 rcases h.2 with ⟨rfl,h0⟩ | ⟨g,cap,cur,rfl,_⟩;{exact ⟨none,0,by rw [h0]⟩};{exact ⟨_,_,rfl⟩}
theorem mL.below {w':World} {n:Nat} (h:mL B w v n vs) (hb:Below w.heap.size w w'):mL B w' v n vs:=
 World.ownsRow.kept h (row:=none) ⟨hb.os,hb.tape,hb.output,hb.size,fun k hk _=>hb.block k hk⟩ (by cases hv:v.ownBlock<;>simp)
theorem kO {ops:Array Oper} {rest:List Oper} {o:Oper} {a:Act} {Q:Exit->Act->World->Prop} (jw:o.guard=none) (s x:Operand)
  (ho:o.op=.call { callee:=.builtin .append,args:=#[s,x],argTypes:=#[39,39] })
  (B:Nat) (v:Value) (n:Nat) (vs:List Value) (g:Nat) (hs:a.eval s=v) (hx:a.eval x=.slice (some ⟨g,0,none⟩) 1 1) (h:mL B w v n vs) (pu:Option Addr) (nu cu:Nat) (hc:w.cell? ⟨g,0,none⟩=some (.slice pu nu cu))
  (hl:n<=2097152) (hB:B<=w.heap.size)
  (hK:∀ p' c' w',mL B w' (.slice p' (n+1) c') (n+1) (vs++[.slice pu nu cu])->w.grownBy w' v.ownBlock->wpList Tryz.prog ops Q rest (a.put o.dst (.slice p' (n+1) c')) w'):wpList Tryz.prog ops Q (o::rest) a w:=by
 obtain ⟨i,hi,mX,ik,jv⟩:=info_parts Tryz.infoSl;refine wpList_append_own w jw s x 39 ho B 22 i _ 1 24 Tryz.underlying39 hi mX ik jv rfl (by decide) v _ _ hs h ⟨g,0,none⟩ 1 1 [.slice pu nu cu] hx rfl ?_ ?_ (by unfold maxLen;omega) (by omega) hB ?_;{
 intro j u hu;have e:j=0:=by have:=(aJ.1 hu).1;simpa using this
 subst e;simp at hu;subst hu;exact hc};{
 intro u hu;simp at hu;subst hu
 rfl}
 {intro v' w' h1 h2 _;have h3:mL B w' v' (n+1) (vs++[.slice pu nu cu]):=h1;obtain ⟨p',c',rfl⟩:=h3.form;exact hK p' c' w' h3 h2}
open Go.Proofs.Tryz
theorem drop_cons (h:a<l.length):l.drop a=l.getD a 0::l.drop (a+1):=by
 rw [List.drop_eq_getElem_cons h];simp [List.getD,h]
theorem JI (h0:st k (l.drop a)=b) (ha:a<l.length) (j9:l.getD a 0=47) (nR:∀ x∈(l.drop (a+1)).take j,kJ x=true) (hj:a+1+j<=l.length) (KQ:a+1+j=l.length\/l.getD (a+1+j) 0=47) :
  b=(gr ((l.drop (a+1)).take j)&&st (k+1) (l.drop (a+1+j))):=by
 rw [<-h0,drop_cons ha,j9];have e:l.drop (a+1)=(l.drop (a+1)).take j++l.drop (a+1+j):=by have e:=(List.take_append_drop j (l.drop (a+1))).symm;rw [List.drop_drop] at e;exact e
 by_cases hl:a+1+j=l.length;{
 have e0:l.drop (a+1+j)=[]:=List.drop_eq_nil_of_le (by omega);rw [e0,List.append_nil] at e;rw [e0]
 conv=>lhs;rw [e]
 exact Oa nR};{
 rcases KQ with h | h;{exact absurd h hl};{
 have e1:=drop_cons (l:=l) (a:=a+1+j) (by omega);rw [h] at e1;rw [e1] at e ⊢
 conv=>lhs;rw [e]
 exact JJ nR}}
theorem FO (h0:st k (l.drop a)=b) (ha:a<l.length) (j9:l.getD a 0=47) (nR:∀ x∈(l.drop (a+1)).take j,kJ x=true) (hj:a+1+j<l.length) (hn:¬ l.getD (a+1+j) 0=47) (hb:kJ (l.getD (a+1+j) 0)=false):b=false:=by
 rw [<-h0,drop_cons ha,j9];have e:l.drop (a+1)=(l.drop (a+1)).take j++l.drop (a+1+j):=by have e:=(List.take_append_drop j (l.drop (a+1))).symm;rw [List.drop_drop] at e;exact e
 rw [drop_cons hj] at e;rw [e];exact Ob nR hn hb
def BV (l:List Int) (a B:Nat) (w:World) (vs:List Value):Prop:=(vs=[]/\a=0)\/∃ s j v,vs.getLast?=some v/\a=s+1+j/\l.getD s 0=47/\(∀ y∈(l.drop (s+1)).take j,kJ y=true)/\Own B w v ((l.drop (s+1)).take j)
def Wb (l:List Int) (B:Nat) (w:World) (vs:List Value):Prop:=∃ s v,vs.getLast?=some v/\s<l.length/\l.getD s 0=47/\(∀ y∈l.drop (s+1),kJ y=true)/\Own B w v (l.drop (s+1))
theorem BV.fin {n k B:Nat} (h:BV l n B w vs) (en:l.length=n) (ho:mL B w v k vs) (hk:1<=k):Wb l B w vs:=by
 rcases h with ⟨rfl,-⟩ | ⟨s,j,v,h1,h2,h3,h4,h5⟩;{have:=ho.1;simp at this;omega};{have e:(l.drop (s+1)).take j=l.drop (s+1):=List.take_of_length_le (by simp;omega);rw [e] at h4 h5;exact ⟨s,v,h1,by omega,h3,h4,h5⟩}
theorem BV.app {nm:List Int} {t C:Nat} {w1 w3:World} {r v:Value} (ht:t=a+1+j) (j9:l.getD a 0=47) (Ip:nm=(l.drop (a+1)).take j) (nR:∀ y∈nm,kJ y=true) (ho:Own C w v nm) (hb:Below w.heap.size w w1) (hg:w1.grownBy w3 r.ownBlock) (hr:∀ b,r.ownBlock=some b->b<C) (hC:B<=C):BV l t B w3 (vs++[v]):=by
 subst Ip;refine .inr ⟨a,j,v,by simp,ht,j9,nR,Own.mono ((Own.below ho hb).AV (Kept.xR (vs:=[r]) hg (by simp)) (fun u hu b hb e=>?_)) hC⟩;simp at hu;subst hu;have:=hr b e;have:=(ho.lt b hb).1;omega
def NmE (l:List Int) (C:Nat) (B:Bool) (e:Ending) (w':World):Prop:=B=true->∃ p k c vs,e=.returned (.tuple #[.slice p k c,.bool true])/\mL C w' (.slice p k c) k vs/\1<=k/\Wb l C w' vs
theorem oQ (p:Option Addr) (c n:Nat) (l:List Int) (en:Hid (l.length=n)) (w:World) (h:Rd w (.slice p n c) l) (hb:bQ l) (hl:n<=1048576) (B:Bool) (eB:Hid (vp l=B)) :
  Calls prog 138 #[.slice p n c] w fun e w'=>NmE l w.heap.size B e w'/\(∃ v,e=.returned (.tuple #[v,.bool B]))/\Below w.heap.size w w':=by
 have HR:=ae h;have HB:=ae hb;clear h hb;go_enter func138,ntmps138;go_wp2
 go_loopw [4,5] (fun ov i wr=>∃ (a k:Nat) (pv:Option Addr) (cv:Nat) (vs:List Value),a<=n/\i=.int .i64 a/\ov=.slice pv k cv/\k<=a/\Hid (st k (l.drop a)=B)/\mL w.heap.size wr (.slice pv k cv) k vs/\Hid (BV l a w.heap.size wr vs)/\Below w.heap.size w wr) (fun _ i _=>n-(intOf i).toNat)
 case atStart=>exact ⟨0,0,none,0,[],Nat.zero_le _,rfl,rfl,Nat.le_refl _,(by show _=_;exact eB),mL.nil _ _,ae (.inl ⟨rfl,rfl⟩),Below.refl _ _⟩
 case round =>(
 obtain ⟨a,k,pv,cv,vs,ha,rfl,rfl,hka,cF,ho,hLN,aT⟩:=hrel;have Kr:=aT.size;by_cases br:a<n;{
 have bt:(a:Int)<(n:Int):=by omega
 obtain ⟨b,o,rfl,-,hc⟩:=HR.at (by rw [aa en];omega);have bE:∀ (i:Nat) (w':World),i<n->Below w.heap.size w w'->w'.cell? ⟨b,o+i,none⟩=some (.int .u8 (l.getD i 0)):=fun i w' hi cL=>(cL.cell (p:=⟨b,o+i,none⟩) (World.block_lt_of_cell? w _ (hc i (by rw [aa en];exact hi)))).trans (hc i (by rw [aa en];exact hi));have HC:=ae bE;have hca:=bE a wr br aT;clear hc bE;obtain ⟨x,ex⟩:=aN (l.getD a 0);rw [ex] at hca;have EX:=ae ex;clear ex;by_cases j9:x=47;{
 subst j9;go_wp2_with fail
 go_loopw [5,6] (fun i nv w2=>∃ (t j:Nat) (pn:Option Addr) (cn:Nat) (nm:List Int),Hid (t=a+1+j)/\t<=n/\a<t/\j<t/\i=.int .i64 t/\nv=.slice pn j cn/\Hid (nm=(l.drop (a+1)).take j)/\Hid (nm.length=j)/\Hid (∀ y∈nm,kJ y=true)/\Own wr.heap.size w2 (.slice pn j cn) nm/\Below wr.heap.size wr w2) (fun i _ _=>n-(intOf i).toNat)
 case atStart=>exact ⟨a+1,0,none,0,[],rfl,by omega,by omega,by omega,by go_num,rfl,rfl,rfl,(by intro y hy;simp at hy),World.ownsRow_nil _ _ _ _,Below.refl _ _⟩
 case round =>(
 obtain ⟨t,j,pn,cn,nm,ht,Zv,fo,hjt,rfl,rfl,Ip,elj,nR,Xg,aS⟩:=hrel;have jv:=aS.size;have bb2:=ai aT aS;have um:=ho.below aS;have KQ:(t=n\/l.getD t 0=47)->B=(gr nm&&st (k+1) (l.drop t)):=fun he=>by have:=JI (j:=j) (aa cF) (by rw [aa en];exact br) (aa EX) (by rw [<-aa Ip];exact aa nR) (by rw [aa en,<-aa ht];exact Zv) (by rw [aa en,<-aa ht];exact he);rw [<-aa Ip,<-aa ht] at this;exact this
 have gC:(1<=j/\j<=16->gr nm=true)/\(¬ (1<=j/\j<=16)->gr nm=false):=by have ha:nm.all kJ=true:=List.all_eq_true.2 nR;rw [gr,aa elj,ha];constructor;{rintro ⟨h1,h2⟩;simp [h1,h2]};{intro h;simp;omega}
 have HE:=ae KQ;have HK:=ae gC;clear KQ gC;by_cases jL:t<n;{
 have Hd:(t:Int)<(n:Int):=by omega
 have MR:=aa HC t wr jL bb2;obtain ⟨z,ez⟩:=aN (l.getD t 0);rw [ez] at MR;have EZ:=ae ez;clear ez;by_cases Ks:z=47;{
 subst Ks;have he:=aa HE (.inr EZ);by_cases hj1:1<=j;{
 have Pk:¬ (j:Int)<1:=by omega
 by_cases Pj:j<=16;{
 have Hc:¬ (16:Int)<(j:Int):=by omega
 rw [HK.1 ⟨hj1,Pj⟩,Bool.true_and] at he;have HE2:=ae he.symm;clear he hca;go_wp2_with (at_builtin;refine kO rfl _ _ rfl w.heap.size (.slice pv k cv) k vs wr.heap.size rfl rfl (um.below (ay.alloc ax _)) pn j cn (by simp) (by omega) (by simp;omega) ?_);intro p' c' w3 TJ qL;have b3:Below w.heap.size w w3:=(bb2.alloc bb2.size _).grown qL (by simp;omega) (fun k hk=>(World.ownsRow.lt um k hk).1);have HL3:=ae (BV.app (B:=w.heap.size) (vs:=vs) ht EX Ip nR Xg (ay.alloc ax _) qL (fun b hb=>(World.ownsRow.lt ho b hb).2) aT.size);clear qL;go_wp2;go_roundw
 case rel=>exact ⟨t,k+1,p',c',_,Zv,by go_num,rfl,by omega,HE2,TJ,HL3,b3⟩
 case measure=>simp [intOf];omega}
 {
 have Hc:(16:Int)<(j:Int):=by omega
 rw [HK.2 (by omega),Bool.false_and] at he;subst he;go_wp2
 go_ret2
 exact ⟨(fun h=>by cases h),⟨_,rfl⟩,bb2⟩}};{
 have Pk:(j:Int)<1:=by omega
 rw [HK.2 (by omega),Bool.false_and] at he;subst he;go_wp2
 go_ret2
 exact ⟨(fun h=>by cases h),⟨_,rfl⟩,bb2⟩}};{
 have Fb:(z==47)=false:=by simp [Ks]
 have aT3:(z != 47)=true:=by simp [Ks]
 go_wp2_with fail;refine (sC z _).mono ?_;rintro e w3 ⟨rfl,rfl⟩;by_cases Zk:kJ z=true;{
 rw [Zk];have Vm:Hid (nm++[z]=(l.drop (a+1)).take (j+1)):=by
  show _=_;have e1:(l.drop (a+1))[j]?=some z:=by rw [List.getElem?_drop,<-aa ht,<-aa EZ];simp [List.getD,aa en,jL]
  rw [List.take_add_one,e1,aa Ip]
  rfl
 have Qg:Hid ((nm++[z]).length=j+1):=by show _=_;rw [List.length_append,aa elj];rfl
 have TK:Hid (∀ y∈nm++[z],kJ y=true):=by intro y hy;rcases List.mem_append.1 hy with h | h;{exact nR y h};{simp at h;rw [h];exact Zk}
 have Xc:Hid (t+1=a+1+(j+1)):=by show _=_;have:=aa ht;omega
 obtain ⟨nm2,Qd⟩:=ar (nm++[z]);rw [<-Qd] at Vm Qg TK;have Jo:=ae Qd;clear Qd um;go_wp2_with (at_builtin;refine fL rfl _ _ rfl _ (.slice pn j cn) nm nm2 z Jo w3.heap.size rfl rfl (Own.below Xg (ay.alloc ax _)) (by simp) (by rw [aa elj];omega) (by simp;omega) ?_);intro p' c' w4 ho4 pf;have b4:=(aS.alloc aS.size _).grown pf (by simp;omega) (fun k hk=>(Xg.lt k hk).1);rw [aa Qg] at ho4 ⊢;clear pf;go_wp2;go_roundw
 case rel=>exact ⟨t+1,j+1,p',c',nm2,Xc,by omega,by omega,by omega,by go_num,rfl,Vm,Qg,TK,ho4,b4⟩
 case measure=>simp [intOf];omega}
 {
 have hzf:kJ z=false:=by simpa using Zk
 rw [hzf];have eF:B=false:=by have e:=aa ht;exact FO (j:=j) (aa cF) (by rw [aa en];exact br) (aa EX) (by rw [<-aa Ip];exact aa nR) (by rw [aa en,<-e];exact jL) (by rw [<-e,aa EZ];exact Ks) (by rw [<-e,aa EZ];exact hzf)
 subst eF;go_wp2
 go_ret2
 exact ⟨(fun h=>by cases h),⟨_,rfl⟩,bb2⟩}}};{
 have Hd:¬ (t:Int)<(n:Int):=by omega
 have he:=aa HE (.inl (by omega));by_cases hj1:1<=j;{
 have Pk:¬ (j:Int)<1:=by omega
 by_cases Pj:j<=16;{
 have Hc:¬ (16:Int)<(j:Int):=by omega
 rw [HK.1 ⟨hj1,Pj⟩,Bool.true_and] at he;have HE2:=ae he.symm;clear he hca;go_wp2_with (at_builtin;refine kO rfl _ _ rfl w.heap.size (.slice pv k cv) k vs wr.heap.size rfl rfl (um.below (ay.alloc ax _)) pn j cn (by simp) (by omega) (by simp;omega) ?_);intro p' c' w3 TJ qL;have b3:Below w.heap.size w w3:=(bb2.alloc bb2.size _).grown qL (by simp;omega) (fun k hk=>(World.ownsRow.lt um k hk).1);have HL3:=ae (BV.app (B:=w.heap.size) (vs:=vs) ht EX Ip nR Xg (ay.alloc ax _) qL (fun b hb=>(World.ownsRow.lt ho b hb).2) aT.size);clear qL;go_wp2;go_roundw
 case rel=>exact ⟨t,k+1,p',c',_,Zv,by go_num,rfl,by omega,HE2,TJ,HL3,b3⟩
 case measure=>simp [intOf];omega}
 {
 have Hc:(16:Int)<(j:Int):=by omega
 rw [HK.2 (by omega),Bool.false_and] at he;subst he;go_wp2
 go_ret2
 exact ⟨(fun h=>by cases h),⟨_,rfl⟩,bb2⟩}};{
 have Pk:(j:Int)<1:=by omega
 rw [HK.2 (by omega),Bool.false_and] at he;subst he;go_wp2
 go_ret2
 exact ⟨(fun h=>by cases h),⟨_,rfl⟩,bb2⟩}})}
 {
 have hx:(x==47)=false:=by simp [j9]
 have ON:(x != 47)=true:=by simp [j9]
 have eF:B=false:=by rw [<-aa cF,drop_cons (by rw [aa en];exact br),aa EX];exact xF j9
 subst eF;go_wp2
 go_ret2
 exact ⟨(fun h=>by cases h),⟨_,rfl⟩,aT⟩}};{
 have e:a=n:=by omega
 have bt:¬ (a:Int)<(n:Int):=by omega
 have Ac:=aa cF;rw [List.drop_eq_nil_of_le (by rw [aa en];omega),st] at Ac;by_cases h1:1<=k;{
 by_cases h8:k<=8;{
 have C5:(1:Int)<=(k:Int):=by omega
 have P8:(k:Int)<=8:=by omega
 have eT:B=true:=by rw [<-Ac];simp [h1,h8]
 subst eT;subst e;go_wp2
 go_ret2
 exact ⟨fun _=>⟨pv,k,cv,vs,rfl,ho,h1,hLN.fin en ho h1⟩,⟨_,rfl⟩,aT⟩};{
 have C5:(1:Int)<=(k:Int):=by omega
 have P8:¬ (k:Int)<=8:=by omega
 have eT:B=false:=by rw [<-Ac];simp [h8]
 subst eT;go_wp2
 go_ret2
 exact ⟨(fun h=>by cases h),⟨_,rfl⟩,aT⟩}};{
 have C5:¬ (1:Int)<=(k:Int):=by omega
 have eT:B=false:=by rw [<-Ac];simp [h1]
 subst eT;go_wp2
 go_ret2
 exact ⟨(fun h=>by cases h),⟨_,rfl⟩,aT⟩}})
theorem yb (p:Option Addr) (c n:Nat) (l:List Int) (en:Hid (l.length=n)) (w:World) (h:Rd w (.slice p n c) l) (hb:bQ l) (hl:n<=1048576) (B:Bool) (eB:Hid (vp l=B)) :
  Calls prog 138 #[.slice p n c] w fun e w'=>(∃ v,e=.returned (.tuple #[v,.bool B]))/\Below w.heap.size w w':=(oQ p c n l en w h hb hl B eB).mono fun _ _ h=>h.2
theorem mP (p:Option Addr) (c n:Nat) (l:List Int) (en:Hid (l.length=n)) (w:World) (h:Rd w (.slice p n c) l) (hl:n<=2097152) (B:Bool) (eB:Hid (gr l=B)) :
  Calls Tryz.prog 176 #[.slice p n c] w fun e w'=>e=.returned (.bool B)/\Below w.heap.size w w':=by
 have HR:=ae h;clear h;by_cases h1:1<=n;{
 by_cases h16:n<=16;{
 have C5:¬ (n:Int)<1:=by omega
 have ag1:¬ (16:Int)<(n:Int):=by omega
 obtain ⟨b,o,rfl,-,hc⟩:=HR.at (by rw [aa en];omega);go_enter Tryz.func176,Tryz.ntmps176;have bE:∀ (i:Nat) (w':World),i<n->Below w.heap.size w w'->w'.cell? ⟨b,o+i,none⟩=some (.int .u8 (l.getD i 0)):=fun i w' hi cL=>(cL.cell (p:=⟨b,o+i,none⟩) (World.block_lt_of_cell? w _ (hc i (by rw [aa en];exact hi)))).trans (hc i (by rw [aa en];exact hi));have HC:=ae bE;clear hc bE;go_wp2
 go_loopw [17] (fun i wr=>∃ k:Nat,k<=n/\i=.int .i64 k/\Hid (∀ j,j<k->kJ (l.getD j 0)=true)/\Below w.heap.size w wr) (fun i _=>n-(intOf i).toNat)
 case atStart=>exact ⟨0,Nat.zero_le _,rfl,(fun j hj=>by omega),Below.refl _ _⟩
 case round =>(
 obtain ⟨k,hk,rfl,gC,aT⟩:=hrel;by_cases br:k<n;{
 have bt:(k:Int)<(n:Int):=by omega
 have uz:=aa HC k wr br aT;obtain ⟨z,ez⟩:=aN (l.getD k 0);rw [ez] at uz;have EZ:=ae ez;clear ez;have lI:kJ z=true->Hid (∀ j,j<k+1->kJ (l.getD j 0)=true):=fun hz j hj=>by by_cases e:j=k;{rw [e,aa EZ];exact hz};{exact gC j (by omega)}
 have mZ:kJ z=false->B=false:=fun hz=>by
  rw [<-aa eB,gr];have:l.all kJ=false:=by
   rw [List.all_eq_false];refine ⟨z,?_,by simp [hz]⟩;rw [<-aa EZ];have Jd:k<l.length:=by rw [aa en];exact br
   rw [show l.getD k 0=l[k] by simp [List.getD,Jd]];exact List.getElem_mem Jd
  rw [this];simp
 rcases xU z with ⟨g1,g2,gb⟩ | ⟨g2,gb⟩ | ⟨g3,g4,gb⟩ | ⟨rfl,gb⟩ | ⟨g4,g1,g6,gb⟩ | ⟨rfl,gb⟩ | ⟨g3,g5,gb⟩;{
 have HN:=lI gb;clear lI mZ;have g3:(48:Int)<=z:=by omega
 have g4:¬ z<=57:=by omega
 go_wp2;go_roundw
 case rel=>exact ⟨k+1,by omega,by go_num,HN,aT⟩
 case measure=>simp [intOf];omega}
 {
 have eF:=mZ gb;subst eF;clear lI mZ;have g1:(97:Int)<=z:=by omega
 have g2':¬ z<=122:=by omega
 have g3:(48:Int)<=z:=by omega
 have g4:¬ z<=57:=by omega
 have g5:(z != 45)=true:=by simp;omega
 have g6:(z != 95)=true:=by simp;omega
 go_wp2;go_ret;exact ⟨rfl,aT⟩};{
 have HN:=lI gb;clear lI mZ;have g1:¬ (97:Int)<=z:=by omega
 go_wp2;go_roundw
 case rel=>exact ⟨k+1,by omega,by go_num,HN,aT⟩
 case measure=>simp [intOf];omega}
 {
 have HN:=lI gb;clear lI mZ;go_wp2;go_roundw
 case rel=>exact ⟨k+1,by omega,by go_num,HN,aT⟩
 case measure=>simp [intOf];omega}
 {
 have eF:=mZ gb;subst eF;clear lI mZ;have XN:¬ (97:Int)<=z:=by omega
 have g3:(48:Int)<=z:=by omega
 have g4':¬ z<=57:=by omega
 have g5:(z != 45)=true:=by simp;omega
 have g6':(z != 95)=true:=by simp [g6]
 go_wp2;go_ret;exact ⟨rfl,aT⟩};{
 have HN:=lI gb;clear lI mZ;go_wp2;go_roundw
 case rel=>exact ⟨k+1,by omega,by go_num,HN,aT⟩
 case measure=>simp [intOf];omega}
 {
 have eF:=mZ gb;subst eF;clear lI mZ;have g1:¬ (97:Int)<=z:=by omega
 have g3':¬ (48:Int)<=z:=by omega
 have g5':(z != 45)=true:=by simp [g5]
 have g6:(z != 95)=true:=by simp;omega
 go_wp2;go_ret;exact ⟨rfl,aT⟩}};{
 have bt:¬ (k:Int)<(n:Int):=by omega
 have e:k=n:=by omega
 have eT:B=true:=by
  rw [<-aa eB,gr,aa en];have:l.all kJ=true:=by rw [List.all_eq_true];intro x hx;obtain ⟨i,hi,rfl⟩:=List.getElem_of_mem hx;have:=aa gC i (by rw [aa en] at hi;omega);rwa [show l.getD i 0=l[i] by simp [List.getD,hi]] at this
  simp [h1,h16,this]
 subst eT;go_wp2;go_ret;exact ⟨rfl,aT⟩})}
 {
 have C5:¬ (n:Int)<1:=by omega
 have ag1:(16:Int)<(n:Int):=by omega
 have eF:B=false:=by rw [<-aa eB,gr,aa en];simp [h16]
 subst eF;go_enter Tryz.func176,Tryz.ntmps176;go_wp2;go_ret;exact ⟨rfl,Below.refl _ _⟩}};{
 have C5:(n:Int)<1:=by omega
 have eF:B=false:=by rw [<-aa eB,gr,aa en];simp [h1]
 subst eF;go_enter Tryz.func176,Tryz.ntmps176;go_wp2;go_ret;exact ⟨rfl,Below.refl _ _⟩}
theorem DH (b o n c:Nat) (t:List Int) (en:t.length=n) (g:Nat) (w:World) (hc:∀ i,i<n->w.cell? ⟨b,o+i,none⟩=some (.int .u8 (t.getD i 0))) (hg:w.cell? ⟨g,0,none⟩=some (.int .u8 47)) (hB:bQ t) (hn:n<=c) (ac6:c<=maxLen) (hl:n<=2097152) (hm:∃ m,w.cell? ⟨2,0,none⟩=some (.int .i64 m)) (K:Nat) (eK:(cG 47 t).length=K) :
  Calls Tryz.prog 175 #[.slice (some ⟨b,o,none⟩) n c,.slice (some ⟨g,0,none⟩) 1 1] w fun e w'=>e=.returned (.slice (some ⟨w.heap.size,0,none⟩) K K)/\(∀ j nm,(cG 47 t)[j]?=some nm->∃ p' c',w'.cell? ⟨w.heap.size,j,none⟩=some (.slice p' nm.length c')/\Rd w' (.slice p' nm.length c') nm)/\Below w.heap.size w w':=by
 obtain ⟨m,hm⟩:=hm;have K4:∀ (g o i:Nat),(⟨g,o,none⟩:Addr).add i=⟨g,o+i,none⟩:=fun g o i=>by
  unfold Addr.add;split;{next h=>subst h;rfl}
  {rfl}
 obtain ⟨e1,e2⟩:=rW hB;refine (Any.bytes_Split Tryz.layS7 ⟨b,o,none⟩ ⟨g,0,none⟩ n c 1 1 t [47] m w en rfl hB (by intro y hy;simp at hy;subst hy;decide) (fun i hi=>by rw [K4];exact hc i hi) (fun i hi=>by
  obtain rfl:i=0:=by omega
  exact hg) hn (by omega) (by decide) (by unfold maxLen at ac6;omega) (by decide) hm).mono ?_
 rintro e w' ⟨rfl,q,rfl⟩;have UC:Below w.heap.size w ((w.alloc (.cells (Lib.splitV (Lib.bytesOf [47]) 0 (Lib.count (Lib.bytesOf t) (Lib.bytesOf [47])) ⟨b,o,none⟩ c (Lib.bytesOf t)).toArray (Tryz.layS7_ren.t 22))).drewN q):=⟨rfl,rfl,rfl,by simp,fun k hk=>Below.heap_alloc _ _ k hk⟩;rw [e2,eK];refine ⟨rfl,fun j nm hj=>?_,UC⟩;have wu:j<(Lib.splitV (Lib.bytesOf [47]) 0 (Lib.count (Lib.bytesOf t) (Lib.bytesOf [47])) ⟨b,o,none⟩ c (Lib.bytesOf t)).length:=by rw [Lib.splitV_length,e1,List.length_map];exact (aJ.1 hj).1
 obtain ⟨a',off,len,cp,ev,h1,h2,h3,h4⟩:=Lib.splitV_spec (Lib.bytesOf [47]) 0 (by decide) (Nat.zero_le _) _ ⟨b,o,none⟩ c (Lib.bytesOf t) (by rw [Lib.bytesOf_length,en];exact hn) j _ (aE wu);rw [e1,List.getElem?_map,hj] at h3;rw [Lib.bytesOf_length] at h2;have Ip:nm=(t.drop off).take len:=by refine qO (Lw hB nm (aF hj)) (fun z hz=>hB z (List.mem_of_mem_drop (List.mem_of_mem_take hz))) ?_;rw [Lib.bytesOf_take,Lib.bytesOf_drop];simpa using h3
 have Qh:nm.length=len:=by rw [Ip,List.length_take,List.length_drop];omega
 refine ⟨some a',cp,?_,?_⟩;{rw [World.cell?_drewN,World.cell?_alloc_new,List.getElem?_toArray,aE wu,ev,Qh]};{
 refine ⟨some a',cp,rfl,?_⟩;by_cases h0:len=0;{
 left
 exact List.length_eq_zero_iff.1 (by rw [Qh];exact h0)};{
 right
 have ea:=h4 0 (by omega);rw [K4,Nat.add_zero] at ea;refine ⟨b,o+off,?_,fun i hi=>?_⟩;{have:a'.add 0=a':=rfl;rw [<-this,ea]};{
 rw [Qh] at hi;have iH:((w.alloc (.cells (Lib.splitV (Lib.bytesOf [47]) 0 (Lib.count (Lib.bytesOf t) (Lib.bytesOf [47])) ⟨b,o,none⟩ c (Lib.bytesOf t)).toArray (Tryz.layS7_ren.t 22))).drewN q).cell? ⟨b,o+(off+i),none⟩=some (.int .u8 (t.getD (off+i) 0)):=
  (UC.cell (p:=⟨b,o+(off+i),none⟩) (World.block_lt_of_cell? w _ (hc (off+i) (by omega)))).trans (hc (off+i) (by omega))
 rw [Nat.add_assoc,iH,Ip];have:((t.drop off).take len).getD i 0=t.getD (off+i) 0:=by simp [List.getD,List.getElem?_take,hi,List.getElem?_drop]
 rw [this]}}}
end Go.Proofs.YtcfcafeciggjeaaGreatDoor
