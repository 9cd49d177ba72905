import Derived.Test.YtcfcafeciggjeaaGreatDoorK1
import Derived.Test.YtcfcafeciggjeaaGreatDoorGC
namespace Go.Proofs.YtcfcafeciggjeaaGreatDoor
set_option maxHeartbeats 4000000
set_option linter.all false
set_option maxRecDepth 100000
open Go.ChangeShapes Go.WideShapes Go.ChangeAt Go.RowKit
variable {B a j k:Nat} {b:Bool} {l:List Int} {v:Value} {vs:List Value} {w:World}
theorem Rd.at {p:Option Addr} {n c:Nat} (h:Rd w (.S p n c) l) (hl:0<l.length):∃ b o,p=some ⟨b,o,none⟩/\n=l.length/\∀ i,i<l.length->w.cell? ⟨b,o+i,none⟩=some (.int .u8 (l.getD i 0)):=by
 obtain ⟨p',c',e,h⟩:=h;simp only [Value.slice.injEq] at e;obtain ⟨rfl,rfl,-⟩:=e;rcases h with rfl | ⟨b,o,e2,hc⟩;{simp at hl};{exact ⟨b,o,e2,rfl,hc⟩}
theorem C8 (c:Int):(97<=c/\c<=122/\nK c=true)\/(122<c/\nK c=false)\/(48<=c/\c<=57/\nK c=true)\/(c=95/\nK c=true)\/(57<c/\c<97/\¬ c=95/\nK c=false)\/(c=45/\nK c=true)\/(c<48/\¬ c=45/\nK c=false):=by
 unfold nK;by_cases h1:97<=c<;>by_cases h2:c<=122<;>by_cases h3:48<=c<;>by_cases h4:c<=57<;>by_cases h5:c=45<;>by_cases h6:c=95<;>simp [h1,h2,h3,h4,h5,h6]<;>omega
theorem wY (c:Int) (w:World) :
  Calls Tryz.prog 165 #[.int .u8 c] w fun e w'=>e=.returned (.bool (nK c))/\w'=w:=by
 rcases C8 c with ⟨h1,h2,hb⟩ | ⟨h2,hb⟩ | ⟨h3,h4,hb⟩ | ⟨rfl,hb⟩ | ⟨h4,h1,h6,hb⟩ | ⟨rfl,hb⟩ | ⟨h3,h5,hb⟩;{rw [hb];go_enter Tryz.func165,Tryz.ntmps165;go_wp2;go_ret;exact ⟨rfl,rfl⟩};{
 rw [hb];have h1:(97:Int)<=c:=by omega
 have h3:(48:Int)<=c:=by omega
 have h2':¬ c<=122:=by omega
 have h4:¬ c<=57:=by omega
 have h5:¬ c=45:=by omega
 have h6:¬ c=95:=by omega
 go_enter Tryz.func165,Tryz.ntmps165;go_wp2;go_ret;exact ⟨by simp [h5,h6],rfl⟩};{
 rw [hb];have h1:¬ (97:Int)<=c:=by omega
 go_enter Tryz.func165,Tryz.ntmps165;go_wp2;go_ret;exact ⟨rfl,rfl⟩};{rw [hb];go_enter Tryz.func165,Tryz.ntmps165;go_wp2;go_ret;exact ⟨rfl,rfl⟩};{
 rw [hb];have h1:¬ (97:Int)<=c:=by omega
 have h3:(48:Int)<=c:=by omega
 have h4:¬ c<=57:=by omega
 have h5:¬ c=45:=by omega
 go_enter Tryz.func165,Tryz.ntmps165;go_wp2;go_ret;exact ⟨by simp [h5,h6],rfl⟩};{rw [hb];go_enter Tryz.func165,Tryz.ntmps165;go_wp2;go_ret;exact ⟨rfl,rfl⟩};{
 rw [hb];have h1:¬ (97:Int)<=c:=by omega
 have h3':¬ (48:Int)<=c:=by omega
 have h6:¬ c=95:=by omega
 go_enter Tryz.func165,Tryz.ntmps165;go_wp2;go_ret;exact ⟨by simp [h5,h6],rfl⟩}
theorem Tryz.infoSl:(Tryz.prog.info? 22).map (fun i=>(i.zero,i.size,i.bytes))=some (some (.S none 0 0),1,24):=by kernel_rfl
def pR (B:Nat) (w:World) (v:Value) (n:Nat) (vs:List Value):Prop:=w.ownsRow B 22 1 v n vs
theorem pR.nil (B:Nat) (w:World):pR B w (.S none 0 0) 0 []:=World.ownsRow_nil _ _ _ _
theorem pR.form {n:Nat} (h:pR B w v n vs):∃ p c,v=.S p n c:=by
 rcases h.2 with ⟨rfl,h0⟩ | ⟨g,cap,cur,rfl,_⟩;{exact ⟨none,0,by rw [h0]⟩};{exact ⟨_,_,rfl⟩}
theorem pR.below {w':World} {n:Nat} (h:pR B w v n vs) (hb:Bw w w'):pR B w' v n vs:=
 World.ownsRow.kept h (row:=none) ⟨hb.os,hb.tape,hb.output,hb.size,fun k hk _=>hb.block k hk⟩ (by cases hv:v.ownBlock<;>simp)
theorem nT {ops:Array Oper} {rest:List Oper} {o:Oper} {a:Act} {Q:Exit->Act->World->Prop} (jK:o.guard=none) (s x:Operand)
  (ho:o.op=.call { callee:=.builtin .append,args:=#[s,x],argTypes:=#[39,39] })
  (B:Nat) (v:Value) (n:Nat) (vs:List Value) (g:Nat) (hs:a.eval s=v) (hx:a.eval x=.S (some ⟨g,0,none⟩) 1 1) (h:pR B w v n vs) (pu:Option Addr) (nu cu:Nat) (hc:w.cell? ⟨g,0,none⟩=some (.S pu nu cu))
  (hl:n<=2097152) (hB:B<=w.heap.size)
  (hK:∀ p' c' w',pR B w' (.S p' (n+1) c') (n+1) (vs++[.S pu nu cu])->w.grownBy w' v.ownBlock->wpList Tryz.prog ops Q rest (a.put o.dst (.S p' (n+1) c')) w'):wpList Tryz.prog ops Q (o::rest) a w:=by
 obtain ⟨i,hi,mw,iT,jW⟩:=info_parts Tryz.infoSl;refine wpList_append_own w jK s x 39 ho B 22 i _ 1 24 Tryz.underlying39 hi mw iT jW rfl (by decide) v _ _ hs h ⟨g,0,none⟩ 1 1 [.S pu nu cu] hx rfl ?_ ?_ (by unfold maxLen;omega) (by omega) hB ?_;{
 intro j u hu;have e:j=0:=by have:=(aN.1 hu).1;simpa using this
 subst e;simp at hu;subst hu;exact hc};{
 intro u hu;simp at hu;subst hu
 rfl}
 {intro v' w' h1 h2 _;have h3:pR B w' v' (n+1) (vs++[.S pu nu cu]):=h1;obtain ⟨p',c',rfl⟩:=h3.form;exact hK p' c' w' h3 h2}
open Go.Proofs.Tryz
theorem drop_cons (h:a<l.length):l.drop a=l.getD a 0::l.drop (a+1):=by
 rw [List.drop_eq_getElem_cons h];simp [List.getD,h]
theorem P8 (h0:st k (l.drop a)=b) (ha:a<l.length) (kL:l.getD a 0=47) (qL:∀ x∈(l.drop (a+1)).take j,nK x=true) (hj:a+1+j<=l.length) (Rj:a+1+j=l.length\/l.getD (a+1+j) 0=47) :
  b=(iQ ((l.drop (a+1)).take j)&&st (k+1) (l.drop (a+1+j))):=by
 rw [<-h0,drop_cons ha,kL];have e:l.drop (a+1)=(l.drop (a+1)).take j++l.drop (a+1+j):=by have e:=(List.take_append_drop j (l.drop (a+1))).symm;rw [List.drop_drop] at e;exact e
 by_cases hl:a+1+j=l.length;{
 have e0:l.drop (a+1+j)=[]:=List.drop_eq_nil_of_le (by omega);rw [e0,List.append_nil] at e;rw [e0]
 conv=>lhs;rw [e]
 exact UW qL};{
 rcases Rj with h | h;{exact absurd h hl};{
 have e1:=drop_cons (l:=l) (a:=a+1+j) (by omega);rw [h] at e1;rw [e1] at e ⊢
 conv=>lhs;rw [e]
 exact Qa qL}}
theorem Ky (h0:st k (l.drop a)=b) (ha:a<l.length) (kL:l.getD a 0=47) (qL:∀ x∈(l.drop (a+1)).take j,nK x=true) (hj:a+1+j<l.length) (hn:¬ l.getD (a+1+j) 0=47) (hb:nK (l.getD (a+1+j) 0)=false):b=false:=by
 rw [<-h0,drop_cons ha,kL];have e:l.drop (a+1)=(l.drop (a+1)).take j++l.drop (a+1+j):=by have e:=(List.take_append_drop j (l.drop (a+1))).symm;rw [List.drop_drop] at e;exact e
 rw [drop_cons hj] at e;rw [e];exact UX qL hn hb
def Gw (l:List Int) (a B:Nat) (w:World) (vs:List Value):Prop:=(vs=[]/\a=0)\/∃ s j v,vs.getLast?=some v/\a=s+1+j/\l.getD s 0=47/\(∀ y∈(l.drop (s+1)).take j,nK y=true)/\Own B w v ((l.drop (s+1)).take j)
def an0 (l:List Int) (B:Nat) (w:World) (vs:List Value):Prop:=∃ s v,vs.getLast?=some v/\s<l.length/\l.getD s 0=47/\(∀ y∈l.drop (s+1),nK y=true)/\Own B w v (l.drop (s+1))
theorem Gw.fin {n k B:Nat} (h:Gw l n B w vs) (en:l.length=n) (ho:pR B w v k vs) (hk:1<=k):an0 l B w vs:=by
 rcases h with ⟨rfl,-⟩ | ⟨s,j,v,h1,h2,h3,h4,h5⟩;{have:=ho.1;simp at this;omega};{have e:(l.drop (s+1)).take j=l.drop (s+1):=List.take_of_length_le (by simp;omega);rw [e] at h4 h5;exact ⟨s,v,h1,by omega,h3,h4,h5⟩}
theorem Gw.app {nm:List Int} {t C:Nat} {w1 w3:World} {r v:Value} (ht:t=a+1+j) (kL:l.getD a 0=47) (Np:nm=(l.drop (a+1)).take j) (qL:∀ y∈nm,nK y=true) (ho:Own C w v nm) (hb:Bw w w1) (hg:w1.grownBy w3 r.ownBlock) (hr:∀ b,r.ownBlock=some b->b<C) (hC:B<=C):Gw l t B w3 (vs++[v]):=by
 subst Np;refine .inr ⟨a,j,v,by simp,ht,kL,qL,Own.mono ((Own.below ho hb).Vs (Kept.Lj (vs:=[r]) hg (by simp)) (fun u hu b hb e=>?_)) hC⟩;simp at hu;subst hu;have:=hr b e;have:=(ho.lt b hb).1;omega
def NmE (l:List Int) (C:Nat) (B:Bool) (e:Ending) (w':World):Prop:=B=true->∃ p k c vs,e=.returned (.tuple #[.S p k c,.bool true])/\pR C w' (.S p k c) k vs/\1<=k/\an0 l C w' vs
theorem rT (p:Option Addr) (c n:Nat) (l:List Int) (en:Hid (l.length=n)) (w:World) (h:Rd w (.S p n c) l) (hb:bM l) (hl:n<=1048576) (B:Bool) (eB:Hid (vp l=B)) :
  Calls prog 138 #[.S p n c] w fun e w'=>NmE l w.heap.size B e w'/\(∃ v,e=.returned (.tuple #[v,.bool B]))/\Bw w w':=by
 have HR:=ae h;have HB:=ae hb;clear h hb;go_enter func138,ntmps138;go_wp2
 go_loopw [4,5] (fun ov i wr=>∃ (a k:Nat) (pv:Option Addr) (cv:Nat) (vs:List Value),a<=n/\i=.I a/\ov=.S pv k cv/\k<=a/\Hid (st k (l.drop a)=B)/\pR w.heap.size wr (.S pv k cv) k vs/\Hid (Gw l a w.heap.size wr vs)/\Bw w wr) (fun _ i _=>n-(intOf i).toNat)
 case atStart=>exact ⟨0,0,none,0,[],Nat.zero_le _,rfl,rfl,Nat.le_refl _,(by show _=_;exact eB),pR.nil _ _,ae (.inl ⟨rfl,rfl⟩),Below.refl _ _⟩
 case round =>(
 obtain ⟨a,k,pv,cv,vs,ha,rfl,rfl,hka,dz,ho,hLN,aR⟩:=hrel;have Fz:=aR.size;by_cases bj:a<n;{
 have bm:=aT a n;obtain ⟨b,o,rfl,-,hc⟩:=HR.at (by rw [aa en];omega);have bG:∀ (i:Nat) (w':World),i<n->Bw w w'->w'.cell? ⟨b,o+i,none⟩=some (.int .u8 (l.getD i 0)):=fun i w' hi cR=>(cR.cell (p:=⟨b,o+i,none⟩) (World.block_lt_of_cell? w _ (hc i (by rw [aa en];exact hi)))).trans (hc i (by rw [aa en];exact hi));have HC:=ae bG;have O7:=bG a wr bj aR;clear hc bG;obtain ⟨x,ex⟩:=aH (l.getD a 0);rw [ex] at O7;have EX:=ae ex;clear ex;by_cases kL:x=47;{
 subst kL;go_wp2_with fail
 go_loopw [5,6] (fun i nv w2=>∃ (t j:Nat) (pn:Option Addr) (cn:Nat) (nm:List Int),Hid (t=a+1+j)/\t<=n/\a<t/\j<t/\i=.I t/\nv=.S pn j cn/\Hid (nm=(l.drop (a+1)).take j)/\Hid (nm.length=j)/\Hid (∀ y∈nm,nK y=true)/\Own wr.heap.size w2 (.S pn j cn) nm/\Bw wr w2) (fun i _ _=>n-(intOf i).toNat)
 case atStart=>exact ⟨a+1,0,none,0,[],rfl,by omega,by omega,by omega,by go_num,rfl,rfl,rfl,(by intro y hy;simp at hy),World.ownsRow_nil _ _ _ _,Below.refl _ _⟩
 case round =>(
 obtain ⟨t,j,pn,cn,nm,ht,htn,gS,hjt,rfl,rfl,Np,elj,qL,hon,bk⟩:=hrel;have jW:=bk.size;have bb2:=ah aR bk;have vF:=ho.below bk;have Rj:(t=n\/l.getD t 0=47)->B=(iQ nm&&st (k+1) (l.drop t)):=fun he=>by have:=P8 (j:=j) (aa dz) (by rw [aa en];exact bj) (aa EX) (by rw [<-aa Np];exact aa qL) (by rw [aa en,<-aa ht];exact htn) (by rw [aa en,<-aa ht];exact he);rw [<-aa Np,<-aa ht] at this;exact this
 have iJ:(1<=j/\j<=16->iQ nm=true)/\(¬ (1<=j/\j<=16)->iQ nm=false):=by have ha:nm.all nK=true:=List.all_eq_true.2 qL;rw [iQ,aa elj,ha];constructor;{rintro ⟨h1,h2⟩;simp [h1,h2]};{intro h;simp;omega}
 have HE:=ae Rj;have HK:=ae iJ;clear Rj iJ;by_cases pK:t<n;{
 have Mu:=aT t n;have Tx:=aa HC t wr pK bb2;obtain ⟨z,ez⟩:=aH (l.getD t 0);rw [ez] at Tx;have EZ:=ae ez;clear ez;by_cases QU:z=47;{
 subst QU;have he:=aa HE (.inr EZ);by_cases hj1:1<=j;{
 have VY:¬ (j:Int)<1:=by omega
 by_cases VX:j<=16;{
 have Mt:¬ (16:Int)<(j:Int):=by omega
 rw [HK.1 ⟨hj1,VX⟩,Bool.true_and] at he;have HE2:=ae he.symm;clear he O7;go_wp2_with (at_builtin;refine nT rfl _ _ rfl w.heap.size (.S pv k cv) k vs wr.heap.size rfl rfl (vF.below (aJ.alloc aA _)) pn j cn (by simp) (by omega) (by simp;omega) ?_);intro p' c' w3 VI uA;have b3:Bw w w3:=(bb2.alloc bb2.size _).grown uA (by simp;omega) (fun k hk=>(World.ownsRow.lt vF k hk).1);have HL3:=ae (Gw.app (B:=w.heap.size) (vs:=vs) ht EX Np qL hon (aJ.alloc aA _) uA (fun b hb=>(World.ownsRow.lt ho b hb).2) aR.size);clear uA;go_wp2;go_roundw
 case rel=>exact ⟨t,k+1,p',c',_,htn,by go_num,rfl,by omega,HE2,VI,HL3,b3⟩
 case measure=>simp [intOf];omega}
 {
 have Mt:=ja 16 j;rw [HK.2 (by omega),Bool.false_and] at he;subst he;go_wp2
 go_ret2
 exact ⟨(fun h=>by cases h),⟨_,rfl⟩,bb2⟩}};{
 have VY:(j:Int)<1:=by omega
 rw [HK.2 (by omega),Bool.false_and] at he;subst he;go_wp2
 go_ret2
 exact ⟨(fun h=>by cases h),⟨_,rfl⟩,bb2⟩}};{
 have JU:(z==47)=false:=by simp [QU]
 have bO7:(z != 47)=true:=by simp [QU]
 go_wp2_with fail;refine (wY z _).mono ?_;rintro e w3 ⟨rfl,rfl⟩;by_cases hzb:nK z=true;{
 rw [hzb];have ai3:Hid (nm++[z]=(l.drop (a+1)).take (j+1)):=by
  show _=_;have e1:(l.drop (a+1))[j]?=some z:=by rw [List.getElem?_drop,<-aa ht,<-aa EZ];simp [List.getD,aa en,pK]
  rw [List.take_add_one,e1,aa Np]
  rfl
 have WV:Hid ((nm++[z]).length=j+1):=by show _=_;rw [List.length_append,aa elj];rfl
 have ab1:Hid (∀ y∈nm++[z],nK y=true):=by intro y hy;rcases List.mem_append.1 hy with h | h;{exact qL y h};{simp at h;rw [h];exact hzb}
 have ht2:Hid (t+1=a+1+(j+1)):=by show _=_;have:=aa ht;omega
 obtain ⟨nm2,WQ⟩:=ax (nm++[z]);rw [<-WQ] at ai3 WV ab1;have Gf:=ae WQ;clear WQ vF;go_wp2_with (at_builtin;refine ga rfl _ _ rfl _ (.S pn j cn) nm nm2 z Gf w3.heap.size rfl rfl (Own.below hon (aJ.alloc aA _)) (by simp) (by rw [aa elj];omega) (by simp;omega) ?_);intro p' c' w4 ho4 sw;have b4:=(bk.alloc bk.size _).grown sw (by simp;omega) (fun k hk=>(hon.lt k hk).1);rw [aa WV] at ho4 ⊢;clear sw;go_wp2;go_roundw
 case rel=>exact ⟨t+1,j+1,p',c',nm2,ht2,by omega,by omega,by omega,by go_num,rfl,ai3,WV,ab1,ho4,b4⟩
 case measure=>simp [intOf];omega}
 {
 have hzf:nK z=false:=by simpa using hzb
 rw [hzf];have eF:B=false:=by have e:=aa ht;exact Ky (j:=j) (aa dz) (by rw [aa en];exact bj) (aa EX) (by rw [<-aa Np];exact aa qL) (by rw [aa en,<-e];exact pK) (by rw [<-e,aa EZ];exact QU) (by rw [<-e,aa EZ];exact hzf)
 subst eF;go_wp2
 go_ret2
 exact ⟨(fun h=>by cases h),⟨_,rfl⟩,bb2⟩}}};{
 have Mu:=dy t n;have he:=aa HE (.inl (by omega));by_cases hj1:1<=j;{
 have VY:¬ (j:Int)<1:=by omega
 by_cases VX:j<=16;{
 have Mt:¬ (16:Int)<(j:Int):=by omega
 rw [HK.1 ⟨hj1,VX⟩,Bool.true_and] at he;have HE2:=ae he.symm;clear he O7;go_wp2_with (at_builtin;refine nT rfl _ _ rfl w.heap.size (.S pv k cv) k vs wr.heap.size rfl rfl (vF.below (aJ.alloc aA _)) pn j cn (by simp) (by omega) (by simp;omega) ?_);intro p' c' w3 VI uA;have b3:Bw w w3:=(bb2.alloc bb2.size _).grown uA (by simp;omega) (fun k hk=>(World.ownsRow.lt vF k hk).1);have HL3:=ae (Gw.app (B:=w.heap.size) (vs:=vs) ht EX Np qL hon (aJ.alloc aA _) uA (fun b hb=>(World.ownsRow.lt ho b hb).2) aR.size);clear uA;go_wp2;go_roundw
 case rel=>exact ⟨t,k+1,p',c',_,htn,by go_num,rfl,by omega,HE2,VI,HL3,b3⟩
 case measure=>simp [intOf];omega}
 {
 have Mt:=ja 16 j;rw [HK.2 (by omega),Bool.false_and] at he;subst he;go_wp2
 go_ret2
 exact ⟨(fun h=>by cases h),⟨_,rfl⟩,bb2⟩}};{
 have VY:(j:Int)<1:=by omega
 rw [HK.2 (by omega),Bool.false_and] at he;subst he;go_wp2
 go_ret2
 exact ⟨(fun h=>by cases h),⟨_,rfl⟩,bb2⟩}})}
 {
 have hx:(x==47)=false:=by simp [kL]
 have LO:(x != 47)=true:=by simp [kL]
 have eF:B=false:=by rw [<-aa dz,drop_cons (by rw [aa en];exact bj),aa EX];exact Cu kL
 subst eF;go_wp2
 go_ret2
 exact ⟨(fun h=>by cases h),⟨_,rfl⟩,aR⟩}};{
 have e:a=n:=by omega
 have bm:=dy a n;have Ey:=aa dz;rw [List.drop_eq_nil_of_le (by rw [aa en];omega),st] at Ey;by_cases h1:1<=k;{
 by_cases h8:k<=8;{
 have Hr:=dE 1 k;have RF:(k:Int)<=8:=by omega
 have eT:B=true:=by rw [<-Ey];simp [h1,h8]
 subst eT;subst e;go_wp2
 go_ret2
 exact ⟨fun _=>⟨pv,k,cv,vs,rfl,ho,h1,hLN.fin en ho h1⟩,⟨_,rfl⟩,aR⟩};{
 have Hr:=dE 1 k;have RF:¬ (k:Int)<=8:=by omega
 have eT:B=false:=by rw [<-Ey];simp [h8]
 subst eT;go_wp2
 go_ret2
 exact ⟨(fun h=>by cases h),⟨_,rfl⟩,aR⟩}};{
 have Hr:¬ (1:Int)<=(k:Int):=by omega
 have eT:B=false:=by rw [<-Ey];simp [h1]
 subst eT;go_wp2
 go_ret2
 exact ⟨(fun h=>by cases h),⟨_,rfl⟩,aR⟩}})
theorem Dm (p:Option Addr) (c n:Nat) (l:List Int) (en:Hid (l.length=n)) (w:World) (h:Rd w (.S p n c) l) (hb:bM l) (hl:n<=1048576) (B:Bool) (eB:Hid (vp l=B)) :
  Calls prog 138 #[.S p n c] w fun e w'=>(∃ v,e=.returned (.tuple #[v,.bool B]))/\Bw w w':=(rT p c n l en w h hb hl B eB).mono fun _ _ h=>h.2
end Go.Proofs.YtcfcafeciggjeaaGreatDoor
