import Derived.Test.YtcfcafeciggjeaaGreatDoorVPm
import Derived.Test.YtcfcafeciggjeaaGreatDoorGC
import Derived.Test.YtcfcafeciggjeaaGreatDoorVPy
namespace Go.Proofs.YtcfcafeciggjeaaGreatDoor
set_option maxHeartbeats 4000000
set_option linter.all false
set_option maxRecDepth 100000
open Go.ChangeShapes Go.WideShapes Go.ChangeAt Go.RowKit
variable {B a j k:Nat} {b:Bool} {l:List Int} {v:Value} {vs:List Value}
theorem Rd.at {w:World} {p:Option Addr} {n c:Nat} (h:Rd w (.S p n c) l) (hl:0<l.length):∃ b o,p=some ⟨b,o,none⟩/\n=l.length/\∀ i,i<l.length->w.cell? ⟨b,o+i,none⟩=some (.int .u8 (l.getD i 0)):=by
 obtain ⟨p',c',e,h⟩:=h;simp only [Value.slice.injEq] at e;obtain ⟨rfl,rfl,-⟩:=e;rcases h with rfl | ⟨b,o,e2,hc⟩;{simp at hl};{exact ⟨b,o,e2,rfl,hc⟩}
theorem La (c:Int):(97<=c/\c<=122/\nK c=true)\/(122<c/\nK c=false)\/(48<=c/\c<=57/\nK c=true)\/(c=95/\nK c=true)\/(57<c/\c<97/\¬ c=95/\nK c=false)\/(c=45/\nK c=true)\/(c<48/\¬ c=45/\nK c=false):=by
 unfold nK;by_cases h1:97<=c<;>by_cases h2:c<=122<;>by_cases h3:48<=c<;>by_cases h4:c<=57<;>by_cases h5:c=45<;>by_cases h6:c=95<;>simp [h1,h2,h3,h4,h5,h6]<;>omega
theorem wY (c:Int) (w:World) :
  Calls Tryz.prog 165 #[.int .u8 c] w fun e w'=>e=.returned (.bool (nK c))/\w'=w:=by
 rcases La c with ⟨h1,h2,hb⟩ | ⟨h2,hb⟩ | ⟨h3,h4,hb⟩ | ⟨rfl,hb⟩ | ⟨h4,h1,h6,hb⟩ | ⟨rfl,hb⟩ | ⟨h3,h5,hb⟩;{rw [hb];go_enter Tryz.func165,Tryz.ntmps165;go_wp2;go_ret;exact ⟨rfl,rfl⟩};{rw [hb];have h1:(97:Int)<=c:=ab;have h3:(48:Int)<=c:=ab;have h2':¬ c<=122:=ab;have h4:¬ c<=57:=ab;have h5:¬ c=45:=ab;have h6:¬ c=95:=ab;go_enter Tryz.func165,Tryz.ntmps165;go_wp2;go_ret;exact ⟨by simp [h5,h6],rfl⟩};{rw [hb];have h1:¬ (97:Int)<=c:=ab;go_enter Tryz.func165,Tryz.ntmps165;go_wp2;go_ret;exact ⟨rfl,rfl⟩};{rw [hb];go_enter Tryz.func165,Tryz.ntmps165;go_wp2;go_ret;exact ⟨rfl,rfl⟩};{rw [hb];have h1:¬ (97:Int)<=c:=ab;have h3:(48:Int)<=c:=ab;have h4:¬ c<=57:=ab;have h5:¬ c=45:=ab;go_enter Tryz.func165,Tryz.ntmps165;go_wp2;go_ret;exact ⟨by simp [h5,h6],rfl⟩};{rw [hb];go_enter Tryz.func165,Tryz.ntmps165;go_wp2;go_ret;exact ⟨rfl,rfl⟩};{rw [hb];have h1:¬ (97:Int)<=c:=ab;have h3':¬ (48:Int)<=c:=ab;have h6:¬ c=95:=ab;go_enter Tryz.func165,Tryz.ntmps165;go_wp2;go_ret;exact ⟨by simp [h5,h6],rfl⟩}
theorem Tryz.infoSl:(Tryz.prog.info? 22).map (fun i=>(i.zero,i.size,i.bytes))=some (some (.S none 0 0),1,24):=by kernel_rfl
def pR (B:Nat) (w:World) (v:Value) (n:Nat) (vs:List Value):Prop:=w.ownsRow B 22 1 v n vs
theorem pR.nil (B:Nat) (w:World):pR B w (.S none 0 0) 0 []:=World.ownsRow_nil _ _ _ _
theorem pR.form {w:World} {n:Nat} (h:pR B w v n vs):∃ p c,v=.S p n c:=by
 rcases h.2 with ⟨rfl,h0⟩ | ⟨g,cap,cur,rfl,_⟩;{exact ⟨none,0,by rw [h0]⟩};{exact ⟨_,_,rfl⟩}
theorem pR.below {w w':World} {n:Nat} (h:pR B w v n vs) (hb:Bw w w'):pR B w' v n vs:=
 World.ownsRow.kept h (row:=none) ⟨hb.os,hb.tape,hb.output,hb.size,fun k hk _=>hb.block k hk⟩ (by cases hv:v.ownBlock<;>simp)
theorem nT {w:World} {ops:Array Oper} {rest:List Oper} {o:Oper} {a:Act} {Q:Exit->Act->World->Prop} (jK:o.guard=none) (s x:Operand)
  (ho:o.op=.call { callee:=.builtin .append,args:=#[s,x],argTypes:=#[39,39] })
  (B:Nat) (v:Value) (n:Nat) (vs:List Value) (g:Nat) (hs:a.eval s=v) (hx:a.eval x=.S (some ⟨g,0,none⟩) 1 1) (h:pR B w v n vs) (pu:Option Addr) (nu cu:Nat) (hc:w.cell? ⟨g,0,none⟩=some (.S pu nu cu))
  (hl:n<=2097152) (hB:B<=w.heap.size)
  (hK:∀ p' c' w',pR B w' (.S p' (n+1) c') (n+1) (vs++[.S pu nu cu])->w.grownBy w' v.ownBlock->wpList Tryz.prog ops Q rest (a.put o.dst (.S p' (n+1) c')) w'):wpList Tryz.prog ops Q (o::rest) a w:=by
 obtain ⟨i,hi,mw,iT,jW⟩:=info_parts Tryz.infoSl;refine wpList_append_own w jK s x 39 ho B 22 i _ 1 24 Tryz.underlying39 hi mw iT jW rfl bl v _ _ hs h ⟨g,0,none⟩ 1 1 [.S pu nu cu] hx rfl ?_ ?_ jC ab hB ?_;{
 intro j u hu;have e:j=0:=by have:=(aN.1 hu).1;simpa using this
 subst e;simp at hu;subst hu;exact hc};{
 intro u hu;simp at hu;subst hu
 rfl}
 {intro v' w' h1 h2 _;have h3:pR B w' v' (n+1) (vs++[.S pu nu cu]):=h1;obtain ⟨p',c',rfl⟩:=h3.form;exact hK p' c' w' h3 h2}
open Go.Proofs.Tryz
theorem drop_cons (h:a<l.length):l.drop a=l.getD a 0::l.drop (a+1):=by
 rw [List.drop_eq_getElem_cons h];simp [List.getD,h]
theorem P8 (h0:st k (l.drop a)=b) (ha:a<l.length) (kL:l.getD a 0=47) (qL:∀ x∈(l.drop (a+1)).take j,nK x=true) (hj:a+1+j<=l.length) (Rj:a+1+j=l.length\/l.getD (a+1+j) 0=47) :
  b=(iQ ((l.drop (a+1)).take j)&&st (k+1) (l.drop (a+1+j))):=by
 rw [<-h0,drop_cons ha,kL];have e:l.drop (a+1)=(l.drop (a+1)).take j++l.drop (a+1+j):=by have e:=(List.take_append_drop j (l.drop (a+1))).symm;rw [List.drop_drop] at e;exact e
 by_cases hl:a+1+j=l.length;{
 have e0:l.drop (a+1+j)=[]:=List.drop_eq_nil_of_le ab;rw [e0,List.append_nil] at e;rw [e0]
 conv=>lhs;rw [e]
 exact UW qL};{
 rcases Rj with h | h;{exact absurd h hl};{
 have e1:=drop_cons (l:=l) (a:=a+1+j) ab;rw [h] at e1;rw [e1] at e ⊢
 conv=>lhs;rw [e]
 exact Qa qL}}
theorem Ky (h0:st k (l.drop a)=b) (ha:a<l.length) (kL:l.getD a 0=47) (qL:∀ x∈(l.drop (a+1)).take j,nK x=true) (hj:a+1+j<l.length) (hn:¬ l.getD (a+1+j) 0=47) (hb:nK (l.getD (a+1+j) 0)=false):b=false:=by
 rw [<-h0,drop_cons ha,kL];have e:l.drop (a+1)=(l.drop (a+1)).take j++l.drop (a+1+j):=by have e:=(List.take_append_drop j (l.drop (a+1))).symm;rw [List.drop_drop] at e;exact e
 rw [drop_cons hj] at e;rw [e];exact UX qL hn hb
def Gw (l:List Int) (a B:Nat) (w:World) (vs:List Value):Prop:=(vs=[]/\a=0)\/∃ s j v,vs.getLast?=some v/\a=s+1+j/\l.getD s 0=47/\(∀ y∈(l.drop (s+1)).take j,nK y=true)/\Own B w v ((l.drop (s+1)).take j)
def an0 (l:List Int) (B:Nat) (w:World) (vs:List Value):Prop:=∃ s v,vs.getLast?=some v/\s<l.length/\l.getD s 0=47/\(∀ y∈l.drop (s+1),nK y=true)/\Own B w v (l.drop (s+1))
theorem Gw.fin {n k B:Nat} {w:World} (h:Gw l n B w vs) (en:l.length=n) (ho:pR B w v k vs) (hk:1<=k):an0 l B w vs:=by
 rcases h with ⟨rfl,-⟩ | ⟨s,j,v,h1,h2,h3,h4,h5⟩;{have:=ho.1;simp at this;omega};{have e:(l.drop (s+1)).take j=l.drop (s+1):=List.take_of_length_le dx;rw [e] at h4 h5;exact ⟨s,v,h1,ab,h3,h4,h5⟩}
theorem Gw.app {nm:List Int} {t C:Nat} {w w1 w3:World} {r:Value} (ht:t=a+1+j) (kL:l.getD a 0=47) (Np:nm=(l.drop (a+1)).take j) (qL:∀ y∈nm,nK y=true) (ho:Own C w v nm) (hb:Bw w w1) (hg:w1.grownBy w3 r.ownBlock) (hr:∀ b,r.ownBlock=some b->b<C) (hC:B<=C):Gw l t B w3 (vs++[v]):=by
 subst Np;refine .inr ⟨a,j,v,aU,ht,kL,qL,Own.mono ((Own.below ho hb).Vs (Kept.Lj (vs:=[r]) hg aU) (fun u hu b hb e=>?_)) hC⟩;simp at hu;subst hu;have:=hr b e;have:=(ho.lt b hb).1;omega
def NmE (l:List Int) (C:Nat) (B:Bool) (e:Ending) (w':World):Prop:=B=true->∃ p k c vs,e=.returned (.tuple #[.S p k c,.bool true])/\pR C w' (.S p k c) k vs/\1<=k/\an0 l C w' vs
theorem rT (p:Option Addr) (c n:Nat) (l:List Int) (en:Hid (l.length=n)) (w:World) (h:Rd w (.S p n c) l) (hb:bM l) (hl:n<=1048576) (B:Bool) (eB:Hid (vp l=B)) :
  Calls prog 138 #[.S p n c] w fun e w'=>NmE l w.heap.size B e w'/\(∃ v,e=.returned (.tuple #[v,.bool B]))/\Bw w w':=by
 have HR:=ae h;have HB:=ae hb;clear h hb;go_enter func138,ntmps138;go_wp2
 go_loopw [4,5] (fun ov i wr=>∃ (a k:Nat) (pv:Option Addr) (cv:Nat) (vs:List Value),a<=n/\i=.I a/\ov=.S pv k cv/\k<=a/\Hid (st k (l.drop a)=B)/\pR w.heap.size wr (.S pv k cv) k vs/\Hid (Gw l a w.heap.size wr vs)/\Bw w wr) (fun _ i _=>n-(intOf i).toNat)
 case atStart=>exact ⟨0,0,none,0,[],Nat.zero_le _,rfl,rfl,Nat.le_refl _,(by show _=_;exact eB),pR.nil _ _,ae (.inl ⟨rfl,rfl⟩),Below.refl _ _⟩
 case round =>(
 obtain ⟨a,k,pv,cv,vs,ha,rfl,rfl,hka,dz,ho,hLN,aR⟩:=hrel;have Fz:=aR.size;by_cases bj:a<n;{
 have da:=aT a n;obtain ⟨b,o,rfl,-,hc⟩:=HR.at (by rw [aa en];omega);have bG:∀ (i:Nat) (w':World),i<n->Bw w w'->w'.cell? ⟨b,o+i,none⟩=some (.int .u8 (l.getD i 0)):=fun i w' hi cR=>(cR.cell (p:=⟨b,o+i,none⟩) (World.block_lt_of_cell? w _ (hc i (by rw [aa en];exact hi)))).trans (hc i (by rw [aa en];exact hi));have HC:=ae bG;have hca:=bG a wr bj aR;clear hc bG;obtain ⟨x,ex⟩:=aH (l.getD a 0);rw [ex] at hca;have EX:=ae ex;clear ex;by_cases kL:x=47;{
 subst kL;go_wp2_with fail
 go_loopw [5,6] (fun i nv w2=>∃ (t j:Nat) (pn:Option Addr) (cn:Nat) (nm:List Int),Hid (t=a+1+j)/\t<=n/\a<t/\j<t/\i=.I t/\nv=.S pn j cn/\Hid (nm=(l.drop (a+1)).take j)/\Hid (nm.length=j)/\Hid (∀ y∈nm,nK y=true)/\Own wr.heap.size w2 (.S pn j cn) nm/\Bw wr w2) (fun i _ _=>n-(intOf i).toNat)
 case atStart=>exact ⟨a+1,0,none,0,[],rfl,ab,ab,ab,by go_num,rfl,rfl,rfl,(by intro y hy;simp at hy),World.ownsRow_nil _ _ _ _,Below.refl _ _⟩
 case round =>(
 obtain ⟨t,j,pn,cn,nm,ht,htn,gS,hjt,rfl,rfl,Np,elj,qL,hon,cX⟩:=hrel;have jW:=cX.size;have bb2:=ah aR cX;have vF:=ho.below cX;have Rj:(t=n\/l.getD t 0=47)->B=(iQ nm&&st (k+1) (l.drop t)):=fun he=>by have:=P8 (j:=j) (aa dz) (by rw [aa en];exact bj) (aa EX) (by rw [<-aa Np];exact aa qL) (by rw [aa en,<-aa ht];exact htn) (by rw [aa en,<-aa ht];exact he);rw [<-aa Np,<-aa ht] at this;exact this
 have iJ:(1<=j/\j<=16->iQ nm=true)/\(¬ (1<=j/\j<=16)->iQ nm=false):=by have ha:nm.all nK=true:=List.all_eq_true.2 qL;rw [iQ,aa elj,ha];constructor;{rintro ⟨h1,h2⟩;simp [h1,h2]};{intro h;simp;omega}
 have HE:=ae Rj;have HK:=ae iJ;clear Rj iJ;by_cases pK:t<n;{
 have Mu:=aT t n;have Tx:=aa HC t wr pK bb2;obtain ⟨z,ez⟩:=aH (l.getD t 0);rw [ez] at Tx;have EZ:=ae ez;clear ez;by_cases QU:z=47;{
 subst QU;have he:=aa HE (.inr EZ);by_cases hj1:1<=j;{
 have VY:¬ (j:Int)<1:=ab;by_cases VX:j<=16;{
 have Mt:¬ (16:Int)<(j:Int):=ab;rw [HK.1 ⟨hj1,VX⟩,Bool.true_and] at he;have HE2:=ae he.symm;clear he hca;go_wp2_with (at_builtin;refine nT rfl _ _ rfl w.heap.size (.S pv k cv) k vs wr.heap.size rfl rfl (vF.below (aJ.alloc aA _)) pn j cn aU ab dx ?_);intro p' c' w3 VI uA;have b3:Bw w w3:=(bb2.alloc bb2.size _).grown uA dx (fun k hk=>(World.ownsRow.lt vF k hk).1);have HL3:=ae (Gw.app (B:=w.heap.size) (vs:=vs) ht EX Np qL hon (aJ.alloc aA _) uA (fun b hb=>(World.ownsRow.lt ho b hb).2) aR.size);clear uA;go_wp2;go_roundw
 case rel=>exact ⟨t,k+1,p',c',_,htn,by go_num,rfl,ab,HE2,VI,HL3,b3⟩
 exact dC};{
 have Mt:=ja 16 j;rw [HK.2 ab,Bool.false_and] at he;subst he;go_wp2
 go_ret2
 exact ⟨(fun h=>by cases h),⟨_,rfl⟩,bb2⟩}};{
 have VY:(j:Int)<1:=ab;rw [HK.2 ab,Bool.false_and] at he;subst he;go_wp2
 go_ret2
 exact ⟨(fun h=>by cases h),⟨_,rfl⟩,bb2⟩}};{
 have JU:(z==47)=false:=by simp [QU]
 have bO7:(z != 47)=true:=by simp [QU]
 go_wp2_with fail;refine (wY z _).mono ?_;rintro e w3 ⟨rfl,rfl⟩;by_cases hzb:nK z=true;{
 rw [hzb];have ai3:Hid (nm++[z]=(l.drop (a+1)).take (j+1)):=by
  show _=_;have e1:(l.drop (a+1))[j]?=some z:=by rw [List.getElem?_drop,<-aa ht,<-aa EZ];simp [List.getD,aa en,pK]
  rw [List.take_add_one,e1,aa Np]
  rfl
 have WV:Hid ((nm++[z]).length=j+1):=by show _=_;rw [List.length_append,aa elj];rfl
 have ab1:Hid (∀ y∈nm++[z],nK y=true):=by intro y hy;rcases List.mem_append.1 hy with h | h;{exact qL y h};{simp at h;rw [h];exact hzb}
 have ht2:Hid (t+1=a+1+(j+1)):=by show _=_;have:=aa ht;omega
 obtain ⟨nm2,WQ⟩:=ax (nm++[z]);rw [<-WQ] at ai3 WV ab1;have Gf:=ae WQ;clear WQ vF;go_wp2_with (at_builtin;refine ga rfl _ _ rfl _ (.S pn j cn) nm nm2 z Gf w3.heap.size rfl rfl (Own.below hon (aJ.alloc aA _)) aU (by rw [aa elj];omega) dx ?_);intro p' c' w4 ho4 sw;have b4:=(cX.alloc cX.size _).grown sw dx (fun k hk=>(hon.lt k hk).1);rw [aa WV] at ho4 ⊢;clear sw;go_wp2;go_roundw
 case rel=>exact ⟨t+1,j+1,p',c',nm2,ht2,ab,ab,ab,by go_num,rfl,ai3,WV,ab1,ho4,b4⟩
 exact dC};{
 have hzf:nK z=false:=by simpa using hzb
 rw [hzf];have eF:B=false:=by have e:=aa ht;exact Ky (j:=j) (aa dz) (by rw [aa en];exact bj) (aa EX) (by rw [<-aa Np];exact aa qL) (by rw [aa en,<-e];exact pK) (by rw [<-e,aa EZ];exact QU) (by rw [<-e,aa EZ];exact hzf)
 subst eF;go_wp2
 go_ret2
 exact ⟨(fun h=>by cases h),⟨_,rfl⟩,bb2⟩}}};{
 have Mu:=dy t n;have he:=aa HE (.inl ab);by_cases hj1:1<=j;{
 have VY:¬ (j:Int)<1:=ab;by_cases VX:j<=16;{
 have Mt:¬ (16:Int)<(j:Int):=ab;rw [HK.1 ⟨hj1,VX⟩,Bool.true_and] at he;have HE2:=ae he.symm;clear he hca;go_wp2_with (at_builtin;refine nT rfl _ _ rfl w.heap.size (.S pv k cv) k vs wr.heap.size rfl rfl (vF.below (aJ.alloc aA _)) pn j cn aU ab dx ?_);intro p' c' w3 VI uA;have b3:Bw w w3:=(bb2.alloc bb2.size _).grown uA dx (fun k hk=>(World.ownsRow.lt vF k hk).1);have HL3:=ae (Gw.app (B:=w.heap.size) (vs:=vs) ht EX Np qL hon (aJ.alloc aA _) uA (fun b hb=>(World.ownsRow.lt ho b hb).2) aR.size);clear uA;go_wp2;go_roundw
 case rel=>exact ⟨t,k+1,p',c',_,htn,by go_num,rfl,ab,HE2,VI,HL3,b3⟩
 exact dC};{
 have Mt:=ja 16 j;rw [HK.2 ab,Bool.false_and] at he;subst he;go_wp2
 go_ret2
 exact ⟨(fun h=>by cases h),⟨_,rfl⟩,bb2⟩}};{
 have VY:(j:Int)<1:=ab;rw [HK.2 ab,Bool.false_and] at he;subst he;go_wp2
 go_ret2
 exact ⟨(fun h=>by cases h),⟨_,rfl⟩,bb2⟩}})}
 {
 have hx:(x==47)=false:=by simp [kL]
 have LO:(x != 47)=true:=by simp [kL]
 have eF:B=false:=by rw [<-aa dz,drop_cons (by rw [aa en];exact bj),aa EX];exact Cu kL
 subst eF;go_wp2
 go_ret2
 exact ⟨(fun h=>by cases h),⟨_,rfl⟩,aR⟩}};{
 have e:a=n:=ab;have da:=dy a n;have Ey:=aa dz;rw [List.drop_eq_nil_of_le (by rw [aa en];omega),st] at Ey;by_cases h1:1<=k;{
 by_cases h8:k<=8;{
 have Hr:=dE 1 k;have h8':(k:Int)<=8:=ab;have eT:B=true:=by rw [<-Ey];simp [h1,h8]
 subst eT;subst e;go_wp2
 go_ret2
 exact ⟨fun _=>⟨pv,k,cv,vs,rfl,ho,h1,hLN.fin en ho h1⟩,⟨_,rfl⟩,aR⟩};{
 have Hr:=dE 1 k;have h8':¬ (k:Int)<=8:=ab;have eT:B=false:=by rw [<-Ey];simp [h8]
 subst eT;go_wp2
 go_ret2
 exact ⟨(fun h=>by cases h),⟨_,rfl⟩,aR⟩}};{
 have Hr:¬ (1:Int)<=(k:Int):=ab;have eT:B=false:=by rw [<-Ey];simp [h1]
 subst eT;go_wp2
 go_ret2
 exact ⟨(fun h=>by cases h),⟨_,rfl⟩,aR⟩}})
theorem Dm (p:Option Addr) (c n:Nat) (l:List Int) (en:Hid (l.length=n)) (w:World) (h:Rd w (.S p n c) l) (hb:bM l) (hl:n<=1048576) (B:Bool) (eB:Hid (vp l=B)) :
  Calls prog 138 #[.S p n c] w fun e w'=>(∃ v,e=.returned (.tuple #[v,.bool B]))/\Bw w w':=(rT p c n l en w h hb hl B eB).mono fun _ _ h=>h.2
theorem pT (p:Option Addr) (c n:Nat) (l:List Int) (en:Hid (l.length=n)) (w:World) (h:Rd w (.S p n c) l) (hl:n<=2097152) (B:Bool) (eB:Hid (iQ l=B)) :
  Calls Tryz.prog 176 #[.S p n c] w fun e w'=>e=.returned (.bool B)/\Bw w w':=by
 have HR:=ae h;clear h;by_cases h1:1<=n;{
 by_cases h16:n<=16;{
 have Hr:¬ (n:Int)<1:=ab;have aS3:¬ (16:Int)<(n:Int):=ab;obtain ⟨b,o,rfl,-,hc⟩:=HR.at (by rw [aa en];omega);go_enter Tryz.func176,Tryz.ntmps176;have bG:∀ (i:Nat) (w':World),i<n->Bw w w'->w'.cell? ⟨b,o+i,none⟩=some (.int .u8 (l.getD i 0)):=fun i w' hi cR=>(cR.cell (p:=⟨b,o+i,none⟩) (World.block_lt_of_cell? w _ (hc i (by rw [aa en];exact hi)))).trans (hc i (by rw [aa en];exact hi));have HC:=ae bG;clear hc bG;go_wp2
 go_loopw [17] (fun i wr=>∃ k:Nat,k<=n/\i=.I k/\Hid (∀ j,j<k->nK (l.getD j 0)=true)/\Bw w wr) (fun i _=>n-(intOf i).toNat)
 case atStart=>exact ⟨0,Nat.zero_le _,rfl,(fun j hj=>ab),Below.refl _ _⟩
 case round =>(
 obtain ⟨k,hk,rfl,iJ,aR⟩:=hrel;by_cases bj:k<n;{
 have da:=aT k n;have zO:=aa HC k wr bj aR;obtain ⟨z,ez⟩:=aH (l.getD k 0);rw [ez] at zO;have EZ:=ae ez;clear ez;have oG:nK z=true->Hid (∀ j,j<k+1->nK (l.getD j 0)=true):=fun hz j hj=>by by_cases e:j=k;{rw [e,aa EZ];exact hz};{exact iJ j ab}
 have qe:nK z=false->B=false:=fun hz=>by
  rw [<-aa eB,iQ];have:l.all nK=false:=by
   rw [List.all_eq_false];refine ⟨z,?_,by simp [hz]⟩;rw [<-aa EZ];have Ms:k<l.length:=by rw [aa en];exact bj
   rw [show l.getD k 0=l[k] by simp [List.getD,Ms]];exact List.getElem_mem Ms
  rw [this];simp
 rcases La z with ⟨g1,g2,gb⟩ | ⟨g2,gb⟩ | ⟨g3,g4,gb⟩ | ⟨rfl,gb⟩ | ⟨g4,g1,g6,gb⟩ | ⟨rfl,gb⟩ | ⟨g3,g5,gb⟩;{
 have HN:=oG gb;clear oG qe;have g3:(48:Int)<=z:=ab;have g4:¬ z<=57:=ab;go_wp2;go_roundw
 case rel=>exact ⟨k+1,ab,by go_num,HN,aR⟩
 exact dC};{
 have eF:=qe gb;subst eF;clear oG qe;have g1:(97:Int)<=z:=ab;have g2':¬ z<=122:=ab;have g3:(48:Int)<=z:=ab;have g4:¬ z<=57:=ab;have g5:(z != 45)=true:=by simp;omega
 have g6:(z != 95)=true:=by simp;omega
 go_wp2;go_ret;exact ⟨rfl,aR⟩};{
 have HN:=oG gb;clear oG qe;have g1:¬ (97:Int)<=z:=ab;go_wp2;go_roundw
 case rel=>exact ⟨k+1,ab,by go_num,HN,aR⟩
 exact dC};{
 have HN:=oG gb;clear oG qe;go_wp2;go_roundw
 case rel=>exact ⟨k+1,ab,by go_num,HN,aR⟩
 exact dC};{
 have eF:=qe gb;subst eF;clear oG qe;have g1':¬ (97:Int)<=z:=ab;have g3:(48:Int)<=z:=ab;have g4':¬ z<=57:=ab;have g5:(z != 45)=true:=by simp;omega
 have g6':(z != 95)=true:=by simp [g6]
 go_wp2;go_ret;exact ⟨rfl,aR⟩};{
 have HN:=oG gb;clear oG qe;go_wp2;go_roundw
 case rel=>exact ⟨k+1,ab,by go_num,HN,aR⟩
 exact dC};{
 have eF:=qe gb;subst eF;clear oG qe;have g1:¬ (97:Int)<=z:=ab;have g3':¬ (48:Int)<=z:=ab;have g5':(z != 45)=true:=by simp [g5]
 have g6:(z != 95)=true:=by simp;omega
 go_wp2;go_ret;exact ⟨rfl,aR⟩}};{
 have da:=dy k n;have e:k=n:=ab;have eT:B=true:=by
  rw [<-aa eB,iQ,aa en];have:l.all nK=true:=by rw [List.all_eq_true];intro x hx;obtain ⟨i,hi,rfl⟩:=List.getElem_of_mem hx;have:=aa iJ i (by rw [aa en] at hi;omega);rwa [show l.getD i 0=l[i] by simp [List.getD,hi]] at this
  simp [h1,h16,this]
 subst eT;go_wp2;go_ret;exact ⟨rfl,aR⟩})}
 {
 have Hr:¬ (n:Int)<1:=ab;have aS3:=ja 16 n;have eF:B=false:=by rw [<-aa eB,iQ,aa en];simp [h16]
 subst eF;go_enter Tryz.func176,Tryz.ntmps176;go_wp2;go_ret;exact ⟨rfl,Below.refl _ _⟩}};{
 have Hr:(n:Int)<1:=ab;have eF:B=false:=by rw [<-aa eB,iQ,aa en];simp [h1]
 subst eF;go_enter Tryz.func176,Tryz.ntmps176;go_wp2;go_ret;exact ⟨rfl,Below.refl _ _⟩}
theorem Ix (b o n c:Nat) (t:List Int) (en:t.length=n) (g:Nat) (w:World) (hc:∀ i,i<n->w.cell? ⟨b,o+i,none⟩=some (.int .u8 (t.getD i 0))) (hg:w.cell? ⟨g,0,none⟩=some (.int .u8 47)) (hB:bM t) (hn:n<=c) (aO7:c<=maxLen) (hl:n<=2097152) (hm:∃ m,w.cell? ⟨2,0,none⟩=some (.I m)) (K:Nat) (eK:(du 47 t).length=K) :
  Calls Tryz.prog 175 #[.S (some ⟨b,o,none⟩) n c,.S (some ⟨g,0,none⟩) 1 1] w fun e w'=>e=.returned (.S (some ⟨w.heap.size,0,none⟩) K K)/\(∀ j nm,(du 47 t)[j]?=some nm->∃ p' c',w'.cell? ⟨w.heap.size,j,none⟩=some (.S p' nm.length c')/\Rd w' (.S p' nm.length c') nm)/\Bw w w':=by
 obtain ⟨m,hm⟩:=hm;have Rp:∀ (g o i:Nat),(⟨g,o,none⟩:Addr).add i=⟨g,o+i,none⟩:=fun g o i=>by
  unfold Addr.add;split;{next h=>subst h;rfl}
  {rfl}
 obtain ⟨e1,e2⟩:=vZ hB;refine (Any.bytes_Split Tryz.layS7 ⟨b,o,none⟩ ⟨g,0,none⟩ n c 1 1 t [47] m w en rfl hB (by intro y hy;simp at hy;subst hy;decide) (fun i hi=>by rw [Rp];exact hc i hi) (fun i hi=>by obtain rfl:i=0:=ab;exact hg) hn ab bl (by unfold maxLen at aO7;omega) bl hm).mono ?_
 rintro e w' ⟨rfl,q,rfl⟩;have ad9:Bw w ((w.alloc (.cells (Lib.splitV (Lib.bytesOf [47]) 0 (Lib.count (Lib.bytesOf t) (Lib.bytesOf [47])) ⟨b,o,none⟩ c (Lib.bytesOf t)).toArray (Tryz.layS7_ren.t 22))).drewN q):=⟨rfl,rfl,rfl,aU,fun k hk=>Below.heap_alloc _ _ k hk⟩;rw [e2,eK];refine ⟨rfl,fun j nm hj=>?_,ad9⟩;have Bf:j<(Lib.splitV (Lib.bytesOf [47]) 0 (Lib.count (Lib.bytesOf t) (Lib.bytesOf [47])) ⟨b,o,none⟩ c (Lib.bytesOf t)).length:=by rw [Lib.splitV_length,e1,List.length_map];exact (aN.1 hj).1
 obtain ⟨a',off,len,cp,ev,h1,h2,h3,h4⟩:=Lib.splitV_spec (Lib.bytesOf [47]) 0 bl (Nat.zero_le _) _ ⟨b,o,none⟩ c (Lib.bytesOf t) (by rw [Lib.bytesOf_length,en];exact hn) j _ (aK Bf);rw [e1,List.getElem?_map,hj] at h3;rw [Lib.bytesOf_length] at h2;have Np:nm=(t.drop off).take len:=by refine uI (Se hB nm (aF hj)) (fun z hz=>hB z (List.mem_of_mem_drop (List.mem_of_mem_take hz))) ?_;rw [Lib.bytesOf_take,Lib.bytesOf_drop];simpa using h3
 have WW:nm.length=len:=by rw [Np,List.length_take,List.length_drop];omega
 refine ⟨some a',cp,?_,?_⟩;{rw [World.cell?_drewN,World.cell?_alloc_new,List.getElem?_toArray,aK Bf,ev,WW]};{
 refine ⟨some a',cp,rfl,?_⟩;by_cases h0:len=0;{
 left
 exact List.length_eq_zero_iff.1 (by rw [WW];exact h0)};{
 right
 have ea:=h4 0 ab;rw [Rp,Nat.add_zero] at ea;refine ⟨b,o+off,?_,fun i hi=>?_⟩;{have:a'.add 0=a':=rfl;rw [<-this,ea]};{
 rw [WW] at hi;have la:((w.alloc (.cells (Lib.splitV (Lib.bytesOf [47]) 0 (Lib.count (Lib.bytesOf t) (Lib.bytesOf [47])) ⟨b,o,none⟩ c (Lib.bytesOf t)).toArray (Tryz.layS7_ren.t 22))).drewN q).cell? ⟨b,o+(off+i),none⟩=some (.int .u8 (t.getD (off+i) 0)):=
  (ad9.cell (p:=⟨b,o+(off+i),none⟩) (World.block_lt_of_cell? w _ (hc (off+i) ab))).trans (hc (off+i) ab)
 rw [Nat.add_assoc,la,Np];have:((t.drop off).take len).getD i 0=t.getD (off+i) 0:=by simp [List.getD,List.getElem?_take,hi,List.getElem?_drop]
 rw [this]}}}
end Go.Proofs.YtcfcafeciggjeaaGreatDoor
