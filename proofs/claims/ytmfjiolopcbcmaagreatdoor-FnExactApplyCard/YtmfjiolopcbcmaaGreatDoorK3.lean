import Derived.Test.YtmfjiolopcbcmaaGreatDoorK1
import Derived.Test.YtmfjiolopcbcmaaGreatDoorGC
namespace Go.Proofs.YtmfjiolopcbcmaaGreatDoor
set_option maxHeartbeats 4000000
set_option linter.unusedVariables false
set_option linter.unusedSimpArgs false
set_option maxRecDepth 100000
open Go.ChangeShapes Go.WideShapes Go.ChangeAt Go.RowKit
variable {B a j k:Nat} {b:Bool} {l:List Int} {v:Value} {vs:List Value} {w:World}
theorem Rd.at {p:Option Addr} {n c:Nat} (h:Rd w (.slice p n c) l) (hl:0<l.length):∃ b o,p=some ⟨b,o,none⟩/\n=l.length/\∀ i,i<l.length->w.cell? ⟨b,o+i,none⟩=some (.int .u8 (l.getD i 0)):=by
 obtain ⟨p',c',e,h⟩:=h;simp only [Value.slice.injEq] at e;obtain ⟨rfl,rfl,-⟩:=e;rcases h with rfl | ⟨b,o,e2,hc⟩;{simp at hl};{exact ⟨b,o,e2,rfl,hc⟩}
theorem Ca (c:Int):(97<=c/\c<=122/\mL c=true)\/(122<c/\mL c=false)\/(48<=c/\c<=57/\mL c=true)\/(c=95/\mL c=true)\/(57<c/\c<97/\¬ c=95/\mL c=false)\/(c=45/\mL c=true)\/(c<48/\¬ c=45/\mL c=false):=by
 unfold mL;by_cases h1:97<=c<;>by_cases h2:c<=122<;>by_cases h3:48<=c<;>by_cases h4:c<=57<;>by_cases h5:c=45<;>by_cases h6:c=95<;>simp [h1,h2,h3,h4,h5,h6]<;>omega
theorem uW (c:Int) (w:World) :
  Calls Tryz.prog 137 #[.int .u8 c] w fun e w'=>e=.returned (.bool (mL c))/\w'=w:=by
 rcases Ca c with ⟨h1,h2,hb⟩ | ⟨h2,hb⟩ | ⟨h3,h4,hb⟩ | ⟨rfl,hb⟩ | ⟨h4,h1,h6,hb⟩ | ⟨rfl,hb⟩ | ⟨h3,h5,hb⟩;{rw [hb];go_enter Tryz.func137,Tryz.ntmps137;go_wp2;go_ret;exact ⟨rfl,rfl⟩};{
 rw [hb];have h1:(97:Int)<=c:=by omega
 have h3:(48:Int)<=c:=by omega
 have h2':¬ c<=122:=by omega
 have h4:¬ c<=57:=by omega
 have h5:¬ c=45:=by omega
 have h6:¬ c=95:=by omega
 go_enter Tryz.func137,Tryz.ntmps137;go_wp2;go_ret;exact ⟨by simp [h5,h6],rfl⟩};{
 rw [hb];have h1:¬ (97:Int)<=c:=by omega
 go_enter Tryz.func137,Tryz.ntmps137;go_wp2;go_ret;exact ⟨rfl,rfl⟩};{rw [hb];go_enter Tryz.func137,Tryz.ntmps137;go_wp2;go_ret;exact ⟨rfl,rfl⟩};{
 rw [hb];have h1:¬ (97:Int)<=c:=by omega
 have h3:(48:Int)<=c:=by omega
 have h4:¬ c<=57:=by omega
 have h5:¬ c=45:=by omega
 go_enter Tryz.func137,Tryz.ntmps137;go_wp2;go_ret;exact ⟨by simp [h5,h6],rfl⟩};{rw [hb];go_enter Tryz.func137,Tryz.ntmps137;go_wp2;go_ret;exact ⟨rfl,rfl⟩};{
 rw [hb];have h1:¬ (97:Int)<=c:=by omega
 have h3':¬ (48:Int)<=c:=by omega
 have h6:¬ c=95:=by omega
 go_enter Tryz.func137,Tryz.ntmps137;go_wp2;go_ret;exact ⟨by simp [h5,h6],rfl⟩}
theorem Tryz.infoSl:(Tryz.prog.info? 27).map (fun i=>(i.zero,i.size,i.bytes))=some (some (.slice none 0 0),1,24):=by kernel_rfl
def oH (B:Nat) (w:World) (v:Value) (n:Nat) (vs:List Value):Prop:=w.ownsRow B 27 1 v n vs
theorem oH.nil (B:Nat) (w:World):oH B w (.slice none 0 0) 0 []:=World.ownsRow_nil _ _ _ _
theorem oH.form {n:Nat} (h:oH B w v n vs):∃ p c,v=.slice p n c:=by
 rcases h.2 with ⟨rfl,h0⟩ | ⟨g,cap,cur,rfl,_⟩;{exact ⟨none,0,by rw [h0]⟩};{exact ⟨_,_,rfl⟩}
theorem oH.below {w':World} {n:Nat} (h:oH B w v n vs) (hb:Below w.heap.size w w'):oH B w' v n vs:=
 World.ownsRow.kept h (row:=none) ⟨hb.os,hb.tape,hb.output,hb.size,fun k hk _=>hb.block k hk⟩ (by cases hv:v.ownBlock<;>simp)
theorem mR {ops:Array Oper} {rest:List Oper} {o:Oper} {a:Act} {Q:Exit->Act->World->Prop} (kM:o.guard=none) (s x:Operand)
  (ho:o.op=.call { callee:=.builtin .append,args:=#[s,x],argTypes:=#[36,36] })
  (B:Nat) (v:Value) (n:Nat) (vs:List Value) (g:Nat) (hs:a.eval s=v) (hx:a.eval x=.slice (some ⟨g,0,none⟩) 1 1) (h:oH B w v n vs) (pu:Option Addr) (nu cu:Nat) (hc:w.cell? ⟨g,0,none⟩=some (.slice pu nu cu))
  (hl:n<=2097152) (hB:B<=w.heap.size)
  (hK:∀ p' c' w',oH B w' (.slice p' (n+1) c') (n+1) (vs++[.slice pu nu cu])->w.grownBy w' v.ownBlock->wpList Tryz.prog ops Q rest (a.put o.dst (.slice p' (n+1) c')) w'):wpList Tryz.prog ops Q (o::rest) a w:=by
 obtain ⟨i,hi,jG,gi,gP⟩:=info_parts Tryz.infoSl;refine wpList_append_own w kM s x 36 ho B 27 i _ 1 24 Tryz.underlying36 hi jG gi gP rfl (by decide) v _ _ hs h ⟨g,0,none⟩ 1 1 [.slice pu nu cu] hx rfl ?_ ?_ (by unfold maxLen;omega) (by omega) hB ?_;{
 intro j u hu;have e:j=0:=by have:=(aM.1 hu).1;simpa using this
 subst e;simp at hu;subst hu;exact hc};{
 intro u hu;simp at hu;subst hu
 rfl}
 {intro v' w' h1 h2 _;have h3:oH B w' v' (n+1) (vs++[.slice pu nu cu]):=h1;obtain ⟨p',c',rfl⟩:=h3.form;exact hK p' c' w' h3 h2}
open Go.Proofs.Tryz
theorem drop_cons (h:a<l.length):l.drop a=l.getD a 0::l.drop (a+1):=by
 rw [List.drop_eq_getElem_cons h];simp [List.getD,h]
theorem OE (h0:st k (l.drop a)=b) (ha:a<l.length) (j9:l.getD a 0=47) (oY:∀ x∈(l.drop (a+1)).take j,mL x=true) (hj:a+1+j<=l.length) (PX:a+1+j=l.length\/l.getD (a+1+j) 0=47) :
  b=(gS ((l.drop (a+1)).take j)&&st (k+1) (l.drop (a+1+j))):=by
 rw [<-h0,drop_cons ha,j9];have e:l.drop (a+1)=(l.drop (a+1)).take j++l.drop (a+1+j):=by have e:=(List.take_append_drop j (l.drop (a+1))).symm;rw [List.drop_drop] at e;exact e
 by_cases hl:a+1+j=l.length;{
 have e0:l.drop (a+1+j)=[]:=List.drop_eq_nil_of_le (by omega);rw [e0,List.append_nil] at e;rw [e0]
 conv=>lhs;rw [e]
 exact TD oY};{
 rcases PX with h | h;{exact absurd h hl};{
 have e1:=drop_cons (l:=l) (a:=a+1+j) (by omega);rw [h] at e1;rw [e1] at e ⊢
 conv=>lhs;rw [e]
 exact OG oY}}
theorem JI (h0:st k (l.drop a)=b) (ha:a<l.length) (j9:l.getD a 0=47) (oY:∀ x∈(l.drop (a+1)).take j,mL x=true) (hj:a+1+j<l.length) (hn:¬ l.getD (a+1+j) 0=47) (hb:mL (l.getD (a+1+j) 0)=false):b=false:=by
 rw [<-h0,drop_cons ha,j9];have e:l.drop (a+1)=(l.drop (a+1)).take j++l.drop (a+1+j):=by have e:=(List.take_append_drop j (l.drop (a+1))).symm;rw [List.drop_drop] at e;exact e
 rw [drop_cons hj] at e;rw [e];exact TE oY hn hb
def FO (l:List Int) (a B:Nat) (w:World) (vs:List Value):Prop:=(vs=[]/\a=0)\/∃ s j v,vs.getLast?=some v/\a=s+1+j/\l.getD s 0=47/\(∀ y∈(l.drop (s+1)).take j,mL y=true)/\Own B w v ((l.drop (s+1)).take j)
def ae0 (l:List Int) (B:Nat) (w:World) (vs:List Value):Prop:=∃ s v,vs.getLast?=some v/\s<l.length/\l.getD s 0=47/\(∀ y∈l.drop (s+1),mL y=true)/\Own B w v (l.drop (s+1))
theorem FO.fin {n k B:Nat} (h:FO l n B w vs) (en:l.length=n) (ho:oH B w v k vs) (hk:1<=k):ae0 l B w vs:=by
 rcases h with ⟨rfl,-⟩ | ⟨s,j,v,h1,h2,h3,h4,h5⟩;{have:=ho.1;simp at this;omega};{have e:(l.drop (s+1)).take j=l.drop (s+1):=List.take_of_length_le (by simp;omega);rw [e] at h4 h5;exact ⟨s,v,h1,by omega,h3,h4,h5⟩}
theorem FO.app {nm:List Int} {t C:Nat} {w1 w3:World} {r v:Value} (ht:t=a+1+j) (j9:l.getD a 0=47) (L6:nm=(l.drop (a+1)).take j) (oY:∀ y∈nm,mL y=true) (ho:Own C w v nm) (hb:Below w.heap.size w w1) (hg:w1.grownBy w3 r.ownBlock) (hr:∀ b,r.ownBlock=some b->b<C) (hC:B<=C):FO l t B w3 (vs++[v]):=by
 subst L6;refine .inr ⟨a,j,v,by simp,ht,j9,oY,Own.mono ((Own.below ho hb).Um (Kept.J4 (vs:=[r]) hg (by simp)) (fun u hu b hb e=>?_)) hC⟩;simp at hu;subst hu;have:=hr b e;have:=(ho.lt b hb).1;omega
def NmE (l:List Int) (C:Nat) (B:Bool) (e:Ending) (w':World):Prop:=B=true->∃ p k c vs,e=.returned (.tuple #[.slice p k c,.bool true])/\oH C w' (.slice p k c) k vs/\1<=k/\ae0 l C w' vs
theorem qX (p:Option Addr) (c n:Nat) (l:List Int) (en:Hid (l.length=n)) (w:World) (h:Rd w (.slice p n c) l) (hb:cT l) (hl:n<=1048576) (B:Bool) (eB:Hid (vp l=B)) :
  Calls prog 102 #[.slice p n c] w fun e w'=>NmE l w.heap.size B e w'/\(∃ v,e=.returned (.tuple #[v,.bool B]))/\Below w.heap.size w w':=by
 have HR:=ae h;have HB:=ae hb;clear h hb;go_enter func102,ntmps102;go_wp2
 go_loopw [4,5] (fun ov i wr=>∃ (a k:Nat) (pv:Option Addr) (cv:Nat) (vs:List Value),a<=n/\i=.int .i64 a/\ov=.slice pv k cv/\k<=a/\Hid (st k (l.drop a)=B)/\oH w.heap.size wr (.slice pv k cv) k vs/\Hid (FO l a w.heap.size wr vs)/\Below w.heap.size w wr) (fun _ i _=>n-(intOf i).toNat)
 case atStart=>exact ⟨0,0,none,0,[],Nat.zero_le _,rfl,rfl,Nat.le_refl _,(by show _=_;exact eB),oH.nil _ _,ae (.inl ⟨rfl,rfl⟩),Below.refl _ _⟩
 case round =>(
 obtain ⟨a,k,pv,cv,vs,ha,rfl,rfl,hka,cF,ho,hLN,aE⟩:=hrel;have pR:=aE.size;by_cases aU:a<n;{
 have aV:(a:Int)<(n:Int):=by omega
 obtain ⟨b,o,rfl,-,hc⟩:=HR.at (by rw [aa en];omega);have bD:∀ (i:Nat) (w':World),i<n->Below w.heap.size w w'->w'.cell? ⟨b,o+i,none⟩=some (.int .u8 (l.getD i 0)):=fun i w' hi bu=>(bu.cell (p:=⟨b,o+i,none⟩) (World.block_lt_of_cell? w _ (hc i (by rw [aa en];exact hi)))).trans (hc i (by rw [aa en];exact hi));have HC:=ae bD;have hca:=bD a wr aU aE;clear hc bD;obtain ⟨x,ex⟩:=aZ (l.getD a 0);rw [ex] at hca;have EX:=ae ex;clear ex;by_cases j9:x=47;{
 subst j9;go_wp2_with fail
 go_loopw [5,6] (fun i nv w2=>∃ (t j:Nat) (pn:Option Addr) (cn:Nat) (nm:List Int),Hid (t=a+1+j)/\t<=n/\a<t/\j<t/\i=.int .i64 t/\nv=.slice pn j cn/\Hid (nm=(l.drop (a+1)).take j)/\Hid (nm.length=j)/\Hid (∀ y∈nm,mL y=true)/\Own wr.heap.size w2 (.slice pn j cn) nm/\Below wr.heap.size wr w2) (fun i _ _=>n-(intOf i).toNat)
 case atStart=>exact ⟨a+1,0,none,0,[],rfl,by omega,by omega,by omega,by go_num,rfl,rfl,rfl,(by intro y hy;simp at hy),World.ownsRow_nil _ _ _ _,Below.refl _ _⟩
 case round =>(
 obtain ⟨t,j,pn,cn,nm,ht,htn,dE,hjt,rfl,rfl,L6,elj,oY,hon,aG⟩:=hrel;have gP:=aG.size;have bb2:=ai aE aG;have iC:=ho.below aG;have PX:(t=n\/l.getD t 0=47)->B=(gS nm&&st (k+1) (l.drop t)):=fun he=>by have:=OE (j:=j) (aa cF) (by rw [aa en];exact aU) (aa EX) (by rw [<-aa L6];exact aa oY) (by rw [aa en,<-aa ht];exact htn) (by rw [aa en,<-aa ht];exact he);rw [<-aa L6,<-aa ht] at this;exact this
 have ic:(1<=j/\j<=16->gS nm=true)/\(¬ (1<=j/\j<=16)->gS nm=false):=by have ha:nm.all mL=true:=List.all_eq_true.2 oY;rw [gS,aa elj,ha];constructor;{rintro ⟨h1,h2⟩;simp [h1,h2]};{intro h;simp;omega}
 have HE:=ae PX;have HK:=ae ic;clear PX ic;by_cases fP:t<n;{
 have KS:(t:Int)<(n:Int):=by omega
 have Sf:=aa HC t wr fP bb2;obtain ⟨z,ez⟩:=aZ (l.getD t 0);rw [ez] at Sf;have EZ:=ae ez;clear ez;by_cases PC:z=47;{
 subst PC;have he:=aa HE (.inr EZ);by_cases hj1:1<=j;{
 have UR:¬ (j:Int)<1:=by omega
 by_cases UQ:j<=16;{
 have KR:¬ (16:Int)<(j:Int):=by omega
 rw [HK.1 ⟨hj1,UQ⟩,Bool.true_and] at he;have HE2:=ae he.symm;clear he hca;go_wp2_with (at_builtin;refine mR rfl _ _ rfl w.heap.size (.slice pv k cv) k vs wr.heap.size rfl rfl (iC.below (ar.alloc ay _)) pn j cn (by simp) (by omega) (by simp;omega) ?_);intro p' c' w3 ho3 pf;have b3:Below w.heap.size w w3:=(bb2.alloc bb2.size _).grown pf (by simp;omega) (fun k hk=>(World.ownsRow.lt iC k hk).1);have HL3:=ae (FO.app (B:=w.heap.size) (vs:=vs) ht EX L6 oY hon (ar.alloc ay _) pf (fun b hb=>(World.ownsRow.lt ho b hb).2) aE.size);clear pf;go_wp2;go_roundw
 case rel=>exact ⟨t,k+1,p',c',_,htn,by go_num,rfl,by omega,HE2,ho3,HL3,b3⟩
 case measure=>simp [intOf];omega}
 {
 have KR:(16:Int)<(j:Int):=by omega
 rw [HK.2 (by omega),Bool.false_and] at he;subst he;go_wp2
 go_ret2
 exact ⟨(fun h=>by cases h),⟨_,rfl⟩,bb2⟩}};{
 have UR:(j:Int)<1:=by omega
 rw [HK.2 (by omega),Bool.false_and] at he;subst he;go_wp2
 go_ret2
 exact ⟨(fun h=>by cases h),⟨_,rfl⟩,bb2⟩}};{
 have Jc:(z==47)=false:=by simp [PC]
 have bz0:(z != 47)=true:=by simp [PC]
 go_wp2_with fail;refine (uW z _).mono ?_;rintro e w3 ⟨rfl,rfl⟩;by_cases hzb:mL z=true;{
 rw [hzb];have ZZ:Hid (nm++[z]=(l.drop (a+1)).take (j+1)):=by
  show _=_;have e1:(l.drop (a+1))[j]?=some z:=by rw [List.getElem?_drop,<-aa ht,<-aa EZ];simp [List.getD,aa en,fP]
  rw [List.take_add_one,e1,aa L6]
  rfl
 have VF:Hid ((nm++[z]).length=j+1):=by show _=_;rw [List.length_append,aa elj];rfl
 have YC:Hid (∀ y∈nm++[z],mL y=true):=by intro y hy;rcases List.mem_append.1 hy with h | h;{exact oY y h};{simp at h;rw [h];exact hzb}
 have ht2:Hid (t+1=a+1+(j+1)):=by show _=_;have:=aa ht;omega
 obtain ⟨nm2,VB⟩:=ax (nm++[z]);rw [<-VB] at ZZ VF YC;have VE:=ae VB;clear VB iC;go_wp2_with (at_builtin;refine pE rfl _ _ rfl _ (.slice pn j cn) nm nm2 z VE w3.heap.size rfl rfl (Own.below hon (ar.alloc ay _)) (by simp) (by rw [aa elj];omega) (by simp;omega) ?_);intro p' c' w4 ho4 qz;have b4:=(aG.alloc aG.size _).grown qz (by simp;omega) (fun k hk=>(hon.lt k hk).1);rw [aa VF] at ho4 ⊢;clear qz;go_wp2;go_roundw
 case rel=>exact ⟨t+1,j+1,p',c',nm2,ht2,by omega,by omega,by omega,by go_num,rfl,ZZ,VF,YC,ho4,b4⟩
 case measure=>simp [intOf];omega}
 {
 have hzf:mL z=false:=by simpa using hzb
 rw [hzf];have eF:B=false:=by have e:=aa ht;exact JI (j:=j) (aa cF) (by rw [aa en];exact aU) (aa EX) (by rw [<-aa L6];exact aa oY) (by rw [aa en,<-e];exact fP) (by rw [<-e,aa EZ];exact PC) (by rw [<-e,aa EZ];exact hzf)
 subst eF;go_wp2
 go_ret2
 exact ⟨(fun h=>by cases h),⟨_,rfl⟩,bb2⟩}}};{
 have KS:¬ (t:Int)<(n:Int):=by omega
 have he:=aa HE (.inl (by omega));by_cases hj1:1<=j;{
 have UR:¬ (j:Int)<1:=by omega
 by_cases UQ:j<=16;{
 have KR:¬ (16:Int)<(j:Int):=by omega
 rw [HK.1 ⟨hj1,UQ⟩,Bool.true_and] at he;have HE2:=ae he.symm;clear he hca;go_wp2_with (at_builtin;refine mR rfl _ _ rfl w.heap.size (.slice pv k cv) k vs wr.heap.size rfl rfl (iC.below (ar.alloc ay _)) pn j cn (by simp) (by omega) (by simp;omega) ?_);intro p' c' w3 ho3 pf;have b3:Below w.heap.size w w3:=(bb2.alloc bb2.size _).grown pf (by simp;omega) (fun k hk=>(World.ownsRow.lt iC k hk).1);have HL3:=ae (FO.app (B:=w.heap.size) (vs:=vs) ht EX L6 oY hon (ar.alloc ay _) pf (fun b hb=>(World.ownsRow.lt ho b hb).2) aE.size);clear pf;go_wp2;go_roundw
 case rel=>exact ⟨t,k+1,p',c',_,htn,by go_num,rfl,by omega,HE2,ho3,HL3,b3⟩
 case measure=>simp [intOf];omega}
 {
 have KR:(16:Int)<(j:Int):=by omega
 rw [HK.2 (by omega),Bool.false_and] at he;subst he;go_wp2
 go_ret2
 exact ⟨(fun h=>by cases h),⟨_,rfl⟩,bb2⟩}};{
 have UR:(j:Int)<1:=by omega
 rw [HK.2 (by omega),Bool.false_and] at he;subst he;go_wp2
 go_ret2
 exact ⟨(fun h=>by cases h),⟨_,rfl⟩,bb2⟩}})}
 {
 have hx:(x==47)=false:=by simp [j9]
 have Ku:(x != 47)=true:=by simp [j9]
 have eF:B=false:=by rw [<-aa cF,drop_cons (by rw [aa en];exact aU),aa EX];exact BH j9
 subst eF;go_wp2
 go_ret2
 exact ⟨(fun h=>by cases h),⟨_,rfl⟩,aE⟩}};{
 have e:a=n:=by omega
 have aV:¬ (a:Int)<(n:Int):=by omega
 have Au:=aa cF;rw [List.drop_eq_nil_of_le (by rw [aa en];omega),st] at Au;by_cases h1:1<=k;{
 by_cases h8:k<=8;{
 have GI:(1:Int)<=(k:Int):=by omega
 have Vo:(k:Int)<=8:=by omega
 have eT:B=true:=by rw [<-Au];simp [h1,h8]
 subst eT;subst e;go_wp2
 go_ret2
 exact ⟨fun _=>⟨pv,k,cv,vs,rfl,ho,h1,hLN.fin en ho h1⟩,⟨_,rfl⟩,aE⟩};{
 have GI:(1:Int)<=(k:Int):=by omega
 have Vo:¬ (k:Int)<=8:=by omega
 have eT:B=false:=by rw [<-Au];simp [h8]
 subst eT;go_wp2
 go_ret2
 exact ⟨(fun h=>by cases h),⟨_,rfl⟩,aE⟩}};{
 have GI:¬ (1:Int)<=(k:Int):=by omega
 have eT:B=false:=by rw [<-Au];simp [h1]
 subst eT;go_wp2
 go_ret2
 exact ⟨(fun h=>by cases h),⟨_,rfl⟩,aE⟩}})
theorem Cl (p:Option Addr) (c n:Nat) (l:List Int) (en:Hid (l.length=n)) (w:World) (h:Rd w (.slice p n c) l) (hb:cT l) (hl:n<=1048576) (B:Bool) (eB:Hid (vp l=B)) :
  Calls prog 102 #[.slice p n c] w fun e w'=>(∃ v,e=.returned (.tuple #[v,.bool B]))/\Below w.heap.size w w':=(qX p c n l en w h hb hl B eB).mono fun _ _ h=>h.2
end Go.Proofs.YtmfjiolopcbcmaaGreatDoor
