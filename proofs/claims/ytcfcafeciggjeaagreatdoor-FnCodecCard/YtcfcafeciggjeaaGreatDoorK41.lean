import Derived.Test.YtcfcafeciggjeaaGreatDoorK32
import Derived.Test.YtcfcafeciggjeaaGreatDoorAP3
import Derived.Test.YtcfcafeciggjeaaGreatDoorK33
import Derived.StillTailTactics
namespace Go.Proofs.YtcfcafeciggjeaaGreatDoor
set_option linter.all false
set_option maxRecDepth 100000
open Go.ChangeShapes Go.WideShapes Go.ChangeAt Go.RowKit Go.Maps
variable {D:SD} {P V:List Int} {e ep g ge mo x:Int} {k nh:Nat} {nd nd':aD} {ns:List aD} {s:aY} {ss:List aY}
theorem jw {P:Program} {w:World} {ops:Array Oper} {o:Oper} {a:Act} {K:Act->World->Prop} {Q:Exit->Act->World->Prop} {E:Prop} {R:Ending->World->Prop} (hw:Region.wanted o (yielded ops a.tmps)=true) (f:FuncId) (x1 x2:Operand) (Cq:Array TypeId)
  (ho:o.op=.call { callee:=.value (.func f),args:=#[x1,x2],argTypes:=Cq }) (v1 v2:Value) (h1:a.eval x1=v1) (h2:a.eval x2=v2) (ve:∀ vs,(callFunc f vs).run P w=.ok (.enter f vs) w) (hc:Calls P f #[v1,v2] w R) (hR:∀ e w',R e w'->∃ v,e=.returned v/\K (a.put o.dst v) w') :
  if Region.wanted o (yielded ops a.tmps)=true then Oper.wp P o a w K Q else E:=by
 rw [if_pos hw];have cK:(execOp a.eval o).run P w=.ok (.enter f #[v1,v2]) w:=by subst h1 h2;unfold execOp;simp [go_sem,ho,resolve,invoke,ve]
 show o.upon P a K Q _;rw [cK,Oper.upon_enter];refine hc.mono ?_;intro e w' h;obtain ⟨v,rfl,hk⟩:=hR e w' h;exact hk
theorem mQ {ids:List Int} (h:gq ss ids=true):∀ x∈ids,∃ s∈ss,s.1=x:=fun x hx=>by
 obtain ⟨i,hi⟩:=List.mem_iff_getElem?.1 hx;have:=List.all_eq_true.1 h i (by simpa using (aN.1 hi).1);unfold yy live at this;rw [List.getD_eq_getElem?_getD,hi] at this;simp only [Option.getD_some,Bool.and_eq_true,List.any_eq_true] at this;obtain ⟨s,hs,e⟩:=this.1;exact ⟨s,hs,by simpa using e⟩
theorem kF (h:dN e g mo nh ep ge=true) (hm:mo=1):nh=1:=by
 unfold dN at h;rw [if_pos hm] at h;simp at h;exact h.1
theorem CE (h:dN e g mo nh ep ge=true) (hm:mo≠1):ep=0/\ge=0/\(mo=0->nh=0):=by
 unfold dN at h;rw [if_neg hm] at h;simp only [Bool.and_eq_true,beq_iff_eq] at h;refine ⟨h.1,h.2.1,fun h0=>?_⟩;have:=h.2.2;rw [if_pos h0] at this;simpa using this
def Xu (w:World):Prop:=∀ k:Nat,1<=k->k<=13->sR w 0 (k*7) (rowOf k).1 (rowOf k).2.1 (rowOf k).2.2.1 (rowOf k).2.2.2.1 (rowOf k).2.2.2.2.1 (rowOf k).2.2.2.2.2.1 (rowOf k).2.2.2.2.2.2
section
variable {w0 w:World} {b bs bn:Nat} {D:SD} {SB NB HB UB:List Nat} {S F E G:Int} {pp:Option Addr} {np cp:Nat} {pq:Option Addr} {nv cv:Nat} {P V:List Int}
theorem rG {K:Int} (h:K≠13):jA K P=false:=by simp [jA,h]
end
theorem Vo (l m:List Int):Ti l m=decide (¬ ko m<ko l/\ko m≠ko l):=by
 unfold Ti;rw [T.j9,dR,dR];show (!decide (ko m<ko l)&&!(ko m==ko l))=_;by_cases h1:ko m<ko l<;>by_cases h2:ko m=ko l<;>simp [h1,h2]
theorem rZ {x:aD}:∀ {l:List aD},x∈jq nd l↔x=nd\/x∈l
 | []=>by simp [jq]
 | y::r=>by rw [jq];split;{simp};{rw [List.mem_cons,rZ,List.mem_cons];constructor;{rintro (h | h | h);{exact .inr (.inl h)};{exact .inl h};{exact .inr (.inr h)}};{rintro (h | h | h);{exact .inr (.inl h)};{exact .inl h};{exact .inr (.inr h)}}}
theorem ak8 {x y:List UInt8} (h1:¬ y<x) (h2:y≠x):x<y:=by
 rcases Decidable.em (x<y) with h | h;{exact h};{exact absurd (List.le_antisymm h1 h) (fun e=>h2 e.symm)}
theorem Fw :∀ {l:List aD},(l.map fun nd=>ko nd.path).Pairwise (·<·)->(∀ x∈l,ko x.path≠ko nd.path)->((jq nd l).map fun nd=>ko nd.path).Pairwise (·<·)
 | [],_,_=>by simp [jq]
 | y::r,h,gd=>by
  rw [List.map_cons,List.pairwise_cons] at h;obtain ⟨h1,h2⟩:=h;have hy:=gd y aU;rw [jq,Vo];split;{
 rename_i hl
 simp only [decide_eq_true_eq] at hl;have bj:ko nd.path<ko y.path:=ak8 hl.1 hl.2;rw [List.map_cons,List.map_cons,List.pairwise_cons,List.pairwise_cons];refine ⟨fun z hz=>?_,h1,h2⟩;rcases List.mem_cons.1 hz with rfl | hz;{exact bj};{exact List.lt_trans bj (h1 z hz)}};{
 rename_i hl
 simp only [decide_eq_true_eq] at hl;have bj:ko y.path<ko nd.path:=Decidable.byContradiction fun hh=>hl ⟨hh,hy⟩;rw [List.map_cons,List.pairwise_cons];refine ⟨fun z hz=>?_,Fw h2 (fun x hx=>gd x (by simp [hx]))⟩;obtain ⟨x,hx,rfl⟩:=List.mem_map.1 hz;rcases rZ.1 hx with rfl | hx;{exact bj};{exact h1 _ (List.mem_map.2 ⟨x,hx,rfl⟩)}}
theorem HJ {l m:List Int} (hl:bM l) (hm:bM m) (h:ko l=ko m):l=m:=jD hl hm (by unfold bN;exact congrArg Lit.string h)
def EvG (ev:Ev):Prop:=1<=ev.1/\ev.1<=3/\vp ev.2=true/\bM ev.2
theorem Ff {q:List Ev} {ev:Ev} (h:fy q=true) (he:EvG ev):fy (dM q ev)=true:=by
 unfold fy at h ⊢;simp only [Bool.and_eq_true,decide_eq_true_eq,List.all_eq_true,List.mem_range] at h ⊢;obtain ⟨h1,h2⟩:=h;have key:∀ (x:Ev),q.length<8->iy q.length x=true->(q++[x]).length<=8/\∀ i,i<(q++[x]).length->iy i ((q++[x]).getD i (0,[]))=true:=fun x hl hx=>by refine ⟨dx,fun i hi=>?_⟩;simp at hi;by_cases e:i<q.length;{rw [List.getD_eq_getElem?_getD,List.getElem?_append_left e,<-List.getD_eq_getElem?_getD];exact h2 i e};{have e':i=q.length:=ab;subst e';rw [List.getD_eq_getElem?_getD,List.getElem?_append_right aA,Nat.sub_self];exact hx}
 unfold dM;split;{refine key _ ab ?_;unfold iy;rw [if_neg ab];simp [he.1,he.2.1,he.2.2.1]};{
 split;{
 rename_i e7
 refine key _ ab ?_;unfold iy;rw [if_pos e7]
 rfl}
 {exact ⟨h1,h2⟩}}
def SV (x:Int) (s:aY):Prop:=(1<=s.1/\s.1<=x)/\(0<=s.2.1/\s.2.1<=1000015)/\fy s.2.2=true/\∀ e∈s.2.2,bM e.2
theorem SV.push (h:SV x s) {ev:Ev} (he:EvG ev):SV x (s.1,s.2.1,dM s.2.2 ev):=by
 refine ⟨h.1,h.2.1,Ff h.2.2.1 he,fun y hy=>?_⟩;simp only [dM] at hy;split at hy;{rcases List.mem_append.1 hy with h1 | h1;{exact h.2.2.2 y h1};{simp at h1;rw [h1];exact he.2.2.2}};{split at hy;{rcases List.mem_append.1 hy with h1 | h1;{exact h.2.2.2 y h1};{simp at h1;rw [h1];intro z hz;simp at hz}};{exact h.2.2.2 y hy}}
def iD (ss:List aY):List Int:=ss.map (·.1)
def vy (ns:List aD):List (List Int × Int):=ns.map fun nd=>(nd.path,nd.owner)
def CP (C:List (List Int × Int)) (l:List Int):Prop:=l=[47]\/(l,0)∈C
structure NV (e g:Int) (I:List Int) (C:List (List Int × Int)) (nd:aD):Prop where
 vp:vp nd.path=true
 pb:bM nd.path
 cp:CP C (dm nd.path)
 va:nd.value.length<=40
 vb:bM nd.value
 ow:nd.owner=0\/nd.owner∈I
 h1:nd.holders.Pairwise (·<·)
 h2:∀ i∈nd.holders,i∈I
 w1:nd.watchers.Pairwise (·<·)
 w2:∀ i∈nd.watchers,i∈I
 lk:dN e g nd.mode nd.holders.length nd.aB nd.gen=true
structure VD (D:SD):Prop where
 e:D.e<=4611686018427387904
 g:0<=D.g/\D.g<=4611686018427387904
 x:0<=D.x/\D.x<=4611686018427387904
 t:0<=D.t/\D.t<=1000000
 sl:D.ss.length<=50
 nl:D.ns.length<=200
 s1:(iD D.ss).Pairwise (·<·)
 s2:∀ s∈D.ss,SV D.x s
 n1:(D.ns.map fun nd=>ko nd.path).Pairwise (·<·)
 n2:∀ nd∈D.ns,NV D.e D.g (iD D.ss) (vy D.ns) nd
theorem GZ (hk:ns[k]?=some nd) (hp:nd'.path=nd.path) (ho:nd'.owner=nd.owner):vy (ns.set k nd')=vy ns:=by
 unfold vy;rw [List.map_set];exact kN (by rw [List.getElem?_map,hk];simp [hp,ho])
theorem VD.qy (h:VD D) (hk:D.ns[k]?=some nd) (hp:nd'.path=nd.path) (ho:nd'.owner=nd.owner) (hn:NV D.e D.g (iD D.ss) (vy D.ns) nd'):VD { D with ns:=D.ns.set k nd' }:=by
 refine ⟨h.e,h.g,h.x,h.t,h.sl,by show (List.set _ _ _).length<=_;rw [List.length_set];exact h.nl,h.s1,h.s2,?_,fun y hy=>?_⟩;{
 have e:(D.ns.set k nd').map (fun nd=>ko nd.path)=D.ns.map fun nd=>ko nd.path:=by have:=congrArg (List.map ko) (kk hk hp);rw [List.map_map,List.map_map] at this;exact this
 show List.Pairwise _ (List.map _ (D.ns.set k nd'));rw [e];exact h.n1};{show NV _ _ _ (vy (D.ns.set k nd')) y;rw [GZ hk hp ho];rcases List.mem_or_eq_of_mem_set hy with hy | rfl;{exact h.n2 y hy};{exact hn}}
theorem VD.KL (h:VD D) {ss':List aY} (hi:iD ss'=iD D.ss) (hs:∀ s∈ss',SV D.x s):VD { D with ss:=ss' }:=by
 have hl:ss'.length=D.ss.length:=by have:=congrArg List.length hi;simpa [iD] using this
 refine ⟨h.e,h.g,h.x,h.t,by show ss'.length<=_;rw [hl];exact h.sl,h.nl,by show List.Pairwise _ (iD ss');rw [hi];exact h.s1,hs,h.n1,fun y hy=>?_⟩;show NV _ _ (iD ss') _ y;rw [hi];exact h.n2 y hy
theorem Cs {ev:Ev} (he:EvG ev):∀ (ids:List Int) {ss:List aY},(∀ s∈ss,SV x s)->∀ s∈fN ss ids ev,SV x s
 | [],ss,h=>h
 | y::r,ss,h=>Cs he r (ss:=jG ss y ev) fun s hs=>by obtain ⟨s0,h0,rfl⟩:=List.mem_map.1 hs;split;{exact (h s0 h0).push he};{exact h s0 h0}
theorem VD.GK (h:VD D) {ev:Ev} (he:EvG ev) (ids:List Int):VD { D with ss:=fN D.ss ids ev }:=h.KL (kh ids ev D.ss) (Cs he ids h.s2)
theorem VD.tell (h:VD D) (k:Nat) {kd:Int} (h1:1<=kd) (h3:kd<=3):VD (cO D k kd):=by
 unfold cO;cases hk:D.ns[k]? with
 | none=>exact h
 | some nd=>
  have hn:=h.n2 nd (aF hk);exact VD.GK (D:={ D with ns:=D.ns.set k { nd with watchers:=[] } }) (h.qy hk rfl rfl ⟨hn.vp,hn.pb,hn.cp,hn.va,hn.vb,hn.ow,hn.h1,hn.h2,List.Pairwise.nil,fun i hi=>by simp at hi,hn.lk⟩) ⟨h1,h3,hn.vp,hn.pb⟩ _
theorem tg (hk:D.ns[k]?=some nd) (kd:Int):∃ yS,cO D k kd={ D with ss:=yS,ns:=D.ns.set k { nd with watchers:=[] } }/\iD yS=iD D.ss:=by
 unfold cO;rw [hk];exact ⟨_,rfl,kh _ _ _⟩
theorem ID (ns:List aD) (k:Nat):vy (ns.eraseIdx k)=(vy ns).eraseIdx k:=by
 unfold vy
 induction ns generalizing k with
 | nil=>rfl
 | cons a r ih=>cases k with
  | zero=>rfl
  | succ k=>simp [ih]
theorem VD.rm (h:VD D) (hk:D.ns[k]?=some nd) (hc:nd.owner≠0\/∀ z∈vy D.ns,dm z.1≠nd.path):VD (AH D k):=by
 refine ⟨h.e,h.g,h.x,h.t,h.sl,Nat.le_trans (List.Sublist.length_le (List.eraseIdx_sublist _ _)) h.nl,h.s1,h.s2,h.n1.sublist ((List.eraseIdx_sublist _ _).map _),fun y hy=>?_⟩;have hy':=List.mem_of_mem_eraseIdx hy;have hn:=h.n2 y hy';refine ⟨hn.vp,hn.pb,?_,hn.va,hn.vb,hn.ow,hn.h1,hn.h2,hn.w1,hn.w2,hn.lk⟩;rcases hn.cp with e | e;{exact .inl e};{
 refine .inr ?_;show _∈vy (D.ns.eraseIdx k);rw [ID,List.mem_eraseIdx_iff_getElem?];obtain ⟨j,hj⟩:=List.mem_iff_getElem?.1 e;refine ⟨j,fun ej=>?_,hj⟩;subst ej;have:(vy D.ns)[j]?=some (nd.path,nd.owner):=by unfold vy;rw [List.getElem?_map,hk];rfl
 rw [this] at hj;simp only [Option.some.injEq,Prod.mk.injEq] at hj;rcases hc with hc | hc;{exact hc hj.2};{exact hc (y.path,y.owner) (List.mem_map.2 ⟨y,hy',rfl⟩) hj.1.symm}}
theorem VD.drop (h:VD D) (k:Nat) (id:Int):VD (cT D k id):=by
 unfold cT;cases hk:D.ns[k]? with
 | none=>exact h
 | some nd=>
  have hn:=h.n2 nd (aF hk);simp only;split;{
 rename_i hc
 split;{exact VD.tell (D:={ D with ns:=D.ns.set k { nd with holders:=[],mode:=0,aB:=0,gen:=0 } }) (h.qy hk rfl rfl ⟨hn.vp,hn.pb,hn.cp,hn.va,hn.vb,hn.ow,List.Pairwise.nil,fun i hi=>by simp at hi,hn.w1,hn.w2,rfl⟩) k bl bl};{
 rename_i hw
 refine h.qy hk rfl rfl ⟨hn.vp,hn.pb,hn.cp,hn.va,hn.vb,hn.ow,U9 hn.h1,fun i hi=>hn.h2 i (ly.1 hi).1,hn.w1,hn.w2,?_⟩;show dN D.e D.g nd.mode (lQ nd.holders id).length nd.aB nd.gen=true;have hid:id∈nd.holders:=by simpa using hc
 have aJ5:1<=(lQ nd.holders id).length:=by
  cases hq:lQ nd.holders id with
  | nil=>exact absurd hq hw
  | cons a r=>simp
 have m1:nd.mode≠1:=fun hm=>by have h1:=kF hn.lk hm;obtain ⟨a,ha⟩:=List.length_eq_one_iff.1 h1;rw [ha] at hid hw;simp at hid;subst hid;exact hw (by simp [lQ])
 have hl:=hn.lk;unfold dN at hl ⊢;rw [if_neg m1] at hl ⊢;by_cases m0:nd.mode=0;{have:=(CE hn.lk m1).2.2 m0;have:nd.holders=[]:=List.length_eq_zero_iff.1 this;rw [this] at hid;simp at hid};{rw [if_neg m0] at hl ⊢;simp only [Bool.and_eq_true,decide_eq_true_eq] at hl ⊢;exact ⟨hl.1,hl.2.1,hl.2.2.1,aJ5⟩}}};{exact h}
theorem Jo (hk:D.ns[k]?=some nd) (id:Int):∃ yS iR,cT D k id={ D with ss:=yS,ns:=D.ns.set k iR }/\iD yS=iD D.ss/\iR.path=nd.path/\iR.owner=nd.owner/\id∉iR.holders/\(iR.watchers=nd.watchers\/iR.watchers=[]):=by
 unfold cT;rw [hk];simp only;split;{split;{have Ms:(D.ns.set k { nd with holders:=[],mode:=0,aB:=0,gen:=0 })[k]?=some { nd with holders:=[],mode:=0,aB:=0,gen:=0 }:=aP hk _;obtain ⟨yS,e,hi⟩:=tg (D:={ D with ns:=D.ns.set k { nd with holders:=[],mode:=0,aB:=0,gen:=0 } }) Ms 3;refine ⟨yS,{ nd with holders:=[],mode:=0,aB:=0,gen:=0,watchers:=[] },by rw [e];simp only [List.set_set],hi,rfl,rfl,aU,.inr rfl⟩};{exact ⟨D.ss,_,rfl,rfl,rfl,rfl,fun hm=>(ly.1 hm).2 rfl,.inl rfl⟩}};{
 rename_i hc
 exact ⟨D.ss,nd,by rw [kN hk],rfl,rfl,rfl,by simpa using hc,.inl rfl⟩}
def XS (id:Int) (nd:aD):Prop:=nd.owner≠id/\id∉nd.holders
def AM (id:Int) (ns:List aD):Nat:=ns.countP fun nd=>decide (nd.owner=id)
theorem VD.fW {id:Int} (h0:id≠0):∀ (f k:Nat) {D:SD},VD D->(∀ nd∈D.ns,id∉nd.watchers)->(∀ (j:Nat) (nd:aD),j<k->D.ns[j]?=some nd->XS id nd)->D.ns.length<=k+f →
  VD (Proofs.YtcfcafeciggjeaaGreatDoor.fW id f k D)/\iD (Proofs.YtcfcafeciggjeaaGreatDoor.fW id f k D).ss=iD D.ss/\(∀ nd∈(Proofs.YtcfcafeciggjeaaGreatDoor.fW id f k D).ns,XS id nd/\id∉nd.watchers)/\(Proofs.YtcfcafeciggjeaaGreatDoor.fW id f k D).ns.length+AM id (D.ns.drop k)=D.ns.length
 | 0,k,D,h,hw,hg,hl=>by
  unfold Proofs.YtcfcafeciggjeaaGreatDoor.fW;refine ⟨h,rfl,fun nd aV=>⟨?_,hw nd aV⟩,?_⟩;{obtain ⟨j,hj⟩:=List.mem_iff_getElem?.1 aV;have:=(aN.1 hj).1;exact hg j nd ab hj};{
 rw [List.drop_eq_nil_of_le ab]
 rfl}
 | f+1,k,D,h,hw,hg,hl=>by
  unfold Proofs.YtcfcafeciggjeaaGreatDoor.fW;cases hk:D.ns[k]? with
  | none=>
   have hle:D.ns.length<=k:=by simpa using hk
   have e:cT D k id=D:=by unfold cT;rw [hk]
   rw [e,hk];dsimp only;refine ⟨h,rfl,fun nd aV=>⟨?_,hw nd aV⟩,?_⟩;{obtain ⟨j,hj⟩:=List.mem_iff_getElem?.1 aV;have:=(aN.1 hj).1;exact hg j nd ab hj};{
 rw [List.drop_eq_nil_of_le hle]
 rfl}
  | some nd=>
   have bj:=(aN.1 hk).1;have hv:=h.drop k id;obtain ⟨yS,iR,e,hi,e1,e2,e3,e4⟩:=Jo hk id;rw [e] at hv ⊢;have nw:(D.ns.set k iR)[k]?=some iR:=aP hk _;have hdr:D.ns.drop k=nd::D.ns.drop (k+1):=(List.im hk).symm;have hw1:∀ y∈D.ns.set k iR,id∉y.watchers:=fun y hy=>by
    rcases List.mem_or_eq_of_mem_set hy with hy | rfl;{exact hw y hy};{
 rcases e4 with e4 | e4<;>rw [e4]
 {exact hw nd (aF hk)};{simp}}
   simp only [nw];by_cases ho:iR.owner=id;{
 rw [if_pos ho];obtain ⟨ss2,eT,hi2⟩:=tg (D:={ D with ss:=yS,ns:=D.ns.set k iR }) nw 2;have hvT:=VD.tell (D:={ D with ss:=yS,ns:=D.ns.set k iR }) hv k (kd:=2) bl bl;rw [eT] at hvT ⊢;simp only [List.set_set] at hvT ⊢;have yC:(D.ns.set k { iR with watchers:=[] })[k]?=some { iR with watchers:=[] }:=aP hk _;have hvR:=VD.rm hvT (nd:={ iR with watchers:=[] }) yC (.inl (by show iR.owner≠0;rw [ho];exact h0));have Tn:(AH { D with ss:=ss2,ns:=D.ns.set k { iR with watchers:=[] } } k).ns=D.ns.eraseIdx k:=by show (D.ns.set k _).eraseIdx k=_;exact List.eraseIdx_set_eq
 have hlen:(D.ns.eraseIdx k).length=D.ns.length-1:=List.length_eraseIdx_of_lt bj;obtain ⟨q1,q2,q3,q4⟩:=VD.fW h0 f k hvR (fun y hy=>by
  rw [Tn] at hy;exact hw y (List.mem_of_mem_eraseIdx hy)) (fun j y hj hy=>by
  rw [Tn,List.getElem?_eraseIdx_of_lt hj] at hy;exact hg j y hj hy) (by rw [Tn,hlen];omega)
 refine ⟨q1,q2.trans (hi2.trans hi),q3,?_⟩;rw [Tn,hlen,xG _ _ bj] at q4;rw [hdr,AM,List.countP_cons_of_pos (by simp [<-e2,ho]),<-AM];omega};{
 rw [if_neg ho];obtain ⟨q1,q2,q3,q4⟩:=VD.fW h0 f (k+1) hv hw1 (fun j y hj hy=>by
  change (D.ns.set k iR)[j]?=some y at hy
  rw [List.getElem?_set] at hy;by_cases ej:k=j;{subst ej;rw [if_pos rfl,if_pos bj] at hy;cases hy;exact ⟨ho,e3⟩};{rw [if_neg ej] at hy;exact hg j y ab hy}) (by show (List.set _ _ _).length<=_;rw [List.length_set];omega)
 refine ⟨q1,q2.trans hi,q3,?_⟩;have e5:(D.ns.set k iR).drop (k+1)=D.ns.drop (k+1):=by rw [List.drop_set_of_lt ab]
 simp only [e5,List.length_set] at q4;rw [hdr,AM,List.countP_cons_of_neg (by simp [<-e2,ho]),<-AM];exact q4}
theorem AR (id:Int) (ss:List aY):iD (IJ id ss)=(iD ss).filter fun i=>!(i==id):=by
 unfold iD IJ;rw [List.filter_map]
 rfl
theorem VD.close (h:VD D) {id:Int} (h0:id≠0):VD (gv D id)/\iD (gv D id).ss=(iD D.ss).filter (fun i=>!(i==id))/\(∀ nd∈(gv D id).ns,XS id nd/\id∉nd.watchers)/\(gv D id).ns.length+AM id D.ns=D.ns.length:=by
 have Wj:VD { D with ns:=D.ns.map (vL id) }:=by
  have ep:vy (D.ns.map (vL id))=vy D.ns:=by unfold vy;rw [List.map_map];rfl
  refine ⟨h.e,h.g,h.x,h.t,h.sl,by show (List.map _ _).length<=_;rw [List.length_map];exact h.nl,h.s1,h.s2,by show List.Pairwise _ (List.map _ (D.ns.map (vL id)));rw [List.map_map];exact h.n1,fun y hy=>?_⟩;obtain ⟨z,hz,rfl⟩:=List.mem_map.1 hy;have hn:=h.n2 z hz;show NV _ _ _ (vy (D.ns.map (vL id))) _;rw [ep];exact ⟨hn.vp,hn.pb,hn.cp,hn.va,hn.vb,hn.ow,hn.h1,hn.h2,U9 hn.w1,fun i hi=>hn.w2 i (ly.1 hi).1,hn.lk⟩
 obtain ⟨q1,q2,q3,q4⟩:=VD.fW h0 D.ns.length 0 Wj (fun y hy=>by obtain ⟨z,hz,rfl⟩:=List.mem_map.1 hy;exact fun hm=>(ly.1 hm).2 rfl) (fun j y hj=>ab) (by show (List.map _ _).length<=_;rw [List.length_map];omega)
 refine ⟨?_,(AR _ _).trans (by rw [q2]),q3,?_⟩;{
 refine ⟨q1.e,q1.g,q1.x,q1.t,Nat.le_trans (List.length_filter_le _ _) q1.sl,q1.nl,?_,fun s hs=>q1.s2 s (List.mem_filter.1 hs).1,q1.n1,fun y hy=>?_⟩;{show List.Pairwise _ (iD (IJ id _));rw [AR];exact q1.s1.filter _};{
 have hn:=q1.n2 y hy;obtain ⟨⟨g1,g2⟩,g3⟩:=q3 y hy;have key:∀ i,i∈iD (Proofs.YtcfcafeciggjeaaGreatDoor.fW id D.ns.length 0 { D with ns:=D.ns.map (vL id) }).ss->i≠id->i∈iD (IJ id (Proofs.YtcfcafeciggjeaaGreatDoor.fW id D.ns.length 0 { D with ns:=D.ns.map (vL id) }).ss):=fun i hi gd=>by rw [AR];exact List.mem_filter.2 ⟨hi,by simp [gd]⟩
 exact ⟨hn.vp,hn.pb,hn.cp,hn.va,hn.vb,hn.ow.imp (fun h=>h) (fun ho=>key _ ho g1),hn.h1,fun i hi=>key i (hn.h2 i hi) (fun e=>g2 (e▸hi)),hn.w1,fun i hi=>key i (hn.w2 i hi) (fun e=>g3 (e▸hi)),hn.lk⟩}};{
 have e:AM id (List.drop 0 (D.ns.map (vL id)))=AM id D.ns:=by
  rw [List.drop_zero,AM,List.countP_map]
  rfl
 have q5:=q4;simp only [List.length_map] at q5;rw [e] at q5;exact q5}
theorem PD.pw (h:(ns.map fun nd=>ko nd.path).Pairwise (·<·)):PD ns:=fun i j a b ha hb e=>by
 have key:∀ (i j:Nat) (a b:aD),ns[i]?=some a->ns[j]?=some b->a.path=b.path->¬ i<j:=fun i j a b ha hb e jc=>by obtain ⟨h1,rfl⟩:=aN.1 ha;obtain ⟨h2,rfl⟩:=aN.1 hb;have:=List.pairwise_iff_getElem.1 h i j (by simpa using h1) (by simpa using h2) jc;simp only [List.getElem_map,e] at this;exact List.lt_irrefl _ this
 have h1:=key i j a b ha hb e;have h2:=key j i b a hb ha e.symm;omega
theorem tW (hd:PD ns) (l:List Int):dw ns l=true↔CP (vy ns) l:=by
 unfold dw CP;by_cases h:l=[47];{simp [h]};{
 rw [if_neg h];constructor;{
 intro hc;cases hn:fE ns l with
 | none=>rw [hn] at hc;cases hc
 | some nd=>
  rw [hn] at hc;have hp:nd.path=l:=by simpa using List.find?_some hn
  exact .inr (List.mem_map.2 ⟨nd,List.mem_of_find?_eq_some hn,by rw [hp,show nd.owner=0 by simpa using hc]⟩)};{
 rintro (e | e);{exact absurd e h};{
 obtain ⟨nd,hm,e2⟩:=List.mem_map.1 e;simp only [Prod.mk.injEq] at e2;cases hn:fE ns l with
 | none=>exact absurd (List.find?_eq_none.1 hn nd hm) (by simp [e2.1])
 | some n2=>
  have hp:n2.path=l:=by simpa using List.find?_some hn
  obtain ⟨i,hi⟩:=List.mem_iff_getElem?.1 hm;obtain ⟨j,hj⟩:=List.mem_iff_getElem?.1 (List.mem_of_find?_eq_some hn);have:=hd i j nd n2 hi hj (e2.1.trans hp.symm);subst this;rw [hi] at hj;cases hj;simp [e2.2]}}}
theorem wR {i:Int}:live ss i=true↔i∈iD ss:=by
 unfold live iD;simp only [List.any_eq_true,beq_iff_eq,List.mem_map]
theorem VD.of {t:Int} (h:jY e g x t ss ns=true) (hF:Uy ss ns) (g0:0<=g) (x0:0<=x) (hq:∀ s∈ss,∀ ev∈s.2.2,bM ev.2) (hv:∀ nd∈ns,bM nd.value):VD ⟨e,g,x,t,ss,ns⟩:=by
 have h':=h;unfold jY at h';simp only [Bool.and_eq_true,decide_eq_true_eq] at h';obtain ⟨⟨l1,l2,l3,l4,l5,l6,l7⟩,a1,a2⟩:=h';refine ⟨l1,⟨g0,l2⟩,⟨x0,l3⟩,⟨l4,l5⟩,l6,l7,by unfold iD;rw [List.pairwise_map];exact hF.s1,fun s hs=>?_,hF.n1,fun nd aV=>?_⟩;{obtain ⟨i,hi⟩:=List.mem_iff_getElem?.1 hs;have:=List.all_eq_true.1 a1 i (by simpa using (aN.1 hi).1);unfold jy at this;rw [List.getD_eq_getElem?_getD,hi] at this;simp only [Option.getD_some,Bool.and_eq_true,decide_eq_true_eq] at this;exact ⟨⟨this.1,this.2.1⟩,⟨this.2.2.2.1,this.2.2.2.2.1⟩,this.2.2.2.2.2,hq s hs⟩};{obtain ⟨i,hi⟩:=List.mem_iff_getElem?.1 aV;obtain ⟨f1,f2,f3,f4,f5,f6,f7⟩:=hF.n2 nd aV;have Bg:=(aN.1 hi).1;have:=List.all_eq_true.1 a2 i (by simpa using Bg);unfold iP at this;simp only [List.getD_eq_getElem?_getD,hi,Option.getD_some,Bool.and_eq_true,decide_eq_true_eq,Bool.or_eq_true] at this;obtain ⟨⟨q1,-⟩,q2,q3,q4,q5,q6,q7⟩:=this;refine ⟨q1,f1,(tW (PD.pw hF.n1) _).1 q2,q3,hv nd aV,q4.imp (fun e=>by simpa using e) wR.1,f6,fun j hj=>?_,f7,fun j hj=>?_,q7⟩;{obtain ⟨s,hs,e⟩:=mQ q5 j hj;exact List.mem_map.2 ⟨s,hs,e⟩};{obtain ⟨s,hs,e⟩:=mQ q6 j hj;exact List.mem_map.2 ⟨s,hs,e⟩}}
theorem KP {S:Int} (h:¬ lT ss S<0):S∈iD ss:=by
 unfold lT at h;cases hf:ss.findIdx? (fun s=>s.1==S) with
 | none=>rw [hf] at h;simp at h
 | some k=>
  obtain ⟨h1,h2,-⟩:=List.findIdx?_eq_some_iff_getElem.1 hf;exact List.mem_map.2 ⟨_,List.getElem_mem h1,by simpa using h2⟩
theorem NV.gen {g':Int} {I:List Int} {C:List (List Int × Int)} (h:NV e g I C nd) (hg:g<=g'):NV e g' I C nd:=by
 refine ⟨h.vp,h.pb,h.cp,h.va,h.vb,h.ow,h.h1,h.h2,h.w1,h.w2,?_⟩;have:=h.lk;unfold dN at this ⊢;split;{
 rename_i hm
 rw [if_pos hm] at this;simp only [Bool.and_eq_true,decide_eq_true_eq] at this ⊢;exact ⟨this.1,this.2.1,ab,this.2.2.2⟩};{
 rename_i hm
 rwa [if_neg hm] at this}
theorem NV.ids {I I':List Int} {C:List (List Int × Int)} (h:NV e g I C nd) (hi:∀ i∈I,i∈I'):NV e g I' C nd:=
 ⟨h.vp,h.pb,h.cp,h.va,h.vb,h.ow.imp (fun h=>h) (hi _),h.h1,fun i hh=>hi i (h.h2 i hh),h.w1,fun i hh=>hi i (h.w2 i hh),h.lk⟩
theorem VD.create (h:VD D) {S F:Int} (hv:vp P=true) (hB:bM P) (hV:V.length<=40) (bV:bM V) (hS:S∈iD D.ss):VD (fG D P V S F).1:=by
 unfold fG;split;{exact h};{
 rename_i h1
 split;{exact h};{
 rename_i h2
 split;{exact h};{
 rename_i h3
 have jS:fE D.ns P=none:=by simpa using h1
 have hc:dw D.ns (dm P)=true:=by simpa using h2
 have Rl:=(tW (PD.pw h.n1) _).1 hc;have hm:∀ z∈vy D.ns,z∈vy (jq (gj P V (if F=1 then S else 0)) D.ns):=fun z hz=>by obtain ⟨y,hy,rfl⟩:=List.mem_map.1 hz;exact List.mem_map.2 ⟨y,rZ.2 (.inr hy),rfl⟩
 have Bn:∀ l,CP (vy D.ns) l->CP (vy (jq (gj P V (if F=1 then S else 0)) D.ns)) l:=fun l hl=>hl.imp (fun h=>h) (hm _);refine ⟨h.e,h.g,h.x,h.t,h.sl,by show (jq _ _).length<=_;rw [xi];omega,h.s1,h.s2,Fw h.n1 (fun y hy e=>?_),fun y hy=>?_⟩;{have:=List.find?_eq_none.1 jS y hy;exact this (by simpa using HJ (h.n2 y hy).pb hB e)};{rcases rZ.1 hy with rfl | hy;{refine ⟨hv,hB,Bn _ Rl,hV,bV,?_,List.Pairwise.nil,fun i hi=>by simp [gj] at hi,List.Pairwise.nil,fun i hi=>by simp [gj] at hi,rfl⟩;show (if F=1 then S else 0)=0\/_;split;{exact .inr hS};{exact .inl rfl}};{have hn:=h.n2 y hy;exact ⟨hn.vp,hn.pb,Bn _ hn.cp,hn.va,hn.vb,hn.ow,hn.h1,hn.h2,hn.w1,hn.w2,hn.lk⟩}}}}}
theorem VD.lock (h:VD D) (k:Nat) {s:Int} (fl:Int) (hS:s∈iD D.ss):VD (iC D k s fl).1:=by
 unfold iC;cases hk:D.ns[k]? with
 | none=>exact h
 | some nd=>
  have hn:=h.n2 nd (aF hk);simp only;split;{exact h};{
 split;{
 split;{exact h};{
 rename_i m1
 refine h.qy hk rfl rfl ⟨hn.vp,hn.pb,hn.cp,hn.va,hn.vb,hn.ow,yQ hn.h1,fun i hi=>?_,hn.w1,hn.w2,?_⟩;{rcases nY.1 hi with rfl | hi;{exact hS};{exact hn.h2 i hi}};{obtain ⟨l1,l2,-⟩:=CE hn.lk m1;show dN D.e D.g 2 (ig nd.holders s).length nd.aB nd.gen=true;have:1<=(ig nd.holders s).length:=List.length_pos_of_mem (nY.2 (.inl rfl));simp [dN,l1,l2,this]}}};{
 split;{exact h};{
 split;{exact h};{
 rename_i hg
 have h':VD { D with g:=D.g+1 }:=⟨h.e,⟨by have:=h.g;show 0<=D.g+1;omega,by show D.g+1<=_;omega⟩,h.x,h.t,h.sl,h.nl,h.s1,h.s2,h.n1,fun y hy=>(h.n2 y hy).gen (by show D.g<=D.g+1;omega)⟩;refine VD.qy h' (nd':={ nd with mode:=1,holders:=[s],aB:=D.e,gen:=D.g+1 }) hk rfl rfl ⟨hn.vp,hn.pb,hn.cp,hn.va,hn.vb,hn.ow,aU,fun i hi=>?_,hn.w1,hn.w2,?_⟩;{simp at hi;rw [hi];exact hS};{have:=h.g;show dN D.e (D.g+1) 1 1 D.e (D.g+1)=true;simp [dN];omega}}}}}
theorem VD.node (h:VD D) (k:Nat) {K S F:Int} (hV:K=7->V.length<=40) (bV:bM V) (hS:S∈iD D.ss\/K=6):VD (gI D k K S F V).1:=by
 unfold gI;cases hk:D.ns[k]? with
 | none=>exact h
 | some nd=>
  have hn:=h.n2 nd (aF hk);simp only;split;{
 split;{exact h};{
 split;{exact h};{
 rename_i FK _
 have FK:gJ D.ns nd.path=[]:=by simpa using FK
 obtain ⟨yS,eT,-⟩:=tg hk 2;have hT:=h.tell k (kd:=2) bl bl;rw [eT] at hT ⊢;refine VD.rm hT (nd:={ nd with watchers:=[] }) (aP hk _) (.inr fun z hz e=>?_);rw [show vy ({ D with ss:=yS,ns:=D.ns.set k { nd with watchers:=[] } }:SD).ns=vy D.ns from GZ hk rfl rfl] at hz;obtain ⟨y,hy,rfl⟩:=List.mem_map.1 hz;unfold gJ at FK;rw [List.map_eq_nil_iff,List.filter_eq_nil_iff] at FK;exact FK y hy (by simpa using e)}}};{
 split;{exact h};{
 rename_i n6
 have hS:=hS.resolve_right n6;split;{
 split;{exact h};{
 rename_i h7 _
 exact VD.tell (D:={ D with ns:=D.ns.set k { nd with value:=V } }) (h.qy hk rfl rfl ⟨hn.vp,hn.pb,hn.cp,hV h7,bV,hn.ow,hn.h1,hn.h2,hn.w1,hn.w2,hn.lk⟩) k bl bl}};{split;{exact h.lock k F hS};{split;{split;{exact h.drop k S};{exact h}};{refine h.qy hk rfl rfl ⟨hn.vp,hn.pb,hn.cp,hn.va,hn.vb,hn.ow,hn.h1,hn.h2,yQ hn.w1,fun i hi=>?_,hn.lk⟩;rcases nY.1 hi with rfl | hi;{exact hS};{exact hn.w2 i hi}}}}}}
theorem VD.Zz (h:VD D) (hk:D.ss[k]?=some s) {d:Int} {q:List Ev} (hs:SV D.x (s.1,d,q)):VD { D with ss:=D.ss.set k (s.1,d,q) }:=by
 refine h.KL ?_ fun y hy=>?_;{unfold iD;rw [List.map_set];exact kN (by rw [List.getElem?_map,hk];rfl)};{rcases List.mem_or_eq_of_mem_set hy with hy | rfl;{exact h.s2 y hy};{exact hs}}
theorem VD.apply (h:VD D) {K S F E G:Int} (hB:bM P) (bV:bM V):VD (aM D K S F E G P V).1:=by
 unfold aM;split;{exact h};{
 rename_i hf
 split;{
 unfold ik;split;{exact h};{
 split;{exact h};{
 rename_i h1 h2
 have hx:=h.x;have ht:=h.t;have ei:iD (D.ss++[(D.x+1,D.t+10,[])])=iD D.ss++[D.x+1]:=by simp [iD]
 refine ⟨h.e,h.g,⟨by show 0<=D.x+1;omega,by show D.x+1<=_;omega⟩,h.t,by show (D.ss++[_]).length<=_;simp;omega,h.nl,?_,fun s hs=>?_,h.n1,fun y hy=>?_⟩;{show List.Pairwise _ (iD (D.ss++[_]));rw [ei,List.pairwise_append];refine ⟨h.s1,aU,fun a ha c hc=>?_⟩;simp at hc;obtain ⟨s,hs,rfl⟩:=List.mem_map.1 ha;have:=(h.s2 s hs).1.2;omega};{rcases List.mem_append.1 hs with hs | hs;{have q:=h.s2 s hs;exact ⟨⟨q.1.1,by have:=q.1.2;show s.1<=D.x+1;omega⟩,q.2⟩};{simp at hs;rw [hs];exact ⟨⟨by show 1<=D.x+1;omega,by show D.x+1<=D.x+1;omega⟩,⟨by show 0<=D.t+10;omega,by show D.t+10<=_;omega⟩,rfl,fun e he=>by simp at he⟩}};{show NV _ _ (iD (D.ss++[_])) _ y;rw [ei];exact (h.n2 y hy).ids fun i hi=>List.mem_append_left _ hi}}}};{
 rename_i n1
 split;{exact h};{
 rename_i hs
 have Mo:DB K=true->S∈iD D.ss:=fun hh=>KP (by intro hn;simp [hh,hn] at hs);split;{
 unfold jE;cases hk:D.ss[(lT D.ss S).toNat]? with
 | none=>exact h
 | some s=>
  have q:=h.s2 s (aF hk);have ht:=h.t;simp only;split;{exact h.Zz hk ⟨q.1,⟨by show 0<=D.t+10;omega,by show D.t+10<=_;omega⟩,q.2.2⟩};{exact h}};{
 split;{
 rename_i n2 h3
 have:S∈iD D.ss:=Mo (by rw [h3];rfl);obtain ⟨s,hm,rfl⟩:=List.mem_map.1 this;exact (h.close (by have:=(h.s2 s hm).1.1;omega)).1};{
 split;{
 unfold pX;cases hk:D.ss[(lT D.ss S).toNat]? with
 | none=>exact h
 | some s=>
  have q:=h.s2 s (aF hk);exact h.Zz hk ⟨q.1,q.2.1,rfl,fun e he=>by simp at he⟩};{
 rename_i n2 n3 n12
 have hV:K=4\/K=7->V.length<=40:=fun hK=>by rcases hK with rfl | rfl<;>· simp [Af,vH,Jf,rowOf] at hf;omega
 unfold iA;split;{exact h};{
 rename_i hp
 split;{
 rename_i h4
 rw [rG ab] at hp;exact h.create (by simpa using hp) hB (hV (.inl h4)) bV (Mo (by rw [h4];rfl))};{
 split;{exact h};{
 split;{exact h};{
 split;{exact h};{
 rename_i n4 n10 _ n13
 refine h.node _ (fun e=>hV (.inr e)) bV ?_;by_cases h6:K=6;{exact .inr h6};{exact .inl (Mo (by simp [DB,n1,h6,n13]))}}}}}}}}}}}}
theorem QL (D:SD) (i:Nat):(jE D i).1.t=D.t:=by
 unfold jE;split;{rfl}
 {split<;>rfl}
theorem Ie (D:SD) (K S F E G:Int) (P V:List Int):(aM D K S F E G P V).1.t=D.t:=by
 unfold aM;split;{rfl}
 {
 split;{
 unfold ik;split;{rfl}
 {split<;>rfl}}
 {
 split;{rfl}
 {
 split;{exact QL _ _};{
 split;{exact (qW _ _).2.2.2};{
 split;{unfold pX;split<;>rfl}
 {
 unfold iA;split;{rfl}
 {
 split;{
 unfold fG
 repeat' split
 all_goals rfl}
 {
 repeat' split
 all_goals try rfl
 unfold gI;split;{rfl}
 {
 split;{
 repeat' split
 all_goals try rfl
 exact (ki _ _ _).2.2.2};{
 split;{rfl}
 {
 split;{
 split;{rfl}
 {exact (ki _ _ _).2.2.2}};{
 split;{
 unfold iC
 repeat' split
 all_goals rfl}
 {
 split;{split;{exact (tR _ _ _).2.2.2};{rfl}}
 {rfl}}}}}}}}}}}}}}
theorem QM (D:SD) (i:Nat):(jE D i).1.e=D.e:=by
 unfold jE;split;{rfl}
 {split<;>rfl}
theorem Su (D:SD) (K S F E G:Int) (P V:List Int):(aM D K S F E G P V).1.e=D.e:=by
 unfold aM;split;{rfl}
 {
 split;{
 unfold ik;split;{rfl}
 {split<;>rfl}}
 {
 split;{rfl}
 {
 split;{exact QM _ _};{
 split;{exact (qW _ _).1};{
 split;{unfold pX;split<;>rfl}
 {
 unfold iA;split;{rfl}
 {
 split;{
 unfold fG
 repeat' split
 all_goals rfl}
 {
 repeat' split
 all_goals try rfl
 unfold gI;split;{rfl}
 {
 split;{
 repeat' split
 all_goals try rfl
 exact (ki _ _ _).1};{
 split;{rfl}
 {
 split;{
 split;{rfl}
 {exact (ki _ _ _).1}};{
 split;{
 unfold iC
 repeat' split
 all_goals rfl}
 {
 split;{split;{exact (tR _ _ _).1};{rfl}}
 {rfl}}}}}}}}}}}}}}
theorem VD.wf (h:VD D):WF D:=by
 have hl:∀ (l:List Int),l.Pairwise (·<·)->(∀ i∈l,i∈iD D.ss)->l.length<=50:=fun l hp hm=>by have:=vD l (iD D.ss) (hp.imp (fun FR e=>ab)) hm;have:=h.sl;unfold iD at *;rw [List.length_map] at *;omega
 refine ⟨h.g,h.x,h.t,fun nd aV=>?_,fun nd aV=>?_,fun nd aV=>?_,fun nd aV hm e=>?_,PD.pw h.n1⟩
 all_goals have hn:=h.n2 nd aV
 {exact ⟨Nat.le_trans (nZ hn.vp) bl,Nat.le_trans (hl _ hn.w1 hn.w2) bl,Nat.le_trans (hl _ hn.h1 hn.h2) bl⟩};{exact ⟨hn.vp,hn.pb,Nat.le_trans (nZ hn.vp) bl⟩};{exact Nat.le_trans hn.va bl};{have:=kF hn.lk hm;rw [e] at this;cases this}
def Ep (ns:List aD):Prop:=∀ nd∈ns,0<=nd.aB
theorem Ep.set (h:Ep ns) {y:aD} (hy:0<=y.aB):Ep (ns.set k y):=fun nd aV=>by
 rcases List.mem_or_eq_of_mem_set aV with h1 | rfl;{exact h nd h1};{exact hy}
theorem Ep.tell (h:Ep D.ns) (k:Nat) (kind:Int):Ep (cO D k kind).ns:=by
 unfold cO;split;{exact h};{
 rename_i nd hk
 exact Ep.set h (h nd (aF hk))}
theorem Ep.rm (h:Ep D.ns) (k:Nat):Ep (AH D k).ns:=fun nd aV=>h nd (List.mem_of_mem_eraseIdx aV)
theorem Ep.drop (h:Ep D.ns) (k:Nat) (id:Int):Ep (cT D k id).ns:=by
 unfold cT;split;{exact h};{
 rename_i nd hk
 split;{split;{exact Ep.tell (D:={ D with ns:=_ }) (Ep.set h (Int.le_refl 0)) k 3};{exact Ep.set h (h nd (aF hk))}};{exact h}}
theorem Ep.fW (id:Int):∀ (f k:Nat) (D:SD),Ep D.ns->Ep (fW id f k D).ns
 | 0,k,D,h=>h
 | f+1,k,D,h=>by unfold Proofs.YtcfcafeciggjeaaGreatDoor.fW;split;{exact h};{split;{exact Ep.fW id f k _ (Ep.rm (Ep.tell (Ep.drop h k id) k 2) k)};{exact Ep.fW id f (k+1) _ (Ep.drop h k id)}}
theorem Ep.close (h:Ep D.ns) (id:Int):Ep (gv D id).ns:=by
 refine Ep.fW id D.ns.length 0 { D with ns:=D.ns.map (vL id) } fun nd aV=>?_;obtain ⟨y,hy,rfl⟩:=List.mem_map.1 aV;exact h y hy
theorem Ep.ins (hn:0<=nd.aB):∀ {ns:List aD},Ep ns->Ep (jq nd ns)
 | [],h=>fun y hy=>by simp [jq] at hy;rw [hy];exact hn
 | x::r,h=>by unfold jq;split;{intro y hy;rcases List.mem_cons.1 hy with rfl | hy;{exact hn};{exact h y hy}};{intro y hy;rcases List.mem_cons.1 hy with rfl | hy;{exact h y aU};{exact Ep.ins hn (fun z hz=>h z (by simp [hz])) y hy}}
theorem Ep.node (he:0<=D.e) (h:Ep D.ns) (k:Nat) (K S F:Int) (V:List Int):Ep (gI D k K S F V).1.ns:=by
 unfold gI;split;{exact h};{
 rename_i nd hk
 have hn:=h nd (aF hk);split;{split;{exact h};{split;{exact h};{exact Ep.rm (Ep.tell h k 2) k}}};split;{exact h};split;{split;{exact h};{exact Ep.tell (D:={ D with ns:=D.ns.set k { nd with value:=V } }) (Ep.set h hn) k 1}};split;{unfold iC;rw [hk];dsimp only;split;{exact h};{split;{split;{exact h};{exact Ep.set h hn}};{split;{exact h};{split;{exact h};{exact Ep.set h he}}}}};split;{split;{exact Ep.drop h k S};{exact h}}
 all_goals exact Ep.set h hn}
theorem Ep.apply (he:0<=D.e) (h:Ep D.ns) (K S F E G:Int) (P V:List Int):Ep (aM D K S F E G P V).1.ns:=by
 unfold aM;split;{exact h};split;{unfold ik;split;{exact h};split<;>exact h}
 split;{exact h};split;{unfold jE;split;{exact h};split<;>exact h}
 split;{exact Ep.close h S};split;{unfold pX;split<;>exact h}
 unfold iA;split;{exact h};split;{unfold fG;split;{exact h};split;{exact h};split;{exact h};exact Ep.ins (Int.le_refl 0) h};split;{exact h};split;{exact h};split;{exact h};exact Ep.node he h _ K S F V
def UD (D:SD):Prop:=0<=D.e/\Ep D.ns
theorem UD.apply (h:UD D) (K S F E G:Int) (P V:List Int):UD (aM D K S F E G P V).1:=⟨by rw [Su];exact h.1,Ep.apply h.1 h.2 K S F E G P V⟩
end Go.Proofs.YtcfcafeciggjeaaGreatDoor
