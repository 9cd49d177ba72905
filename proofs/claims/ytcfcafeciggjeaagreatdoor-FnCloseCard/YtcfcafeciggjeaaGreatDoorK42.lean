import Derived.Test.YtcfcafeciggjeaaGreatDoorK41
namespace Go.Proofs.YtcfcafeciggjeaaGreatDoor
set_option linter.unusedVariables false
set_option linter.unusedSimpArgs false
set_option maxRecDepth 100000
variable {D:SD} {F K S e g id x:Int} {I P V l:List Int} {k:Nat} {nd nd':aA} {ns:List aA} {s:aL} {ss:List aL}
def Yw (ev:Ev):Prop:=1<=ev.1/\ev.1<=3/\vp ev.2=true/\bQ ev.2
theorem Ay {q:List Ev} {ev:Ev} (h:dM q=true) (he:Yw ev):dM (fx q ev)=true:=by
 unfold dM at h ⊢;simp only [Bool.and_eq_true,decide_eq_true_eq,List.all_eq_true,List.mem_range] at h ⊢;obtain ⟨h1,h2⟩:=h;have key:∀ (x:Ev),q.length<8->fQ q.length x=true->(q++[x]).length<=8/\∀ i,i<(q++[x]).length->fQ i ((q++[x]).getD i (0,[]))=true:=fun x hl hx=>by
  refine ⟨by simp;omega,fun i hi=>?_⟩;simp at hi;by_cases e:i<q.length;{rw [List.getD_eq_getElem?_getD,List.getElem?_append_left e,<-List.getD_eq_getElem?_getD];exact h2 i e};{
 have e':i=q.length:=by omega
 subst e';rw [List.getD_eq_getElem?_getD,List.getElem?_append_right ax,Nat.sub_self];exact hx}
 unfold fx;split;{refine key _ (by omega) ?_;unfold fQ;rw [if_neg (by omega)];simp [he.1,he.2.1,he.2.2.1]};{
 split;{
 rename_i e7
 refine key _ (by omega) ?_;unfold fQ;rw [if_pos e7]
 rfl}
 {exact ⟨h1,h2⟩}}
def SV (x:Int) (s:aL):Prop:=(1<=s.1/\s.1<=x)/\(0<=s.2.1/\s.2.1<=1000015)/\dM s.2.2=true/\∀ e∈s.2.2,bQ e.2
theorem SV.push (h:SV x s) {ev:Ev} (he:Yw ev):SV x (s.1,s.2.1,fx s.2.2 ev):=by
 refine ⟨h.1,h.2.1,Ay h.2.2.1 he,fun y hy=>?_⟩;simp only [fx] at hy;split at hy;{rcases List.mem_append.1 hy with h1 | h1;{exact h.2.2.2 y h1};{simp at h1;rw [h1];exact he.2.2.2}};{split at hy;{rcases List.mem_append.1 hy with h1 | h1;{exact h.2.2.2 y h1};{simp at h1;rw [h1];intro z hz;simp at hz}};{exact h.2.2.2 y hy}}
def gR (ss:List aL):List Int:=ss.map (·.1)
def rF (ns:List aA):List (List Int × Int):=ns.map fun nd=>(nd.path,nd.owner)
def CP (C:List (List Int × Int)) (l:List Int):Prop:=l=[47]\/(l,0)∈C
structure NV (e g:Int) (I:List Int) (C:List (List Int × Int)) (nd:aA):Prop where
 vp:vp nd.path=true
 pb:bQ nd.path
 cp:CP C (dF nd.path)
 va:nd.value.length<=40
 vb:bQ nd.value
 ow:nd.owner=0\/nd.owner∈I
 h1:nd.holders.Pairwise (·<·)
 h2:∀ i∈nd.holders,i∈I
 w1:nd.watchers.Pairwise (·<·)
 w2:∀ i∈nd.watchers,i∈I
 lk:dh e g nd.mode nd.holders.length nd.aD nd.gen=true
structure VD (D:SD):Prop where
 e:D.e<=4611686018427387904
 g:0<=D.g/\D.g<=4611686018427387904
 x:0<=D.x/\D.x<=4611686018427387904
 t:0<=D.t/\D.t<=1000000
 sl:D.ss.length<=50
 nl:D.ns.length<=200
 s1:(gR D.ss).Pairwise (·<·)
 s2:∀ s∈D.ss,SV D.x s
 n1:(D.ns.map fun nd=>iZ nd.path).Pairwise (·<·)
 n2:∀ nd∈D.ns,NV D.e D.g (gR D.ss) (rF D.ns) nd
theorem Cu (hk:ns[k]?=some nd) (hp:nd'.path=nd.path) (ho:nd'.owner=nd.owner):rF (ns.set k nd')=rF ns:=by
 unfold rF;rw [List.map_set];exact dX (by rw [List.getElem?_map,hk];simp [hp,ho])
theorem VD.nE (h:VD D) (hk:D.ns[k]?=some nd) (hp:nd'.path=nd.path) (ho:nd'.owner=nd.owner) (hn:NV D.e D.g (gR D.ss) (rF D.ns) nd'):VD { D with ns:=D.ns.set k nd' }:=by
 refine ⟨h.e,h.g,h.x,h.t,h.sl,by show (List.set _ _ _).length<=_;rw [List.length_set];exact h.nl,h.s1,h.s2,?_,fun y hy=>?_⟩;{
 have e:(D.ns.set k nd').map (fun nd=>iZ nd.path)=D.ns.map fun nd=>iZ nd.path:=by have:=congrArg (List.map iZ) (iG hk hp);rw [List.map_map,List.map_map] at this;exact this
 show List.Pairwise _ (List.map _ (D.ns.set k nd'));rw [e];exact h.n1};{show NV _ _ _ (rF (D.ns.set k nd')) y;rw [Cu hk hp ho];rcases List.mem_or_eq_of_mem_set hy with hy | rfl;{exact h.n2 y hy};{exact hn}}
theorem VD.Gb (h:VD D) {ss':List aL} (hi:gR ss'=gR D.ss) (hs:∀ s∈ss',SV D.x s):VD { D with ss:=ss' }:=by
 have hl:ss'.length=D.ss.length:=by have:=congrArg List.length hi;simpa [gR] using this
 refine ⟨h.e,h.g,h.x,h.t,by show ss'.length<=_;rw [hl];exact h.sl,h.nl,by show List.Pairwise _ (gR ss');rw [hi];exact h.s1,hs,h.n1,fun y hy=>?_⟩;show NV _ _ (gR ss') _ y;rw [hi];exact h.n2 y hy
theorem xE {ev:Ev} (he:Yw ev):∀ (ids:List Int) {ss:List aL},(∀ s∈ss,SV x s)->∀ s∈gH ss ids ev,SV x s
 | [],ss,h=>h
 | y::r,ss,h=>xE he r (ss:=jf ss y ev) fun s hs=>by obtain ⟨s0,h0,rfl⟩:=List.mem_map.1 hs;split;{exact (h s0 h0).push he};{exact h s0 h0}
theorem VD.Cg (h:VD D) {ev:Ev} (he:Yw ev) (ids:List Int):VD { D with ss:=gH D.ss ids ev }:=h.Gb (jC ids ev D.ss) (xE he ids h.s2)
theorem VD.tell (h:VD D) (k:Nat) {kd:Int} (h1:1<=kd) (h3:kd<=3):VD (cX D k kd):=by
 unfold cX;cases hk:D.ns[k]? with
 | none=>exact h
 | some nd=>
  have hn:=h.n2 nd (aF hk);exact VD.Cg (D:={ D with ns:=D.ns.set k { nd with watchers:=[] } }) (h.nE hk rfl rfl ⟨hn.vp,hn.pb,hn.cp,hn.va,hn.vb,hn.ow,hn.h1,hn.h2,List.Pairwise.nil,fun i hi=>by simp at hi,hn.lk⟩) ⟨h1,h3,hn.vp,hn.pb⟩ _
theorem pZ (hk:D.ns[k]?=some nd) (kd:Int):∃ uM,cX D k kd={ D with ss:=uM,ns:=D.ns.set k { nd with watchers:=[] } }/\gR uM=gR D.ss:=by
 unfold cX;rw [hk];exact ⟨_,rfl,jC _ _ _⟩
theorem DK (ns:List aA) (k:Nat):rF (ns.eraseIdx k)=(rF ns).eraseIdx k:=by
 unfold rF
 induction ns generalizing k with
 | nil=>rfl
 | cons a r ih=>cases k with
  | zero=>rfl
  | succ k=>simp [ih]
theorem VD.rm (h:VD D) (hk:D.ns[k]?=some nd) (hc:nd.owner≠0\/∀ z∈rF D.ns,dF z.1≠nd.path):VD (zO D k):=by
 refine ⟨h.e,h.g,h.x,h.t,h.sl,Nat.le_trans (List.Sublist.length_le (List.eraseIdx_sublist _ _)) h.nl,h.s1,h.s2,h.n1.sublist ((List.eraseIdx_sublist _ _).map _),fun y hy=>?_⟩;have hy':=List.mem_of_mem_eraseIdx hy;have hn:=h.n2 y hy';refine ⟨hn.vp,hn.pb,?_,hn.va,hn.vb,hn.ow,hn.h1,hn.h2,hn.w1,hn.w2,hn.lk⟩;rcases hn.cp with e | e;{exact .inl e};{
 refine .inr ?_;show _∈rF (D.ns.eraseIdx k);rw [DK,List.mem_eraseIdx_iff_getElem?];obtain ⟨j,hj⟩:=List.mem_iff_getElem?.1 e;refine ⟨j,fun ej=>?_,hj⟩;subst ej;have:(rF D.ns)[j]?=some (nd.path,nd.owner):=by unfold rF;rw [List.getElem?_map,hk];rfl
 rw [this] at hj;simp only [Option.some.injEq,Prod.mk.injEq] at hj;rcases hc with hc | hc;{exact hc hj.2};{exact hc (y.path,y.owner) (List.mem_map.2 ⟨y,hy',rfl⟩) hj.1.symm}}
theorem VD.drop (h:VD D) (k:Nat) (id:Int):VD (cE D k id):=by
 unfold cE;cases hk:D.ns[k]? with
 | none=>exact h
 | some nd=>
  have hn:=h.n2 nd (aF hk);simp only;split;{
 rename_i hc
 split;{exact VD.tell (D:={ D with ns:=D.ns.set k { nd with holders:=[],mode:=0,aD:=0,gen:=0 } }) (h.nE hk rfl rfl ⟨hn.vp,hn.pb,hn.cp,hn.va,hn.vb,hn.ow,List.Pairwise.nil,fun i hi=>by simp at hi,hn.w1,hn.w2,rfl⟩) k (by decide) (by decide)};{
 rename_i hw
 refine h.nE hk rfl rfl ⟨hn.vp,hn.pb,hn.cp,hn.va,hn.vb,hn.ow,qB hn.h1,fun i hi=>hn.h2 i (jk.1 hi).1,hn.w1,hn.w2,?_⟩;show dh D.e D.g nd.mode (ju nd.holders id).length nd.aD nd.gen=true;have hid:id∈nd.holders:=by simpa using hc
 have ZF:1<=(ju nd.holders id).length:=by
  cases hq:ju nd.holders id with
  | nil=>exact absurd hq hw
  | cons a r=>simp
 have m1:nd.mode≠1:=fun hm=>by have h1:=jW hn.lk hm;obtain ⟨a,ha⟩:=List.length_eq_one_iff.1 h1;rw [ha] at hid hw;simp at hid;subst hid;exact hw (by simp [ju])
 have hl:=hn.lk;unfold dh at hl ⊢;rw [if_neg m1] at hl ⊢;by_cases m0:nd.mode=0;{have:=(ly hn.lk m1).2.2 m0;have:nd.holders=[]:=List.length_eq_zero_iff.1 this;rw [this] at hid;simp at hid};{rw [if_neg m0] at hl ⊢;simp only [Bool.and_eq_true,decide_eq_true_eq] at hl ⊢;exact ⟨hl.1,hl.2.1,hl.2.2.1,ZF⟩}}};{exact h}
theorem En (hk:D.ns[k]?=some nd) (id:Int):∃ uM ia,cE D k id={ D with ss:=uM,ns:=D.ns.set k ia }/\gR uM=gR D.ss/\ia.path=nd.path/\ia.owner=nd.owner/\id∉ia.holders/\(ia.watchers=nd.watchers\/ia.watchers=[]):=by
 unfold cE;rw [hk];simp only;split;{split;{have Jd:(D.ns.set k { nd with holders:=[],mode:=0,aD:=0,gen:=0 })[k]?=some { nd with holders:=[],mode:=0,aD:=0,gen:=0 }:=bN hk _;obtain ⟨uM,e,hi⟩:=pZ (D:={ D with ns:=D.ns.set k { nd with holders:=[],mode:=0,aD:=0,gen:=0 } }) Jd 3;refine ⟨uM,{ nd with holders:=[],mode:=0,aD:=0,gen:=0,watchers:=[] },by rw [e];simp only [List.set_set],hi,rfl,rfl,by simp,.inr rfl⟩};{exact ⟨D.ss,_,rfl,rfl,rfl,rfl,fun hm=>(jk.1 hm).2 rfl,.inl rfl⟩}};{
 rename_i hc
 exact ⟨D.ss,nd,by rw [dX hk],rfl,rfl,rfl,by simpa using hc,.inl rfl⟩}
def Q5 (id:Int) (nd:aA):Prop:=nd.owner≠id/\id∉nd.holders
def nH (id:Int) (ns:List aA):Nat:=ns.countP fun nd=>decide (nd.owner=id)
theorem VD.bO (h0:id≠0):∀ (f k:Nat) {D:SD},VD D->(∀ nd∈D.ns,id∉nd.watchers)->(∀ (j:Nat) (nd:aA),j<k->D.ns[j]?=some nd->Q5 id nd)->D.ns.length<=k+f →
  VD (Proofs.YtcfcafeciggjeaaGreatDoor.bO id f k D)/\gR (Proofs.YtcfcafeciggjeaaGreatDoor.bO id f k D).ss=gR D.ss/\(∀ nd∈(Proofs.YtcfcafeciggjeaaGreatDoor.bO id f k D).ns,Q5 id nd/\id∉nd.watchers)/\(Proofs.YtcfcafeciggjeaaGreatDoor.bO id f k D).ns.length+nH id (D.ns.drop k)=D.ns.length
 | 0,k,D,h,hw,hg,hl=>by
  unfold Proofs.YtcfcafeciggjeaaGreatDoor.bO;refine ⟨h,rfl,fun nd aK=>⟨?_,hw nd aK⟩,?_⟩;{obtain ⟨j,hj⟩:=List.mem_iff_getElem?.1 aK;have:=(aJ.1 hj).1;exact hg j nd (by omega) hj};{
 rw [List.drop_eq_nil_of_le (by omega)]
 rfl}
 | f+1,k,D,h,hw,hg,hl=>by
  unfold Proofs.YtcfcafeciggjeaaGreatDoor.bO;cases hk:D.ns[k]? with
  | none=>
   have hle:D.ns.length<=k:=by simpa using hk
   have e:cE D k id=D:=by unfold cE;rw [hk]
   rw [e,hk];dsimp only;refine ⟨h,rfl,fun nd aK=>⟨?_,hw nd aK⟩,?_⟩;{obtain ⟨j,hj⟩:=List.mem_iff_getElem?.1 aK;have:=(aJ.1 hj).1;exact hg j nd (by omega) hj};{
 rw [List.drop_eq_nil_of_le hle]
 rfl}
  | some nd=>
   have br:=(aJ.1 hk).1;have hv:=h.drop k id;obtain ⟨uM,ia,e,hi,e1,e2,e3,e4⟩:=En hk id;rw [e] at hv ⊢;have oe:(D.ns.set k ia)[k]?=some ia:=bN hk _;have hdr:D.ns.drop k=nd::D.ns.drop (k+1):=(List.fE hk).symm;have hw1:∀ y∈D.ns.set k ia,id∉y.watchers:=fun y hy=>by
    rcases List.mem_or_eq_of_mem_set hy with hy | rfl;{exact hw y hy};{
 rcases e4 with e4 | e4<;>rw [e4]
 {exact hw nd (aF hk)};{simp}}
   simp only [oe];by_cases ho:ia.owner=id;{
 rw [if_pos ho];obtain ⟨ss2,eT,hi2⟩:=pZ (D:={ D with ss:=uM,ns:=D.ns.set k ia }) oe 2;have Zt:=VD.tell (D:={ D with ss:=uM,ns:=D.ns.set k ia }) hv k (kd:=2) (by decide) (by decide);rw [eT] at Zt ⊢;simp only [List.set_set] at Zt ⊢;have z8:(D.ns.set k { ia with watchers:=[] })[k]?=some { ia with watchers:=[] }:=bN hk _;have hvR:=VD.rm Zt (nd:={ ia with watchers:=[] }) z8 (.inl (by show ia.owner≠0;rw [ho];exact h0));have MF:(zO { D with ss:=ss2,ns:=D.ns.set k { ia with watchers:=[] } } k).ns=D.ns.eraseIdx k:=by show (D.ns.set k _).eraseIdx k=_;exact List.eraseIdx_set_eq
 have hlen:(D.ns.eraseIdx k).length=D.ns.length-1:=List.length_eraseIdx_of_lt br;obtain ⟨q1,q2,q3,q4⟩:=VD.bO h0 f k hvR (fun y hy=>by
  rw [MF] at hy;exact hw y (List.mem_of_mem_eraseIdx hy)) (fun j y hj hy=>by
  rw [MF,List.getElem?_eraseIdx_of_lt hj] at hy;exact hg j y hj hy) (by rw [MF,hlen];omega)
 refine ⟨q1,q2.trans (hi2.trans hi),q3,?_⟩;rw [MF,hlen,tc _ _ br] at q4;rw [hdr,nH,List.countP_cons_of_pos (by simp [<-e2,ho]),<-nH];omega};{
 rw [if_neg ho];obtain ⟨q1,q2,q3,q4⟩:=VD.bO h0 f (k+1) hv hw1 (fun j y hj hy=>by
  change (D.ns.set k ia)[j]?=some y at hy
  rw [List.getElem?_set] at hy;by_cases ej:k=j;{subst ej;rw [if_pos rfl,if_pos br] at hy;cases hy;exact ⟨ho,e3⟩};{rw [if_neg ej] at hy;exact hg j y (by omega) hy}) (by show (List.set _ _ _).length<=_;rw [List.length_set];omega)
 refine ⟨q1,q2.trans hi,q3,?_⟩;have e5:(D.ns.set k ia).drop (k+1)=D.ns.drop (k+1):=by rw [List.drop_set_of_lt (by omega)]
 simp only [e5,List.length_set] at q4;rw [hdr,nH,List.countP_cons_of_neg (by simp [<-e2,ho]),<-nH];exact q4}
theorem vS (id:Int) (ss:List aL):gR (DR id ss)=(gR ss).filter fun i=>!(i==id):=by
 unfold gR DR;rw [List.filter_map]
 rfl
theorem VD.close (h:VD D) (h0:id≠0):VD (dw D id)/\gR (dw D id).ss=(gR D.ss).filter (fun i=>!(i==id))/\(∀ nd∈(dw D id).ns,Q5 id nd/\id∉nd.watchers)/\(dw D id).ns.length+nH id D.ns=D.ns.length:=by
 have Ps:VD { D with ns:=D.ns.map (rJ id) }:=by
  have ep:rF (D.ns.map (rJ id))=rF D.ns:=by unfold rF;rw [List.map_map];rfl
  refine ⟨h.e,h.g,h.x,h.t,h.sl,by show (List.map _ _).length<=_;rw [List.length_map];exact h.nl,h.s1,h.s2,by show List.Pairwise _ (List.map _ (D.ns.map (rJ id)));rw [List.map_map];exact h.n1,fun y hy=>?_⟩;obtain ⟨z,hz,rfl⟩:=List.mem_map.1 hy;have hn:=h.n2 z hz;show NV _ _ _ (rF (D.ns.map (rJ id))) _;rw [ep];exact ⟨hn.vp,hn.pb,hn.cp,hn.va,hn.vb,hn.ow,hn.h1,hn.h2,qB hn.w1,fun i hi=>hn.w2 i (jk.1 hi).1,hn.lk⟩
 obtain ⟨q1,q2,q3,q4⟩:=VD.bO h0 D.ns.length 0 Ps (fun y hy=>by obtain ⟨z,hz,rfl⟩:=List.mem_map.1 hy;exact fun hm=>(jk.1 hm).2 rfl) (fun j y hj=>by omega) (by show (List.map _ _).length<=_;rw [List.length_map];omega)
 refine ⟨?_,(vS _ _).trans (by rw [q2]),q3,?_⟩;{
 refine ⟨q1.e,q1.g,q1.x,q1.t,Nat.le_trans (List.length_filter_le _ _) q1.sl,q1.nl,?_,fun s hs=>q1.s2 s (List.mem_filter.1 hs).1,q1.n1,fun y hy=>?_⟩;{show List.Pairwise _ (gR (DR id _));rw [vS];exact q1.s1.filter _};{
 have hn:=q1.n2 y hy;obtain ⟨⟨g1,g2⟩,g3⟩:=q3 y hy;have key:∀ i,i∈gR (Proofs.YtcfcafeciggjeaaGreatDoor.bO id D.ns.length 0 { D with ns:=D.ns.map (rJ id) }).ss->i≠id->i∈gR (DR id (Proofs.YtcfcafeciggjeaaGreatDoor.bO id D.ns.length 0 { D with ns:=D.ns.map (rJ id) }).ss):=fun i hi bq=>by rw [vS];exact List.mem_filter.2 ⟨hi,by simp [bq]⟩
 exact ⟨hn.vp,hn.pb,hn.cp,hn.va,hn.vb,hn.ow.imp (fun h=>h) (fun ho=>key _ ho g1),hn.h1,fun i hi=>key i (hn.h2 i hi) (fun e=>g2 (e▸hi)),hn.w1,fun i hi=>key i (hn.w2 i hi) (fun e=>g3 (e▸hi)),hn.lk⟩}};{
 have e:nH id (List.drop 0 (D.ns.map (rJ id)))=nH id D.ns:=by
  rw [List.drop_zero,nH,List.countP_map]
  rfl
 have q5:=q4;simp only [List.length_map] at q5;rw [e] at q5;exact q5}
theorem PD.pw (h:(ns.map fun nd=>iZ nd.path).Pairwise (·<·)):PD ns:=fun i j a b ha hb e=>by
 have key:∀ (i j:Nat) (a b:aA),ns[i]?=some a->ns[j]?=some b->a.path=b.path->¬ i<j:=fun i j a b ha hb e ic=>by obtain ⟨h1,rfl⟩:=aJ.1 ha;obtain ⟨h2,rfl⟩:=aJ.1 hb;have:=List.pairwise_iff_getElem.1 h i j (by simpa using h1) (by simpa using h2) ic;simp only [List.getElem_map,e] at this;exact List.lt_irrefl _ this
 have h1:=key i j a b ha hb e;have h2:=key j i b a hb ha e.symm;omega
theorem qw (hd:PD ns) (l:List Int):dG ns l=true↔CP (rF ns) l:=by
 unfold dG CP;by_cases h:l=[47];{simp [h]};{
 rw [if_neg h];constructor;{
 intro hc;cases hn:ga ns l with
 | none=>rw [hn] at hc;cases hc
 | some nd=>
  rw [hn] at hc;have hp:nd.path=l:=by simpa using List.find?_some hn
  exact .inr (List.mem_map.2 ⟨nd,List.mem_of_find?_eq_some hn,by rw [hp,show nd.owner=0 by simpa using hc]⟩)};{
 rintro (e | e);{exact absurd e h};{
 obtain ⟨nd,hm,e2⟩:=List.mem_map.1 e;simp only [Prod.mk.injEq] at e2;cases hn:ga ns l with
 | none=>exact absurd (List.find?_eq_none.1 hn nd hm) (by simp [e2.1])
 | some n2=>
  have hp:n2.path=l:=by simpa using List.find?_some hn
  obtain ⟨i,hi⟩:=List.mem_iff_getElem?.1 hm;obtain ⟨j,hj⟩:=List.mem_iff_getElem?.1 (List.mem_of_find?_eq_some hn);have:=hd i j nd n2 hi hj (e2.1.trans hp.symm);subst this;rw [hi] at hj;cases hj;simp [e2.2]}}}
theorem Dm (h:l.Pairwise (·<·)) {i:Nat} (hi:i<l.length):(i==0||decide (l.getD (i-1) 0<l.getD i 0))=true:=by
 cases i with
 | zero=>rfl
 | succ i=>
  have:=List.pairwise_iff_getElem.1 h i (i+1) (by omega) hi (by omega);simp [List.getD_eq_getElem?_getD,aE hi,aE (show i<l.length by omega),this]
theorem sy {i:Int}:live ss i=true↔i∈gR ss:=by
 unfold live gR;simp only [List.any_eq_true,beq_iff_eq,List.mem_map]
theorem GJ (h:l.Pairwise (·<·)) (h2:∀ i∈l,i∈gR ss):dZ ss l=true:=by
 unfold dZ;simp only [List.all_eq_true,List.mem_range];intro i hi;unfold uk;rw [Dm h hi,Bool.and_true,sy];refine h2 _ ?_;rw [List.getD_eq_getElem?_getD,aE hi];exact List.getElem_mem hi
theorem Qv:∀ (a b:List UInt8),Op.bytesLess a b=true↔a<b:=fun a b=>by rw [T.iy];simp
theorem VD.ok (h:VD D):jl D.e D.g D.x D.t D.ss D.ns=true:=by
 unfold jl;simp only [Bool.and_eq_true,decide_eq_true_eq,List.all_eq_true,List.mem_range];refine ⟨⟨h.e,h.g.2,h.x.2,h.t.1,h.t.2,h.sl,h.nl⟩,fun i hi=>?_,fun i hi=>?_⟩;{
 have hs:=h.s2 _ (List.getElem_mem hi);have ha:=Dm h.s1 (i:=i) (by unfold gR;simpa using hi);have e:∀ j,(D.ss.getD j (0,0,[])).1=(gR D.ss).getD j 0:=fun j=>by unfold gR;rw [List.getD_eq_getElem?_getD,List.getD_eq_getElem?_getD,List.getElem?_map];cases D.ss[j]?<;>rfl
 have ed:D.ss.getD i (0,0,[])=D.ss[i]:=by rw [List.getD_eq_getElem?_getD,aE hi];rfl
 rw [<-e,<-e] at ha;unfold gU;rw [ha,ed];simp only [Bool.and_eq_true,decide_eq_true_eq,Bool.true_and];exact ⟨hs.1.1,hs.1.2,hs.2.1.1,hs.2.1.2,hs.2.2.1⟩};{
 have hn:=h.n2 _ (List.getElem_mem hi);unfold gq;simp only [List.getD_eq_getElem?_getD,aE hi,Option.getD_some,Bool.and_eq_true,decide_eq_true_eq,Bool.or_eq_true];refine ⟨⟨hn.vp,?_⟩,(qw (PD.pw h.n1) _).2 hn.cp,hn.va,?_,GJ hn.h1 hn.h2,GJ hn.w1 hn.w2,hn.lk⟩;{
 cases i with
 | zero=>exact .inl rfl
 | succ i=>
  refine .inr ?_;have:=List.pairwise_iff_getElem.1 h.n1 i (i+1) (by simp;omega) (by simpa using hi) (by omega);simp only [List.getElem_map] at this;simp only [Nat.add_sub_cancel,aE (show i<D.ns.length by omega),Option.getD_some];rw [ir,Qv,dE,dE];exact this};{rcases hn.ow with e | e;{exact .inl (by simp [e])};{exact .inr (sy.2 e)}}}
theorem VD.of {t:Int} (h:jl e g x t ss ns=true) (hF:xk ss ns) (g0:0<=g) (x0:0<=x) (hq:∀ s∈ss,∀ ev∈s.2.2,bQ ev.2) (hv:∀ nd∈ns,bQ nd.value):VD ⟨e,g,x,t,ss,ns⟩:=by
 have h':=h;unfold jl at h';simp only [Bool.and_eq_true,decide_eq_true_eq] at h';obtain ⟨⟨l1,l2,l3,l4,l5,l6,l7⟩,a1,a2⟩:=h';refine ⟨l1,⟨g0,l2⟩,⟨x0,l3⟩,⟨l4,l5⟩,l6,l7,by unfold gR;rw [List.pairwise_map];exact hF.s1,fun s hs=>?_,hF.n1,fun nd aK=>?_⟩;{obtain ⟨i,hi⟩:=List.mem_iff_getElem?.1 hs;have:=List.all_eq_true.1 a1 i (by simpa using (aJ.1 hi).1);unfold gU at this;rw [List.getD_eq_getElem?_getD,hi] at this;simp only [Option.getD_some,Bool.and_eq_true,decide_eq_true_eq] at this;exact ⟨⟨this.1,this.2.1⟩,⟨this.2.2.2.1,this.2.2.2.2.1⟩,this.2.2.2.2.2,hq s hs⟩};{obtain ⟨i,hi⟩:=List.mem_iff_getElem?.1 aK;obtain ⟨f1,f2,f3,f4,f5,f6,f7⟩:=hF.n2 nd aK;have vg:=(aJ.1 hi).1;have:=List.all_eq_true.1 a2 i (by simpa using vg);unfold gq at this;simp only [List.getD_eq_getElem?_getD,hi,Option.getD_some,Bool.and_eq_true,decide_eq_true_eq,Bool.or_eq_true] at this;obtain ⟨⟨q1,-⟩,q2,q3,q4,q5,q6,q7⟩:=this;refine ⟨q1,f1,(qw (PD.pw hF.n1) _).1 q2,q3,hv nd aK,q4.imp (fun e=>by simpa using e) sy.1,f6,fun j hj=>?_,f7,fun j hj=>?_,q7⟩;{obtain ⟨s,hs,e⟩:=jZ q5 j hj;exact List.mem_map.2 ⟨s,hs,e⟩};{obtain ⟨s,hs,e⟩:=jZ q6 j hj;exact List.mem_map.2 ⟨s,hs,e⟩}}
theorem Ge (h:¬ kp ss S<0):S∈gR ss:=by
 unfold kp at h;cases hf:ss.findIdx? (fun s=>s.1==S) with
 | none=>rw [hf] at h;simp at h
 | some k=>
  obtain ⟨h1,h2,-⟩:=List.findIdx?_eq_some_iff_getElem.1 hf;exact List.mem_map.2 ⟨_,List.getElem_mem h1,by simpa using h2⟩
theorem NV.gen {g':Int} {C:List (List Int × Int)} (h:NV e g I C nd) (hg:g<=g'):NV e g' I C nd:=by
 refine ⟨h.vp,h.pb,h.cp,h.va,h.vb,h.ow,h.h1,h.h2,h.w1,h.w2,?_⟩;have:=h.lk;unfold dh at this ⊢;split;{
 rename_i hm
 rw [if_pos hm] at this;simp only [Bool.and_eq_true,decide_eq_true_eq] at this ⊢;exact ⟨this.1,this.2.1,by omega,this.2.2.2⟩};{
 rename_i hm
 rwa [if_neg hm] at this}
theorem NV.ids {I':List Int} {C:List (List Int × Int)} (h:NV e g I C nd) (hi:∀ i∈I,i∈I'):NV e g I' C nd:=
 ⟨h.vp,h.pb,h.cp,h.va,h.vb,h.ow.imp (fun h=>h) (hi _),h.h1,fun i hh=>hi i (h.h2 i hh),h.w1,fun i hh=>hi i (h.w2 i hh),h.lk⟩
theorem VD.create (h:VD D) (hv:vp P=true) (hB:bQ P) (hV:V.length<=40) (bV:bQ V) (hS:S∈gR D.ss):VD (iw D P V S F).1:=by
 unfold iw;split;{exact h};{
 rename_i h1
 split;{exact h};{
 rename_i h2
 split;{exact h};{
 rename_i h3
 have lG:ga D.ns P=none:=by simpa using h1
 have hc:dG D.ns (dF P)=true:=by simpa using h2
 have Xu:=(qw (PD.pw h.n1) _).1 hc;have hm:∀ z∈rF D.ns,z∈rF (iU (fy P V (if F=1 then S else 0)) D.ns):=fun z hz=>by obtain ⟨y,hy,rfl⟩:=List.mem_map.1 hz;exact List.mem_map.2 ⟨y,oT.2 (.inr hy),rfl⟩
 have wN:∀ l,CP (rF D.ns) l->CP (rF (iU (fy P V (if F=1 then S else 0)) D.ns)) l:=fun l hl=>hl.imp (fun h=>h) (hm _);refine ⟨h.e,h.g,h.x,h.t,h.sl,by show (iU _ _).length<=_;rw [sI];omega,h.s1,h.s2,AW h.n1 (fun y hy e=>?_),fun y hy=>?_⟩;{have:=List.find?_eq_none.1 lG y hy;exact this (by simpa using Dj (h.n2 y hy).pb hB e)};{rcases oT.1 hy with rfl | hy;{refine ⟨hv,hB,wN _ Xu,hV,bV,?_,List.Pairwise.nil,fun i hi=>by simp [fy] at hi,List.Pairwise.nil,fun i hi=>by simp [fy] at hi,rfl⟩;show (if F=1 then S else 0)=0\/_;split;{exact .inr hS};{exact .inl rfl}};{have hn:=h.n2 y hy;exact ⟨hn.vp,hn.pb,wN _ hn.cp,hn.va,hn.vb,hn.ow,hn.h1,hn.h2,hn.w1,hn.w2,hn.lk⟩}}}}}
theorem VD.lock (h:VD D) (k:Nat) {s:Int} (fl:Int) (hS:s∈gR D.ss):VD (oP D k s fl).1:=by
 unfold oP;cases hk:D.ns[k]? with
 | none=>exact h
 | some nd=>
  have hn:=h.n2 nd (aF hk);simp only;split;{exact h};{
 split;{
 split;{exact h};{
 rename_i m1
 refine h.nE hk rfl rfl ⟨hn.vp,hn.pb,hn.cp,hn.va,hn.vb,hn.ow,uK hn.h1,fun i hi=>?_,hn.w1,hn.w2,?_⟩;{rcases nB.1 hi with rfl | hi;{exact hS};{exact hn.h2 i hi}};{obtain ⟨l1,l2,-⟩:=ly hn.lk m1;show dh D.e D.g 2 (jA nd.holders s).length nd.aD nd.gen=true;have:1<=(jA nd.holders s).length:=List.length_pos_of_mem (nB.2 (.inl rfl));simp [dh,l1,l2,this]}}};{
 split;{exact h};{
 split;{exact h};{
 rename_i hg
 have h':VD { D with g:=D.g+1 }:=⟨h.e,⟨by have:=h.g;show 0<=D.g+1;omega,by show D.g+1<=_;omega⟩,h.x,h.t,h.sl,h.nl,h.s1,h.s2,h.n1,fun y hy=>(h.n2 y hy).gen (by show D.g<=D.g+1;omega)⟩;refine VD.nE h' (nd':={ nd with mode:=1,holders:=[s],aD:=D.e,gen:=D.g+1 }) hk rfl rfl ⟨hn.vp,hn.pb,hn.cp,hn.va,hn.vb,hn.ow,by simp,fun i hi=>?_,hn.w1,hn.w2,?_⟩;{simp at hi;rw [hi];exact hS};{have:=h.g;show dh D.e (D.g+1) 1 1 D.e (D.g+1)=true;simp [dh];omega}}}}}
theorem VD.node (h:VD D) (k:Nat) (hV:K=7->V.length<=40) (bV:bQ V) (hS:S∈gR D.ss\/K=6):VD (oK D k K S F V).1:=by
 unfold oK;cases hk:D.ns[k]? with
 | none=>exact h
 | some nd=>
  have hn:=h.n2 nd (aF hk);simp only;split;{
 split;{exact h};{
 split;{exact h};{
 rename_i Be _
 have Be:gv D.ns nd.path=[]:=by simpa using Be
 obtain ⟨uM,eT,-⟩:=pZ hk 2;have hT:=h.tell k (kd:=2) (by decide) (by decide);rw [eT] at hT ⊢;refine VD.rm hT (nd:={ nd with watchers:=[] }) (bN hk _) (.inr fun z hz e=>?_);rw [show rF ({ D with ss:=uM,ns:=D.ns.set k { nd with watchers:=[] } }:SD).ns=rF D.ns from Cu hk rfl rfl] at hz;obtain ⟨y,hy,rfl⟩:=List.mem_map.1 hz;unfold gv at Be;rw [List.map_eq_nil_iff,List.filter_eq_nil_iff] at Be;exact Be y hy (by simpa using e)}}};{
 split;{exact h};{
 rename_i n6
 have hS:=hS.resolve_right n6;split;{
 split;{exact h};{
 rename_i h7 _
 exact VD.tell (D:={ D with ns:=D.ns.set k { nd with value:=V } }) (h.nE hk rfl rfl ⟨hn.vp,hn.pb,hn.cp,hV h7,bV,hn.ow,hn.h1,hn.h2,hn.w1,hn.w2,hn.lk⟩) k (by decide) (by decide)}};{split;{exact h.lock k F hS};{split;{split;{exact h.drop k S};{exact h}};{refine h.nE hk rfl rfl ⟨hn.vp,hn.pb,hn.cp,hn.va,hn.vb,hn.ow,hn.h1,hn.h2,uK hn.w1,fun i hi=>?_,hn.lk⟩;rcases nB.1 hi with rfl | hi;{exact hS};{exact hn.w2 i hi}}}}}}
theorem VD.SP (h:VD D) (hk:D.ss[k]?=some s) {d:Int} {q:List Ev} (hs:SV D.x (s.1,d,q)):VD { D with ss:=D.ss.set k (s.1,d,q) }:=by
 refine h.Gb ?_ fun y hy=>?_;{unfold gR;rw [List.map_set];exact dX (by rw [List.getElem?_map,hk];rfl)};{rcases List.mem_or_eq_of_mem_set hy with hy | rfl;{exact h.s2 y hy};{exact hs}}
theorem VD.apply (h:VD D) {E G:Int} (hB:bQ P) (bV:bQ V):VD (bS D K S F E G P V).1:=by
 unfold bS;split;{exact h};{
 rename_i hf
 split;{
 unfold jG;split;{exact h};{
 split;{exact h};{
 rename_i h1 h2
 have hx:=h.x;have ht:=h.t;have ei:gR (D.ss++[(D.x+1,D.t+10,[])])=gR D.ss++[D.x+1]:=by simp [gR]
 refine ⟨h.e,h.g,⟨by show 0<=D.x+1;omega,by show D.x+1<=_;omega⟩,h.t,by show (D.ss++[_]).length<=_;simp;omega,h.nl,?_,fun s hs=>?_,h.n1,fun y hy=>?_⟩;{show List.Pairwise _ (gR (D.ss++[_]));rw [ei,List.pairwise_append];refine ⟨h.s1,by simp,fun a ha c hc=>?_⟩;simp at hc;obtain ⟨s,hs,rfl⟩:=List.mem_map.1 ha;have:=(h.s2 s hs).1.2;omega};{rcases List.mem_append.1 hs with hs | hs;{have q:=h.s2 s hs;exact ⟨⟨q.1.1,by have:=q.1.2;show s.1<=D.x+1;omega⟩,q.2⟩};{simp at hs;rw [hs];exact ⟨⟨by show 1<=D.x+1;omega,by show D.x+1<=D.x+1;omega⟩,⟨by show 0<=D.t+10;omega,by show D.t+10<=_;omega⟩,rfl,fun e he=>by simp at he⟩}};{show NV _ _ (gR (D.ss++[_])) _ y;rw [ei];exact (h.n2 y hy).ids fun i hi=>List.mem_append_left _ hi}}}};{
 rename_i n1
 split;{exact h};{
 rename_i hs
 have G7:A0 K=true->S∈gR D.ss:=fun hh=>Ge (by intro hn;simp [hh,hn] at hs);split;{
 unfold iP;cases hk:D.ss[(kp D.ss S).toNat]? with
 | none=>exact h
 | some s=>
  have q:=h.s2 s (aF hk);have ht:=h.t;simp only;split;{exact h.SP hk ⟨q.1,⟨by show 0<=D.t+10;omega,by show D.t+10<=_;omega⟩,q.2.2⟩};{exact h}};{
 split;{
 rename_i n2 h3
 have:S∈gR D.ss:=G7 (by rw [h3];rfl);obtain ⟨s,hm,rfl⟩:=List.mem_map.1 this;exact (h.close (by have:=(h.s2 s hm).1.1;omega)).1};{
 split;{
 unfold uT;cases hk:D.ss[(kp D.ss S).toNat]? with
 | none=>exact h
 | some s=>
  have q:=h.s2 s (aF hk);exact h.SP hk ⟨q.1,q.2.1,rfl,fun e he=>by simp at he⟩};{
 rename_i n2 n3 n12
 have hV:K=4\/K=7->V.length<=40:=fun hK=>by rcases hK with rfl | rfl<;>· simp [Dc,Eg,Ll,rowOf] at hf;omega
 unfold qH;split;{exact h};{
 rename_i hp
 split;{
 rename_i h4
 rw [Cp (by omega)] at hp;exact h.create (by simpa using hp) hB (hV (.inl h4)) bV (G7 (by rw [h4];rfl))};{
 split;{exact h};{
 split;{exact h};{
 split;{exact h};{
 rename_i n4 n10 _ n13
 refine h.node _ (fun e=>hV (.inr e)) bV ?_;by_cases h6:K=6;{exact .inr h6};{exact .inl (G7 (by simp [A0,n1,h6,n13]))}}}}}}}}}}}}
theorem Kj (D:SD) (i:Nat):(iP D i).1.t=D.t:=by
 unfold iP;split;{rfl}
 {split<;>rfl}
theorem Dp (D:SD) (K S F E G:Int) (P V:List Int):(bS D K S F E G P V).1.t=D.t:=by
 unfold bS;split;{rfl}
 {
 split;{
 unfold jG;split;{rfl}
 {split<;>rfl}}
 {
 split;{rfl}
 {
 split;{exact Kj _ _};{
 split;{exact (nZ _ _).2.2.2};{
 split;{unfold uT;split<;>rfl}
 {
 unfold qH;split;{rfl}
 {
 split;{
 unfold iw
 repeat' split
 all_goals rfl}
 {
 repeat' split
 all_goals try rfl
 unfold oK;split;{rfl}
 {
 split;{
 repeat' split
 all_goals try rfl
 exact (iF _ _ _).2.2.2};{
 split;{rfl}
 {
 split;{
 split;{rfl}
 {exact (iF _ _ _).2.2.2}};{
 split;{
 unfold oP
 repeat' split
 all_goals rfl}
 {
 split;{split;{exact (qt _ _ _).2.2.2};{rfl}}
 {rfl}}}}}}}}}}}}}}
theorem Kk (D:SD) (i:Nat):(iP D i).1.e=D.e:=by
 unfold iP;split;{rfl}
 {split<;>rfl}
theorem LM (D:SD) (K S F E G:Int) (P V:List Int):(bS D K S F E G P V).1.e=D.e:=by
 unfold bS;split;{rfl}
 {
 split;{
 unfold jG;split;{rfl}
 {split<;>rfl}}
 {
 split;{rfl}
 {
 split;{exact Kk _ _};{
 split;{exact (nZ _ _).1};{
 split;{unfold uT;split<;>rfl}
 {
 unfold qH;split;{rfl}
 {
 split;{
 unfold iw
 repeat' split
 all_goals rfl}
 {
 repeat' split
 all_goals try rfl
 unfold oK;split;{rfl}
 {
 split;{
 repeat' split
 all_goals try rfl
 exact (iF _ _ _).1};{
 split;{rfl}
 {
 split;{
 split;{rfl}
 {exact (iF _ _ _).1}};{
 split;{
 unfold oP
 repeat' split
 all_goals rfl}
 {
 split;{split;{exact (qt _ _ _).1};{rfl}}
 {rfl}}}}}}}}}}}}}}
theorem VD.wf (h:VD D):WF D:=by
 have hl:∀ (l:List Int),l.Pairwise (·<·)->(∀ i∈l,i∈gR D.ss)->l.length<=50:=fun l hp hm=>by have:=rG l (gR D.ss) (hp.imp (fun Bo e=>by omega)) hm;have:=h.sl;unfold gR at *;rw [List.length_map] at *;omega
 refine ⟨h.g,h.x,h.t,fun nd aK=>?_,fun nd aK=>?_,fun nd aK=>?_,fun nd aK hm e=>?_,PD.pw h.n1⟩
 all_goals have hn:=h.n2 nd aK
 {exact ⟨Nat.le_trans (kR hn.vp) (by decide),Nat.le_trans (hl _ hn.w1 hn.w2) (by decide),Nat.le_trans (hl _ hn.h1 hn.h2) (by decide)⟩};{exact ⟨hn.vp,hn.pb,Nat.le_trans (kR hn.vp) (by decide)⟩};{exact Nat.le_trans hn.va (by decide)};{have:=jW hn.lk hm;rw [e] at this;cases this}
end Go.Proofs.YtcfcafeciggjeaaGreatDoor
