import Derived.Test.YtcfcafeciggjeaaGreatDoorK38
import Derived.Test.YtcfcafeciggjeaaGreatDoorDW2
import Derived.Test.YtcfcafeciggjeaaGreatDoorASg
namespace Go.Proofs.YtcfcafeciggjeaaGreatDoor
set_option linter.all false
set_option maxRecDepth 100000
open Go.ChangeShapes Go.WideShapes Go.ChangeAt Go.RowKit Go.Maps
variable {D:SD} {P V cd l:List Int} {Qs:List Value} {a a' c ds g i k sb t:Nat} {e id x:Int} {f:Nat->Gv} {nd nd':aD} {ns:List aD} {p ps qs:Option Addr} {s:aY} {ss:List aY} {w w0 w1:World}
def NG (a:Nat) (nd:aD):Prop:=bM nd.path/\nd.path.length<=136/\nd.value.length<=40/\nd.holders.length<=a/\nd.watchers.length<=a/\nd.holders.Pairwise (·<·)/\nd.watchers.Pairwise (·<·)
structure Fd (a:Nat) (ss:List aY) (ns:List aD):Prop where
 sl:ss.length<=a
 nl:ns.length<=a+150
 s1:ss.Pairwise (fun s s'=>s.1<s'.1)
 n1:(ns.map fun nd=>ko nd.path).Pairwise (·<·)
 s2:∀ s∈ss,(0<=s.1/\s.1<18446744073709551616)/\s.2.2.length<=8/\∀ e∈s.2.2,e.2.length<=136
 n2:∀ nd∈ns,NG a nd
theorem NG.mono (h:NG a nd) (ha:a<=a'):NG a' nd:=⟨h.1,h.2.1,h.2.2.1,by have:=h.2.2.2.1;omega,by have:=h.2.2.2.2.1;omega,h.2.2.2.2.2⟩
theorem Fd.mono (h:Fd a ss ns) (ha:a<=a'):Fd a' ss ns:=⟨by have:=h.sl;omega,by have:=h.nl;omega,h.s1,h.n1,h.s2,fun nd aV=>(h.n2 nd aV).mono ha⟩
theorem Fd.of {g t:Int} (h:jY e g x t ss ns=true) (hF:BT ss ns):Fd 50 ss ns:=by
 have h':=h;unfold jY at h';simp only [Bool.and_eq_true,decide_eq_true_eq] at h';obtain ⟨⟨-,-,-,-,-,l1,l2⟩,a1,a2⟩:=h';refine ⟨l1,l2,hF.s1,hF.n1,fun s hs=>?_,fun nd aV=>?_⟩;{obtain ⟨-,-,q⟩:=wC a1 hs;unfold fy at q;simp only [Bool.and_eq_true,decide_eq_true_eq,List.all_eq_true,List.mem_range] at q;refine ⟨(hF.s2 s hs).1,q.1,fun e he=>?_⟩;obtain ⟨i,hi⟩:=List.mem_iff_getElem?.1 he;have h1:=q.2 i (aN.1 hi).1;rw [List.getD_eq_getElem?_getD,hi,Option.getD_some] at h1;unfold iy at h1;split at h1;{simp only [Bool.and_eq_true,beq_iff_eq] at h1;omega};{simp only [Bool.and_eq_true] at h1;exact nZ h1.2.2}};{
 obtain ⟨i,hi⟩:=List.mem_iff_getElem?.1 aV;obtain ⟨-,q2,q3⟩:=rR a2 hi;obtain ⟨f1,f2,f3,f4,f5,f6,f7⟩:=hF.n2 nd aV;have hv:=CQ a2 hi;have key:∀ ids:List Int,ids.Pairwise (·<·)->gq ss ids=true->ids.length<=50:=fun ids hp hk=>by
  have:=vD ids (ss.map (·.1)) (jB hp) fun i hi=>by obtain ⟨z,hz,e⟩:=mQ hk i hi;exact List.mem_map.2 ⟨z,hz,e⟩
  rw [List.length_map] at this;omega
 have oE:nd.value.length<=40:=by have Bg:=(aN.1 hi).1;have:=List.all_eq_true.1 a2 i (List.mem_range.2 Bg);unfold iP at this;rw [List.getD_eq_getElem?_getD,hi,Option.getD_some] at this;simp only [Bool.and_eq_true,decide_eq_true_eq] at this;omega
 exact ⟨f1,nZ hv,oE,key _ f6 q2,key _ f7 q3,f6,f7⟩}
theorem Fd.RH (h:Fd a ss ns) (id:Int) {ev:Ev} (he:ev.2.length<=136):Fd a (jG ss id ev) ns:=by
 refine ⟨by unfold jG;rw [List.length_map];exact h.sl,h.nl,?_,h.n1,fun s hs=>?_,h.n2⟩;{have:=h.s1;rw [<-List.pairwise_map (f:=fun s:aY=>s.1) (R:=(·<·))] at this ⊢;rw [tQ];exact this};{obtain ⟨s0,h0,rfl⟩:=List.mem_map.1 hs;obtain ⟨q1,q2,q3⟩:=h.s2 s0 h0;split;{refine ⟨q1,zk ev q2,fun e Tv=>?_⟩;simp only [dM] at Tv;split at Tv;{rcases List.mem_append.1 Tv with h1 | h1;{exact q3 e h1};{simp at h1;rw [h1];exact he}};{split at Tv;{rcases List.mem_append.1 Tv with h1 | h1;{exact q3 e h1};{simp at h1;rw [h1];simp}};{exact q3 e Tv}}};{exact ⟨q1,q2,q3⟩}}
theorem Fd.GK {ev:Ev} (he:ev.2.length<=136):∀ (ids:List Int) {ss:List aY},Fd a ss ns->Fd a (fN ss ids ev) ns
 | [],ss,h=>h
 | x::r,ss,h=>Fd.GK he r (h.RH x he)
theorem Fd.qy (h:Fd a ss ns) (hk:ns[k]?=some nd) (hp:nd'.path=nd.path) (hn:NG a nd'):Fd a ss (ns.set k nd'):=by
 refine ⟨h.sl,by rw [List.length_set];exact h.nl,h.s1,?_,h.s2,fun x hx=>?_⟩;{
 have e:(ns.set k nd').map (fun nd=>ko nd.path)=ns.map fun nd=>ko nd.path:=by have:=congrArg (List.map ko) (kk hk hp);rw [List.map_map,List.map_map] at this;exact this
 rw [e];exact h.n1};{rcases List.mem_or_eq_of_mem_set hx with hx | rfl;{exact h.n2 x hx};{exact hn}}
theorem Fd.tell (h:Fd a D.ss D.ns) (k:Nat) (kd:Int):Fd a (cO D k kd).ss (cO D k kd).ns:=by
 unfold cO;cases hk:D.ns[k]? with
 | none=>exact h
 | some nd=>
  have hn:=h.n2 nd (aF hk);exact Fd.GK hn.2.1 _ (h.qy hk rfl ⟨hn.1,hn.2.1,hn.2.2.1,hn.2.2.2.1,by simp,hn.2.2.2.2.2.1,List.Pairwise.nil⟩)
theorem Fd.rm (h:Fd a D.ss D.ns) (k:Nat):Fd a (AH D k).ss (AH D k).ns:=
 ⟨h.sl,Nat.le_trans (List.Sublist.length_le (List.eraseIdx_sublist _ _)) h.nl,h.s1,h.n1.sublist ((List.eraseIdx_sublist _ _).map _),h.s2,fun nd aV=>h.n2 nd (List.mem_of_mem_eraseIdx aV)⟩
theorem Fd.drop (h:Fd a D.ss D.ns) (k:Nat) (id:Int):Fd a (cT D k id).ss (cT D k id).ns:=by
 unfold cT;cases hk:D.ns[k]? with
 | none=>exact h
 | some nd=>
  have hn:=h.n2 nd (aF hk);simp only;split;{split;{exact Fd.tell (D:={ D with ns:=_ }) (h.qy (nd':={ nd with holders:=[],mode:=0,aB:=0,gen:=0 }) hk rfl ⟨hn.1,hn.2.1,hn.2.2.1,Nat.zero_le _,hn.2.2.2.2.1,List.Pairwise.nil,hn.2.2.2.2.2.2⟩) k 3};{exact h.qy hk rfl ⟨hn.1,hn.2.1,hn.2.2.1,Nat.le_trans (nW _ _) hn.2.2.2.1,hn.2.2.2.2.1,ue hn.2.2.2.2.2.1,hn.2.2.2.2.2.2⟩}};{exact h}
theorem Fd.cw (h:Fd a ss ns) (id:Int):Fd a ss (ns.map (vL id)):=by
 refine ⟨h.sl,by rw [List.length_map];exact h.nl,h.s1,by rw [List.map_map];exact h.n1,h.s2,fun nd aV=>?_⟩;obtain ⟨y,hy,rfl⟩:=List.mem_map.1 aV;have hn:=h.n2 y hy;exact ⟨hn.1,hn.2.1,hn.2.2.1,hn.2.2.2.1,Nat.le_trans (nW _ _) hn.2.2.2.2.1,hn.2.2.2.2.2.1,ue hn.2.2.2.2.2.2⟩
theorem Fd.cA (id:Int):∀ (f k:Nat) {D:SD},Fd a D.ss D.ns->Fd a (cA id f k D).ss (cA id f k D).ns
 | 0,k,D,h=>by unfold Proofs.YtcfcafeciggjeaaGreatDoor.cA;exact h
 | f+1,k,D,h=>by have hd:=Fd.drop h k id;unfold Proofs.YtcfcafeciggjeaaGreatDoor.cA;split;{exact h};{split;{exact Fd.cA id f k (Fd.rm (Fd.tell hd k 2) k)};{exact Fd.cA id f (k+1) hd}}
theorem Fd.close (h:Fd a D.ss D.ns) (id:Int):Fd a (gv D id).ss (gv D id).ns:=by
 have h1:=Fd.cA id D.ns.length 0 (D:={ D with ns:=D.ns.map (vL id) }) (h.cw id);exact ⟨Nat.le_trans (List.length_filter_le _ _) h1.sl,h1.nl,h1.s1.filter _,h1.n1,fun s hs=>h1.s2 s (List.mem_filter.1 hs).1,h1.n2⟩
theorem Vo (l m:List Int):Ti l m=decide (¬ ko m<ko l/\ko m≠ko l):=by
 unfold Ti;rw [T.j9,dR,dR];show (!decide (ko m<ko l)&&!(ko m==ko l))=_;by_cases h1:ko m<ko l<;>by_cases h2:ko m=ko l<;>simp [h1,h2]
theorem rZ {x:aD}:∀ {l:List aD},x∈jq nd l↔x=nd\/x∈l
 | []=>by simp [jq]
 | y::r=>by rw [jq];split;{simp};{rw [List.mem_cons,rZ,List.mem_cons];constructor;{rintro (h | h | h);{exact .inr (.inl h)};{exact .inl h};{exact .inr (.inr h)}};{rintro (h | h | h);{exact .inr (.inl h)};{exact .inl h};{exact .inr (.inr h)}}}
theorem ak8 {x y:List UInt8} (h1:¬ y<x) (h2:y≠x):x<y:=by
 rcases Decidable.em (x<y) with h | h;{exact h};{exact absurd (List.le_antisymm h1 h) (fun e=>h2 e.symm)}
theorem Fw :∀ {l:List aD},(l.map fun nd=>ko nd.path).Pairwise (·<·)->(∀ x∈l,ko x.path≠ko nd.path)->((jq nd l).map fun nd=>ko nd.path).Pairwise (·<·)
 | [],_,_=>by simp [jq]
 | y::r,h,bL=>by
  rw [List.map_cons,List.pairwise_cons] at h;obtain ⟨h1,h2⟩:=h;have hy:=bL y (by simp);rw [jq,Vo];split;{
 rename_i hl
 simp only [decide_eq_true_eq] at hl;have bj:ko nd.path<ko y.path:=ak8 hl.1 hl.2;rw [List.map_cons,List.map_cons,List.pairwise_cons,List.pairwise_cons];refine ⟨fun z hz=>?_,h1,h2⟩;rcases List.mem_cons.1 hz with rfl | hz;{exact bj};{exact List.lt_trans bj (h1 z hz)}};{
 rename_i hl
 simp only [decide_eq_true_eq] at hl;have bj:ko y.path<ko nd.path:=Decidable.byContradiction fun hh=>hl ⟨hh,hy⟩;rw [List.map_cons,List.pairwise_cons];refine ⟨fun z hz=>?_,Fw h2 (fun x hx=>bL x (by simp [hx]))⟩;obtain ⟨x,hx,rfl⟩:=List.mem_map.1 hz;rcases rZ.1 hx with rfl | hx;{exact bj};{exact h1 _ (List.mem_map.2 ⟨x,hx,rfl⟩)}}
def RS (R:RP):Prop:=R.vK.length<=40/\(R.pY.length<=201/\∀ y∈R.pY,y.length<=136)/\R.qm.length<=8/\∀ e∈R.qm,e.2.length<=136
theorem RS.num (k i e g n:Int):RS ⟨k,i,e,g,n,[],[],[]⟩:=⟨Nat.zero_le _,⟨Nat.zero_le _,fun y hy=>by cases hy⟩,Nat.zero_le _,fun y hy=>by cases hy⟩
def AF (A:SD × RP):Prop:=Fd 51 A.1.ss A.1.ns/\RS A.2
theorem AF.same (h:Fd 50 D.ss D.ns) (k i e g n:Int):AF (D,⟨k,i,e,g,n,[],[],[]⟩):=⟨h.mono (by omega),RS.num _ _ _ _ _⟩
theorem HJ {m:List Int} (hl:bM l) (hm:bM m) (h:ko l=ko m):l=m:=jD hl hm (by unfold bN;exact congrArg Lit.string h)
theorem AF.create (h:Fd 50 D.ss D.ns) {S F:Int} (hv:vp P=true) (hB:bM P) (hV:V.length<=40):AF (fG D P V S F):=by
 unfold fG;split;{exact AF.same h _ _ _ _ _};{
 split;{exact AF.same h _ _ _ _ _};{
 split;{exact AF.same h _ _ _ _ _};{
 rename_i h1 _ _
 have jS:fE D.ns P=none:=by simpa using h1
 refine ⟨⟨by have:=h.sl;show D.ss.length<=_;omega,by have:=h.nl;show (jq _ _).length<=_;rw [xi];omega,h.s1,Fw h.n1 (fun x hx e=>?_),h.s2,fun x hx=>?_⟩,RS.num _ _ _ _ _⟩;{have:=List.find?_eq_none.1 jS x hx;exact this (by simpa using HJ (h.n2 x hx).1 hB e)};{rcases rZ.1 hx with rfl | hx;{exact ⟨hB,nZ hv,hV,Nat.zero_le _,Nat.zero_le _,List.Pairwise.nil,List.Pairwise.nil⟩};{exact (h.n2 x hx).mono (by omega)}}}}}
theorem AF.lock (h:Fd 50 D.ss D.ns) (k:Nat) (s fl:Int):AF (iC D k s fl):=by
 unfold iC;cases hk:D.ns[k]? with
 | none=>exact AF.same h _ _ _ _ _
 | some nd=>
  have hn:=h.n2 nd (aF hk);have I0:=hn.mono (a':=51) (by omega);have h':=h.mono (a':=51) (by omega);simp only;split;{exact AF.same h _ _ _ _ _};{split;{split;{exact AF.same h _ _ _ _ _};{exact ⟨h'.qy hk rfl ⟨hn.1,hn.2.1,hn.2.2.1,by have:=EF nd.holders s;have:=hn.2.2.2.1;show (ig _ _).length<=_;omega,I0.2.2.2.2.1,yQ hn.2.2.2.2.2.1,hn.2.2.2.2.2.2⟩,RS.num _ _ _ _ _⟩}};{split;{exact AF.same h _ _ _ _ _};{split;{exact AF.same h _ _ _ _ _};{exact ⟨h'.qy hk rfl ⟨hn.1,hn.2.1,hn.2.2.1,by show [s].length<=_;simp,I0.2.2.2.2.1,by show [s].Pairwise _;simp,hn.2.2.2.2.2.2⟩,RS.num _ _ _ _ _⟩}}}}
theorem AF.node (h:Fd 50 D.ss D.ns) (k:Nat) {K S F:Int} (hV:K=7->V.length<=40):AF (gI D k K S F V):=by
 unfold gI;cases hk:D.ns[k]? with
 | none=>exact AF.same h _ _ _ _ _
 | some nd=>
  have hn:=h.n2 nd (aF hk);have I0:=hn.mono (a':=51) (by omega);have h':=h.mono (a':=51) (by omega);simp only;split;{split;{exact AF.same h _ _ _ _ _};{split;{exact AF.same h _ _ _ _ _};{exact ⟨Fd.rm (Fd.tell h' k 2) k,RS.num _ _ _ _ _⟩}}};{
 split;{exact ⟨h',hn.2.2.1,⟨Nat.zero_le _,fun y hy=>by cases hy⟩,Nat.zero_le _,fun y hy=>by cases hy⟩};{
 split;{
 split;{exact AF.same h _ _ _ _ _};{
 rename_i h7 _
 exact ⟨Fd.tell (D:={ D with ns:=_ }) (h'.qy (nd':={ nd with value:=V }) hk rfl ⟨I0.1,I0.2.1,hV h7,I0.2.2.2⟩) k 1,RS.num _ _ _ _ _⟩}};{split;{exact AF.lock h k S F};{split;{split;{exact ⟨Fd.drop h' k S,RS.num _ _ _ _ _⟩};{exact AF.same h _ _ _ _ _}};{exact ⟨h'.qy hk rfl ⟨I0.1,I0.2.1,I0.2.2.1,I0.2.2.2.1,by have:=EF nd.watchers S;have:=hn.2.2.2.2.1;show (ig _ _).length<=_;omega,I0.2.2.2.2.2.1,yQ hn.2.2.2.2.2.2⟩,RS.num _ _ _ _ _⟩}}}}}
theorem AF.rest (h:Fd 50 D.ss D.ns) {K S F E G:Int} (hB:bM P) (hV:K=4\/K=7->V.length<=40):AF (iA D K S F E G P V):=by
 unfold iA;split;{exact AF.same h _ _ _ _ _};{
 rename_i hp
 split;{
 rename_i h4
 have hr:jA K P=false:=rG (by omega);rw [hr] at hp;exact AF.create h (by simpa using hp) hB (hV (.inl h4))};{split;{exact AF.same h _ _ _ _ _};{split;{exact AF.same h _ _ _ _ _};{split;{refine ⟨h.mono (by omega),Nat.zero_le _,⟨?_,fun y hy=>?_⟩,Nat.zero_le _,fun y hy=>by cases hy⟩;{have:=Dp D.ns P;have:=h.nl;show (gJ _ _).length<=_;omega};{obtain ⟨nd,aV,rfl⟩:=List.mem_map.1 hy;have:=(h.n2 nd (List.mem_filter.1 aV).1).2.1;rw [lG,List.length_drop];omega}};{exact AF.node h _ (fun e=>hV (.inr e))}}}}}
theorem AF.apply (h:Fd 50 D.ss D.ns) (hx:0<=D.x/\D.x<=4611686018427387904) (QV:∀ s∈D.ss,s.1<=D.x) {K S F E G:Int} (hB:bM P):AF (aM D K S F E G P V):=by
 have h':=h.mono (a':=51) (by omega);unfold aM;split;{exact AF.same h _ _ _ _ _};{
 rename_i hf
 split;{unfold ik;split;{exact AF.same h _ _ _ _ _};{split;{exact AF.same h _ _ _ _ _};{refine ⟨⟨by have:=h.sl;show (D.ss++[_]).length<=_;rw [List.length_append];simp;omega,h'.nl,?_,h.n1,fun s hs=>?_,h'.n2⟩,RS.num _ _ _ _ _⟩;{show List.Pairwise _ (D.ss++[_]);rw [List.pairwise_append];refine ⟨h.s1,by simp,fun a ha c hc=>?_⟩;simp at hc;have:=QV a ha;rw [hc];show a.1<D.x+1;omega};{rcases List.mem_append.1 hs with hs | hs;{exact h.s2 s hs};{simp at hs;rw [hs];exact ⟨by show 0<=D.x+1/\D.x+1<_;omega,Nat.zero_le _,fun e he=>by cases he⟩}}}}};{
 split;{exact AF.same h _ _ _ _ _};{
 have nG:∀ (k:Nat) (s:aY) (d:Int) (q:List Ev),D.ss[k]?=some s->q.length<=8->(∀ e∈q,e.2.length<=136)->Fd 51 (D.ss.set k (s.1,d,q)) D.ns:=fun k s d q hk q1 q2=>by
  refine ⟨by rw [List.length_set];exact h'.sl,h'.nl,?_,h.n1,fun x hx=>?_,h'.n2⟩;{
 have e:(D.ss.set k (s.1,d,q)).map (·.1)=D.ss.map (·.1):=by rw [List.map_set];exact gi (by rw [List.getElem?_map,hk];rfl)
 have:=h.s1;rw [<-List.pairwise_map (f:=fun s:aY=>s.1) (R:=(·<·))] at this ⊢;rw [e];exact this};{rcases List.mem_or_eq_of_mem_set hx with hx | rfl;{exact h.s2 x hx};{exact ⟨(h.s2 s (aF hk)).1,q1,q2⟩}}
 split;{
 unfold jE;cases hk:D.ss[(lT D.ss S).toNat]? with
 | none=>exact AF.same h _ _ _ _ _
 | some s=>
  have q:=h.s2 s (aF hk);simp only;split;{exact ⟨nG _ s _ _ hk q.2.1 q.2.2,RS.num _ _ _ _ _⟩};{exact AF.same h _ _ _ _ _}};{
 split;{exact ⟨Fd.close h' S,RS.num _ _ _ _ _⟩};{
 split;{
 unfold pX;cases hk:D.ss[(lT D.ss S).toNat]? with
 | none=>exact AF.same h _ _ _ _ _
 | some s=>
  have q:=h.s2 s (aF hk);exact ⟨nG _ s _ _ hk (Nat.zero_le _) (fun e he=>by cases he),Nat.zero_le _,⟨Nat.zero_le _,fun y hy=>by cases hy⟩,q.2.1,q.2.2⟩};{refine AF.rest h hB (fun hK=>?_);rcases hK with rfl | rfl<;>· simp [Af,vH,Jf,rowOf] at hf;omega}}}}}}
def EvG (ev:Ev):Prop:=1<=ev.1/\ev.1<=3/\vp ev.2=true/\bM ev.2
theorem Ff {q:List Ev} {ev:Ev} (h:fy q=true) (he:EvG ev):fy (dM q ev)=true:=by
 unfold fy at h ⊢;simp only [Bool.and_eq_true,decide_eq_true_eq,List.all_eq_true,List.mem_range] at h ⊢;obtain ⟨h1,h2⟩:=h;have key:∀ (x:Ev),q.length<8->iy q.length x=true->(q++[x]).length<=8/\∀ i,i<(q++[x]).length->iy i ((q++[x]).getD i (0,[]))=true:=fun x hl hx=>by
  refine ⟨by simp;omega,fun i hi=>?_⟩;simp at hi;by_cases e:i<q.length;{rw [List.getD_eq_getElem?_getD,List.getElem?_append_left e,<-List.getD_eq_getElem?_getD];exact h2 i e};{
 have e':i=q.length:=by omega
 subst e';rw [List.getD_eq_getElem?_getD,List.getElem?_append_right aA,Nat.sub_self];exact hx}
 unfold dM;split;{refine key _ (by omega) ?_;unfold iy;rw [if_neg (by omega)];simp [he.1,he.2.1,he.2.2.1]};{
 split;{
 rename_i e7
 refine key _ (by omega) ?_;unfold iy;rw [if_pos e7]
 rfl}
 {exact ⟨h1,h2⟩}}
def SV (x:Int) (s:aY):Prop:=(1<=s.1/\s.1<=x)/\(0<=s.2.1/\s.2.1<=1000015)/\fy s.2.2=true/\∀ e∈s.2.2,bM e.2
theorem SV.push (h:SV x s) {ev:Ev} (he:EvG ev):SV x (s.1,s.2.1,dM s.2.2 ev):=by
 refine ⟨h.1,h.2.1,Ff h.2.2.1 he,fun y hy=>?_⟩;simp only [dM] at hy;split at hy;{rcases List.mem_append.1 hy with h1 | h1;{exact h.2.2.2 y h1};{simp at h1;rw [h1];exact he.2.2.2}};{split at hy;{rcases List.mem_append.1 hy with h1 | h1;{exact h.2.2.2 y h1};{simp at h1;rw [h1];intro z hz;simp at hz}};{exact h.2.2.2 y hy}}
def iD (ss:List aY):List Int:=ss.map (·.1)
def vy (ns:List aD):List (List Int × Int):=ns.map fun nd=>(nd.path,nd.owner)
def CP (C:List (List Int × Int)) (l:List Int):Prop:=l=[47]\/(l,0)∈C
structure NV (e g:Int) (I:List Int) (C:List (List Int × Int)) (nd:aD):Prop where
 vp:vp nd.path=true
 pb:bM nd.path
 cp:CP C (dm nd.path)
 va:nd.value.length<=40
 vb:bM nd.value
 ow:nd.owner=0\/nd.owner∈I
 h1:nd.holders.Pairwise (·<·)
 h2:∀ i∈nd.holders,i∈I
 w1:nd.watchers.Pairwise (·<·)
 w2:∀ i∈nd.watchers,i∈I
 lk:dN e g nd.mode nd.holders.length nd.aB nd.gen=true
structure VD (D:SD):Prop where
 e:D.e<=4611686018427387904
 g:0<=D.g/\D.g<=4611686018427387904
 x:0<=D.x/\D.x<=4611686018427387904
 t:0<=D.t/\D.t<=1000000
 sl:D.ss.length<=50
 nl:D.ns.length<=200
 s1:(iD D.ss).Pairwise (·<·)
 s2:∀ s∈D.ss,SV D.x s
 n1:(D.ns.map fun nd=>ko nd.path).Pairwise (·<·)
 n2:∀ nd∈D.ns,NV D.e D.g (iD D.ss) (vy D.ns) nd
theorem GZ (hk:ns[k]?=some nd) (hp:nd'.path=nd.path) (ho:nd'.owner=nd.owner):vy (ns.set k nd')=vy ns:=by
 unfold vy;rw [List.map_set];exact gi (by rw [List.getElem?_map,hk];simp [hp,ho])
theorem VD.qy (h:VD D) (hk:D.ns[k]?=some nd) (hp:nd'.path=nd.path) (ho:nd'.owner=nd.owner) (hn:NV D.e D.g (iD D.ss) (vy D.ns) nd'):VD { D with ns:=D.ns.set k nd' }:=by
 refine ⟨h.e,h.g,h.x,h.t,h.sl,by show (List.set _ _ _).length<=_;rw [List.length_set];exact h.nl,h.s1,h.s2,?_,fun y hy=>?_⟩;{
 have e:(D.ns.set k nd').map (fun nd=>ko nd.path)=D.ns.map fun nd=>ko nd.path:=by have:=congrArg (List.map ko) (kk hk hp);rw [List.map_map,List.map_map] at this;exact this
 show List.Pairwise _ (List.map _ (D.ns.set k nd'));rw [e];exact h.n1};{show NV _ _ _ (vy (D.ns.set k nd')) y;rw [GZ hk hp ho];rcases List.mem_or_eq_of_mem_set hy with hy | rfl;{exact h.n2 y hy};{exact hn}}
theorem VD.KL (h:VD D) {ss':List aY} (hi:iD ss'=iD D.ss) (hs:∀ s∈ss',SV D.x s):VD { D with ss:=ss' }:=by
 have hl:ss'.length=D.ss.length:=by have:=congrArg List.length hi;simpa [iD] using this
 refine ⟨h.e,h.g,h.x,h.t,by show ss'.length<=_;rw [hl];exact h.sl,h.nl,by show List.Pairwise _ (iD ss');rw [hi];exact h.s1,hs,h.n1,fun y hy=>?_⟩;show NV _ _ (iD ss') _ y;rw [hi];exact h.n2 y hy
theorem Cs {ev:Ev} (he:EvG ev):∀ (ids:List Int) {ss:List aY},(∀ s∈ss,SV x s)->∀ s∈fN ss ids ev,SV x s
 | [],ss,h=>h
 | y::r,ss,h=>Cs he r (ss:=jG ss y ev) fun s hs=>by obtain ⟨s0,h0,rfl⟩:=List.mem_map.1 hs;split;{exact (h s0 h0).push he};{exact h s0 h0}
theorem VD.GK (h:VD D) {ev:Ev} (he:EvG ev) (ids:List Int):VD { D with ss:=fN D.ss ids ev }:=h.KL (kh ids ev D.ss) (Cs he ids h.s2)
theorem VD.tell (h:VD D) (k:Nat) {kd:Int} (h1:1<=kd) (h3:kd<=3):VD (cO D k kd):=by
 unfold cO;cases hk:D.ns[k]? with
 | none=>exact h
 | some nd=>
  have hn:=h.n2 nd (aF hk);exact VD.GK (D:={ D with ns:=D.ns.set k { nd with watchers:=[] } }) (h.qy hk rfl rfl ⟨hn.vp,hn.pb,hn.cp,hn.va,hn.vb,hn.ow,hn.h1,hn.h2,List.Pairwise.nil,fun i hi=>by simp at hi,hn.lk⟩) ⟨h1,h3,hn.vp,hn.pb⟩ _
theorem tg (hk:D.ns[k]?=some nd) (kd:Int):∃ yS,cO D k kd={ D with ss:=yS,ns:=D.ns.set k { nd with watchers:=[] } }/\iD yS=iD D.ss:=by
 unfold cO;rw [hk];exact ⟨_,rfl,kh _ _ _⟩
theorem ID (ns:List aD) (k:Nat):vy (ns.eraseIdx k)=(vy ns).eraseIdx k:=by
 unfold vy
 induction ns generalizing k with
 | nil=>rfl
 | cons a r ih=>cases k with
  | zero=>rfl
  | succ k=>simp [ih]
theorem VD.rm (h:VD D) (hk:D.ns[k]?=some nd) (hc:nd.owner≠0\/∀ z∈vy D.ns,dm z.1≠nd.path):VD (AH D k):=by
 refine ⟨h.e,h.g,h.x,h.t,h.sl,Nat.le_trans (List.Sublist.length_le (List.eraseIdx_sublist _ _)) h.nl,h.s1,h.s2,h.n1.sublist ((List.eraseIdx_sublist _ _).map _),fun y hy=>?_⟩;have hy':=List.mem_of_mem_eraseIdx hy;have hn:=h.n2 y hy';refine ⟨hn.vp,hn.pb,?_,hn.va,hn.vb,hn.ow,hn.h1,hn.h2,hn.w1,hn.w2,hn.lk⟩;rcases hn.cp with e | e;{exact .inl e};{
 refine .inr ?_;show _∈vy (D.ns.eraseIdx k);rw [ID,List.mem_eraseIdx_iff_getElem?];obtain ⟨j,hj⟩:=List.mem_iff_getElem?.1 e;refine ⟨j,fun ej=>?_,hj⟩;subst ej;have:(vy D.ns)[j]?=some (nd.path,nd.owner):=by unfold vy;rw [List.getElem?_map,hk];rfl
 rw [this] at hj;simp only [Option.some.injEq,Prod.mk.injEq] at hj;rcases hc with hc | hc;{exact hc hj.2};{exact hc (y.path,y.owner) (List.mem_map.2 ⟨y,hy',rfl⟩) hj.1.symm}}
theorem VD.drop (h:VD D) (k:Nat) (id:Int):VD (cT D k id):=by
 unfold cT;cases hk:D.ns[k]? with
 | none=>exact h
 | some nd=>
  have hn:=h.n2 nd (aF hk);simp only;split;{
 rename_i hc
 split;{exact VD.tell (D:={ D with ns:=D.ns.set k { nd with holders:=[],mode:=0,aB:=0,gen:=0 } }) (h.qy hk rfl rfl ⟨hn.vp,hn.pb,hn.cp,hn.va,hn.vb,hn.ow,List.Pairwise.nil,fun i hi=>by simp at hi,hn.w1,hn.w2,rfl⟩) k (by decide) (by decide)};{
 rename_i hw
 refine h.qy hk rfl rfl ⟨hn.vp,hn.pb,hn.cp,hn.va,hn.vb,hn.ow,ue hn.h1,fun i hi=>hn.h2 i (ly.1 hi).1,hn.w1,hn.w2,?_⟩;show dN D.e D.g nd.mode (lQ nd.holders id).length nd.aB nd.gen=true;have hid:id∈nd.holders:=by simpa using hc
 have aJ5:1<=(lQ nd.holders id).length:=by
  cases hq:lQ nd.holders id with
  | nil=>exact absurd hq hw
  | cons a r=>simp
 have m1:nd.mode≠1:=fun hm=>by have h1:=kF hn.lk hm;obtain ⟨a,ha⟩:=List.length_eq_one_iff.1 h1;rw [ha] at hid hw;simp at hid;subst hid;exact hw (by simp [lQ])
 have hl:=hn.lk;unfold dN at hl ⊢;rw [if_neg m1] at hl ⊢;by_cases m0:nd.mode=0;{have:=(oB hn.lk m1).2.2 m0;have:nd.holders=[]:=List.length_eq_zero_iff.1 this;rw [this] at hid;simp at hid};{rw [if_neg m0] at hl ⊢;simp only [Bool.and_eq_true,decide_eq_true_eq] at hl ⊢;exact ⟨hl.1,hl.2.1,hl.2.2.1,aJ5⟩}}};{exact h}
theorem Jo (hk:D.ns[k]?=some nd) (id:Int):∃ yS iR,cT D k id={ D with ss:=yS,ns:=D.ns.set k iR }/\iD yS=iD D.ss/\iR.path=nd.path/\iR.owner=nd.owner/\id∉iR.holders/\(iR.watchers=nd.watchers\/iR.watchers=[]):=by
 unfold cT;rw [hk];simp only;split;{split;{have Ms:(D.ns.set k { nd with holders:=[],mode:=0,aB:=0,gen:=0 })[k]?=some { nd with holders:=[],mode:=0,aB:=0,gen:=0 }:=aP hk _;obtain ⟨yS,e,hi⟩:=tg (D:={ D with ns:=D.ns.set k { nd with holders:=[],mode:=0,aB:=0,gen:=0 } }) Ms 3;refine ⟨yS,{ nd with holders:=[],mode:=0,aB:=0,gen:=0,watchers:=[] },by rw [e];simp only [List.set_set],hi,rfl,rfl,by simp,.inr rfl⟩};{exact ⟨D.ss,_,rfl,rfl,rfl,rfl,fun hm=>(ly.1 hm).2 rfl,.inl rfl⟩}};{
 rename_i hc
 exact ⟨D.ss,nd,by rw [gi hk],rfl,rfl,rfl,by simpa using hc,.inl rfl⟩}
def XS (id:Int) (nd:aD):Prop:=nd.owner≠id/\id∉nd.holders
def AM (id:Int) (ns:List aD):Nat:=ns.countP fun nd=>decide (nd.owner=id)
theorem VD.cA (h0:id≠0):∀ (f k:Nat) {D:SD},VD D->(∀ nd∈D.ns,id∉nd.watchers)->(∀ (j:Nat) (nd:aD),j<k->D.ns[j]?=some nd->XS id nd)->D.ns.length<=k+f →
  VD (Proofs.YtcfcafeciggjeaaGreatDoor.cA id f k D)/\iD (Proofs.YtcfcafeciggjeaaGreatDoor.cA id f k D).ss=iD D.ss/\(∀ nd∈(Proofs.YtcfcafeciggjeaaGreatDoor.cA id f k D).ns,XS id nd/\id∉nd.watchers)/\(Proofs.YtcfcafeciggjeaaGreatDoor.cA id f k D).ns.length+AM id (D.ns.drop k)=D.ns.length
 | 0,k,D,h,hw,hg,hl=>by
  unfold Proofs.YtcfcafeciggjeaaGreatDoor.cA;refine ⟨h,rfl,fun nd aV=>⟨?_,hw nd aV⟩,?_⟩;{obtain ⟨j,hj⟩:=List.mem_iff_getElem?.1 aV;have:=(aN.1 hj).1;exact hg j nd (by omega) hj};{
 rw [List.drop_eq_nil_of_le (by omega)]
 rfl}
 | f+1,k,D,h,hw,hg,hl=>by
  unfold Proofs.YtcfcafeciggjeaaGreatDoor.cA;cases hk:D.ns[k]? with
  | none=>
   have hle:D.ns.length<=k:=by simpa using hk
   have e:cT D k id=D:=by unfold cT;rw [hk]
   rw [e,hk];dsimp only;refine ⟨h,rfl,fun nd aV=>⟨?_,hw nd aV⟩,?_⟩;{obtain ⟨j,hj⟩:=List.mem_iff_getElem?.1 aV;have:=(aN.1 hj).1;exact hg j nd (by omega) hj};{
 rw [List.drop_eq_nil_of_le hle]
 rfl}
  | some nd=>
   have bj:=(aN.1 hk).1;have hv:=h.drop k id;obtain ⟨yS,iR,e,hi,e1,e2,e3,e4⟩:=Jo hk id;rw [e] at hv ⊢;have nw:(D.ns.set k iR)[k]?=some iR:=aP hk _;have hdr:D.ns.drop k=nd::D.ns.drop (k+1):=(List.im hk).symm;have hw1:∀ y∈D.ns.set k iR,id∉y.watchers:=fun y hy=>by
    rcases List.mem_or_eq_of_mem_set hy with hy | rfl;{exact hw y hy};{
 rcases e4 with e4 | e4<;>rw [e4]
 {exact hw nd (aF hk)};{simp}}
   simp only [nw];by_cases ho:iR.owner=id;{
 rw [if_pos ho];obtain ⟨ss2,eT,hi2⟩:=tg (D:={ D with ss:=yS,ns:=D.ns.set k iR }) nw 2;have hvT:=VD.tell (D:={ D with ss:=yS,ns:=D.ns.set k iR }) hv k (kd:=2) (by decide) (by decide);rw [eT] at hvT ⊢;simp only [List.set_set] at hvT ⊢;have yC:(D.ns.set k { iR with watchers:=[] })[k]?=some { iR with watchers:=[] }:=aP hk _;have hvR:=VD.rm hvT (nd:={ iR with watchers:=[] }) yC (.inl (by show iR.owner≠0;rw [ho];exact h0));have Tn:(AH { D with ss:=ss2,ns:=D.ns.set k { iR with watchers:=[] } } k).ns=D.ns.eraseIdx k:=by show (D.ns.set k _).eraseIdx k=_;exact List.eraseIdx_set_eq
 have hlen:(D.ns.eraseIdx k).length=D.ns.length-1:=List.length_eraseIdx_of_lt bj;obtain ⟨q1,q2,q3,q4⟩:=VD.cA h0 f k hvR (fun y hy=>by
  rw [Tn] at hy;exact hw y (List.mem_of_mem_eraseIdx hy)) (fun j y hj hy=>by
  rw [Tn,List.getElem?_eraseIdx_of_lt hj] at hy;exact hg j y hj hy) (by rw [Tn,hlen];omega)
 refine ⟨q1,q2.trans (hi2.trans hi),q3,?_⟩;rw [Tn,hlen,xG _ _ bj] at q4;rw [hdr,AM,List.countP_cons_of_pos (by simp [<-e2,ho]),<-AM];omega};{
 rw [if_neg ho];obtain ⟨q1,q2,q3,q4⟩:=VD.cA h0 f (k+1) hv hw1 (fun j y hj hy=>by
  change (D.ns.set k iR)[j]?=some y at hy
  rw [List.getElem?_set] at hy;by_cases ej:k=j;{subst ej;rw [if_pos rfl,if_pos bj] at hy;cases hy;exact ⟨ho,e3⟩};{rw [if_neg ej] at hy;exact hg j y (by omega) hy}) (by show (List.set _ _ _).length<=_;rw [List.length_set];omega)
 refine ⟨q1,q2.trans hi,q3,?_⟩;have e5:(D.ns.set k iR).drop (k+1)=D.ns.drop (k+1):=by rw [List.drop_set_of_lt (by omega)]
 simp only [e5,List.length_set] at q4;rw [hdr,AM,List.countP_cons_of_neg (by simp [<-e2,ho]),<-AM];exact q4}
theorem AR (id:Int) (ss:List aY):iD (IJ id ss)=(iD ss).filter fun i=>!(i==id):=by
 unfold iD IJ;rw [List.filter_map]
 rfl
theorem VD.close (h:VD D) (h0:id≠0):VD (gv D id)/\iD (gv D id).ss=(iD D.ss).filter (fun i=>!(i==id))/\(∀ nd∈(gv D id).ns,XS id nd/\id∉nd.watchers)/\(gv D id).ns.length+AM id D.ns=D.ns.length:=by
 have Wj:VD { D with ns:=D.ns.map (vL id) }:=by
  have ep:vy (D.ns.map (vL id))=vy D.ns:=by unfold vy;rw [List.map_map];rfl
  refine ⟨h.e,h.g,h.x,h.t,h.sl,by show (List.map _ _).length<=_;rw [List.length_map];exact h.nl,h.s1,h.s2,by show List.Pairwise _ (List.map _ (D.ns.map (vL id)));rw [List.map_map];exact h.n1,fun y hy=>?_⟩;obtain ⟨z,hz,rfl⟩:=List.mem_map.1 hy;have hn:=h.n2 z hz;show NV _ _ _ (vy (D.ns.map (vL id))) _;rw [ep];exact ⟨hn.vp,hn.pb,hn.cp,hn.va,hn.vb,hn.ow,hn.h1,hn.h2,ue hn.w1,fun i hi=>hn.w2 i (ly.1 hi).1,hn.lk⟩
 obtain ⟨q1,q2,q3,q4⟩:=VD.cA h0 D.ns.length 0 Wj (fun y hy=>by obtain ⟨z,hz,rfl⟩:=List.mem_map.1 hy;exact fun hm=>(ly.1 hm).2 rfl) (fun j y hj=>by omega) (by show (List.map _ _).length<=_;rw [List.length_map];omega)
 refine ⟨?_,(AR _ _).trans (by rw [q2]),q3,?_⟩;{
 refine ⟨q1.e,q1.g,q1.x,q1.t,Nat.le_trans (List.length_filter_le _ _) q1.sl,q1.nl,?_,fun s hs=>q1.s2 s (List.mem_filter.1 hs).1,q1.n1,fun y hy=>?_⟩;{show List.Pairwise _ (iD (IJ id _));rw [AR];exact q1.s1.filter _};{
 have hn:=q1.n2 y hy;obtain ⟨⟨g1,g2⟩,g3⟩:=q3 y hy;have key:∀ i,i∈iD (Proofs.YtcfcafeciggjeaaGreatDoor.cA id D.ns.length 0 { D with ns:=D.ns.map (vL id) }).ss->i≠id->i∈iD (IJ id (Proofs.YtcfcafeciggjeaaGreatDoor.cA id D.ns.length 0 { D with ns:=D.ns.map (vL id) }).ss):=fun i hi bL=>by rw [AR];exact List.mem_filter.2 ⟨hi,by simp [bL]⟩
 exact ⟨hn.vp,hn.pb,hn.cp,hn.va,hn.vb,hn.ow.imp (fun h=>h) (fun ho=>key _ ho g1),hn.h1,fun i hi=>key i (hn.h2 i hi) (fun e=>g2 (e▸hi)),hn.w1,fun i hi=>key i (hn.w2 i hi) (fun e=>g3 (e▸hi)),hn.lk⟩}};{
 have e:AM id (List.drop 0 (D.ns.map (vL id)))=AM id D.ns:=by
  rw [List.drop_zero,AM,List.countP_map]
  rfl
 have q5:=q4;simp only [List.length_map] at q5;rw [e] at q5;exact q5}
theorem PD.pw (h:(ns.map fun nd=>ko nd.path).Pairwise (·<·)):PD ns:=fun i j a b ha hb e=>by
 have key:∀ (i j:Nat) (a b:aD),ns[i]?=some a->ns[j]?=some b->a.path=b.path->¬ i<j:=fun i j a b ha hb e jc=>by obtain ⟨h1,rfl⟩:=aN.1 ha;obtain ⟨h2,rfl⟩:=aN.1 hb;have:=List.pairwise_iff_getElem.1 h i j (by simpa using h1) (by simpa using h2) jc;simp only [List.getElem_map,e] at this;exact List.lt_irrefl _ this
 have h1:=key i j a b ha hb e;have h2:=key j i b a hb ha e.symm;omega
theorem tW (hd:PD ns) (l:List Int):dw ns l=true↔CP (vy ns) l:=by
 unfold dw CP;by_cases h:l=[47];{simp [h]};{
 rw [if_neg h];constructor;{
 intro hc;cases hn:fE ns l with
 | none=>rw [hn] at hc;cases hc
 | some nd=>
  rw [hn] at hc;have hp:nd.path=l:=by simpa using List.find?_some hn
  exact .inr (List.mem_map.2 ⟨nd,List.mem_of_find?_eq_some hn,by rw [hp,show nd.owner=0 by simpa using hc]⟩)};{
 rintro (e | e);{exact absurd e h};{
 obtain ⟨nd,hm,e2⟩:=List.mem_map.1 e;simp only [Prod.mk.injEq] at e2;cases hn:fE ns l with
 | none=>exact absurd (List.find?_eq_none.1 hn nd hm) (by simp [e2.1])
 | some n2=>
  have hp:n2.path=l:=by simpa using List.find?_some hn
  obtain ⟨i,hi⟩:=List.mem_iff_getElem?.1 hm;obtain ⟨j,hj⟩:=List.mem_iff_getElem?.1 (List.mem_of_find?_eq_some hn);have:=hd i j nd n2 hi hj (e2.1.trans hp.symm);subst this;rw [hi] at hj;cases hj;simp [e2.2]}}}
theorem Ic (h:l.Pairwise (·<·)) (hi:i<l.length):(i==0||decide (l.getD (i-1) 0<l.getD i 0))=true:=by
 cases i with
 | zero=>rfl
 | succ i=>
  have:=List.pairwise_iff_getElem.1 h i (i+1) (by omega) hi (by omega);simp [List.getD_eq_getElem?_getD,aK hi,aK (show i<l.length by omega),this]
theorem wR {i:Int}:live ss i=true↔i∈iD ss:=by
 unfold live iD;simp only [List.any_eq_true,beq_iff_eq,List.mem_map]
theorem ad6 (h:l.Pairwise (·<·)) (h2:∀ i∈l,i∈iD ss):gq ss l=true:=by
 unfold gq;simp only [List.all_eq_true,List.mem_range];intro i hi;unfold yy;rw [Ic h hi,Bool.and_true,wR];refine h2 _ ?_;rw [List.getD_eq_getElem?_getD,aK hi];exact List.getElem_mem hi
theorem Xk:∀ (a b:List UInt8),Op.bytesLess a b=true↔a<b:=fun a b=>by rw [T.j9];simp
theorem VD.ok (h:VD D):jY D.e D.g D.x D.t D.ss D.ns=true:=by
 unfold jY;simp only [Bool.and_eq_true,decide_eq_true_eq,List.all_eq_true,List.mem_range];refine ⟨⟨h.e,h.g.2,h.x.2,h.t.1,h.t.2,h.sl,h.nl⟩,fun i hi=>?_,fun i hi=>?_⟩;{
 have hs:=h.s2 _ (List.getElem_mem hi);have ha:=Ic h.s1 (i:=i) (by unfold iD;simpa using hi);have e:∀ j,(D.ss.getD j (0,0,[])).1=(iD D.ss).getD j 0:=fun j=>by unfold iD;rw [List.getD_eq_getElem?_getD,List.getD_eq_getElem?_getD,List.getElem?_map];cases D.ss[j]?<;>rfl
 have ed:D.ss.getD i (0,0,[])=D.ss[i]:=by rw [List.getD_eq_getElem?_getD,aK hi];rfl
 rw [<-e,<-e] at ha;unfold jy;rw [ha,ed];simp only [Bool.and_eq_true,decide_eq_true_eq,Bool.true_and];exact ⟨hs.1.1,hs.1.2,hs.2.1.1,hs.2.1.2,hs.2.2.1⟩};{
 have hn:=h.n2 _ (List.getElem_mem hi);unfold iP;simp only [List.getD_eq_getElem?_getD,aK hi,Option.getD_some,Bool.and_eq_true,decide_eq_true_eq,Bool.or_eq_true];refine ⟨⟨hn.vp,?_⟩,(tW (PD.pw h.n1) _).2 hn.cp,hn.va,?_,ad6 hn.h1 hn.h2,ad6 hn.w1 hn.w2,hn.lk⟩;{
 cases i with
 | zero=>exact .inl rfl
 | succ i=>
  refine .inr ?_;have:=List.pairwise_iff_getElem.1 h.n1 i (i+1) (by simp;omega) (by simpa using hi) (by omega);simp only [List.getElem_map] at this;simp only [Nat.add_sub_cancel,aK (show i<D.ns.length by omega),Option.getD_some];rw [j8,Xk,dR,dR];exact this};{rcases hn.ow with e | e;{exact .inl (by simp [e])};{exact .inr (wR.2 e)}}}
theorem VD.of {g t:Int} (h:jY e g x t ss ns=true) (hF:BT ss ns) (g0:0<=g) (x0:0<=x) (hq:∀ s∈ss,∀ ev∈s.2.2,bM ev.2) (hv:∀ nd∈ns,bM nd.value):VD ⟨e,g,x,t,ss,ns⟩:=by
 have h':=h;unfold jY at h';simp only [Bool.and_eq_true,decide_eq_true_eq] at h';obtain ⟨⟨l1,l2,l3,l4,l5,l6,l7⟩,a1,a2⟩:=h';refine ⟨l1,⟨g0,l2⟩,⟨x0,l3⟩,⟨l4,l5⟩,l6,l7,by unfold iD;rw [List.pairwise_map];exact hF.s1,fun s hs=>?_,hF.n1,fun nd aV=>?_⟩;{obtain ⟨i,hi⟩:=List.mem_iff_getElem?.1 hs;have:=List.all_eq_true.1 a1 i (by simpa using (aN.1 hi).1);unfold jy at this;rw [List.getD_eq_getElem?_getD,hi] at this;simp only [Option.getD_some,Bool.and_eq_true,decide_eq_true_eq] at this;exact ⟨⟨this.1,this.2.1⟩,⟨this.2.2.2.1,this.2.2.2.2.1⟩,this.2.2.2.2.2,hq s hs⟩};{obtain ⟨i,hi⟩:=List.mem_iff_getElem?.1 aV;obtain ⟨f1,f2,f3,f4,f5,f6,f7⟩:=hF.n2 nd aV;have Bg:=(aN.1 hi).1;have:=List.all_eq_true.1 a2 i (by simpa using Bg);unfold iP at this;simp only [List.getD_eq_getElem?_getD,hi,Option.getD_some,Bool.and_eq_true,decide_eq_true_eq,Bool.or_eq_true] at this;obtain ⟨⟨q1,-⟩,q2,q3,q4,q5,q6,q7⟩:=this;refine ⟨q1,f1,(tW (PD.pw hF.n1) _).1 q2,q3,hv nd aV,q4.imp (fun e=>by simpa using e) wR.1,f6,fun j hj=>?_,f7,fun j hj=>?_,q7⟩;{obtain ⟨s,hs,e⟩:=mQ q5 j hj;exact List.mem_map.2 ⟨s,hs,e⟩};{obtain ⟨s,hs,e⟩:=mQ q6 j hj;exact List.mem_map.2 ⟨s,hs,e⟩}}
theorem KP {S:Int} (h:¬ lT ss S<0):S∈iD ss:=by
 unfold lT at h;cases hf:ss.findIdx? (fun s=>s.1==S) with
 | none=>rw [hf] at h;simp at h
 | some k=>
  obtain ⟨h1,h2,-⟩:=List.findIdx?_eq_some_iff_getElem.1 hf;exact List.mem_map.2 ⟨_,List.getElem_mem h1,by simpa using h2⟩
theorem NV.gen {g g':Int} {I:List Int} {C:List (List Int × Int)} (h:NV e g I C nd) (hg:g<=g'):NV e g' I C nd:=by
 refine ⟨h.vp,h.pb,h.cp,h.va,h.vb,h.ow,h.h1,h.h2,h.w1,h.w2,?_⟩;have:=h.lk;unfold dN at this ⊢;split;{
 rename_i hm
 rw [if_pos hm] at this;simp only [Bool.and_eq_true,decide_eq_true_eq] at this ⊢;exact ⟨this.1,this.2.1,by omega,this.2.2.2⟩};{
 rename_i hm
 rwa [if_neg hm] at this}
theorem NV.ids {g:Int} {I I':List Int} {C:List (List Int × Int)} (h:NV e g I C nd) (hi:∀ i∈I,i∈I'):NV e g I' C nd:=
 ⟨h.vp,h.pb,h.cp,h.va,h.vb,h.ow.imp (fun h=>h) (hi _),h.h1,fun i hh=>hi i (h.h2 i hh),h.w1,fun i hh=>hi i (h.w2 i hh),h.lk⟩
theorem VD.create (h:VD D) {S F:Int} (hv:vp P=true) (hB:bM P) (hV:V.length<=40) (bV:bM V) (hS:S∈iD D.ss):VD (fG D P V S F).1:=by
 unfold fG;split;{exact h};{
 rename_i h1
 split;{exact h};{
 rename_i h2
 split;{exact h};{
 rename_i h3
 have jS:fE D.ns P=none:=by simpa using h1
 have hc:dw D.ns (dm P)=true:=by simpa using h2
 have Rl:=(tW (PD.pw h.n1) _).1 hc;have hm:∀ z∈vy D.ns,z∈vy (jq (gj P V (if F=1 then S else 0)) D.ns):=fun z hz=>by obtain ⟨y,hy,rfl⟩:=List.mem_map.1 hz;exact List.mem_map.2 ⟨y,rZ.2 (.inr hy),rfl⟩
 have Bn:∀ l,CP (vy D.ns) l->CP (vy (jq (gj P V (if F=1 then S else 0)) D.ns)) l:=fun l hl=>hl.imp (fun h=>h) (hm _);refine ⟨h.e,h.g,h.x,h.t,h.sl,by show (jq _ _).length<=_;rw [xi];omega,h.s1,h.s2,Fw h.n1 (fun y hy e=>?_),fun y hy=>?_⟩;{have:=List.find?_eq_none.1 jS y hy;exact this (by simpa using HJ (h.n2 y hy).pb hB e)};{rcases rZ.1 hy with rfl | hy;{refine ⟨hv,hB,Bn _ Rl,hV,bV,?_,List.Pairwise.nil,fun i hi=>by simp [gj] at hi,List.Pairwise.nil,fun i hi=>by simp [gj] at hi,rfl⟩;show (if F=1 then S else 0)=0\/_;split;{exact .inr hS};{exact .inl rfl}};{have hn:=h.n2 y hy;exact ⟨hn.vp,hn.pb,Bn _ hn.cp,hn.va,hn.vb,hn.ow,hn.h1,hn.h2,hn.w1,hn.w2,hn.lk⟩}}}}}
theorem VD.lock (h:VD D) (k:Nat) {s:Int} (fl:Int) (hS:s∈iD D.ss):VD (iC D k s fl).1:=by
 unfold iC;cases hk:D.ns[k]? with
 | none=>exact h
 | some nd=>
  have hn:=h.n2 nd (aF hk);simp only;split;{exact h};{
 split;{
 split;{exact h};{
 rename_i m1
 refine h.qy hk rfl rfl ⟨hn.vp,hn.pb,hn.cp,hn.va,hn.vb,hn.ow,yQ hn.h1,fun i hi=>?_,hn.w1,hn.w2,?_⟩;{rcases nY.1 hi with rfl | hi;{exact hS};{exact hn.h2 i hi}};{obtain ⟨l1,l2,-⟩:=oB hn.lk m1;show dN D.e D.g 2 (ig nd.holders s).length nd.aB nd.gen=true;have:1<=(ig nd.holders s).length:=List.length_pos_of_mem (nY.2 (.inl rfl));simp [dN,l1,l2,this]}}};{
 split;{exact h};{
 split;{exact h};{
 rename_i hg
 have h':VD { D with g:=D.g+1 }:=⟨h.e,⟨by have:=h.g;show 0<=D.g+1;omega,by show D.g+1<=_;omega⟩,h.x,h.t,h.sl,h.nl,h.s1,h.s2,h.n1,fun y hy=>(h.n2 y hy).gen (by show D.g<=D.g+1;omega)⟩;refine VD.qy h' (nd':={ nd with mode:=1,holders:=[s],aB:=D.e,gen:=D.g+1 }) hk rfl rfl ⟨hn.vp,hn.pb,hn.cp,hn.va,hn.vb,hn.ow,by simp,fun i hi=>?_,hn.w1,hn.w2,?_⟩;{simp at hi;rw [hi];exact hS};{have:=h.g;show dN D.e (D.g+1) 1 1 D.e (D.g+1)=true;simp [dN];omega}}}}}
theorem VD.node (h:VD D) (k:Nat) {K S F:Int} (hV:K=7->V.length<=40) (bV:bM V) (hS:S∈iD D.ss\/K=6):VD (gI D k K S F V).1:=by
 unfold gI;cases hk:D.ns[k]? with
 | none=>exact h
 | some nd=>
  have hn:=h.n2 nd (aF hk);simp only;split;{
 split;{exact h};{
 split;{exact h};{
 rename_i FK _
 have FK:gJ D.ns nd.path=[]:=by simpa using FK
 obtain ⟨yS,eT,-⟩:=tg hk 2;have hT:=h.tell k (kd:=2) (by decide) (by decide);rw [eT] at hT ⊢;refine VD.rm hT (nd:={ nd with watchers:=[] }) (aP hk _) (.inr fun z hz e=>?_);rw [show vy ({ D with ss:=yS,ns:=D.ns.set k { nd with watchers:=[] } }:SD).ns=vy D.ns from GZ hk rfl rfl] at hz;obtain ⟨y,hy,rfl⟩:=List.mem_map.1 hz;unfold gJ at FK;rw [List.map_eq_nil_iff,List.filter_eq_nil_iff] at FK;exact FK y hy (by simpa using e)}}};{
 split;{exact h};{
 rename_i n6
 have hS:=hS.resolve_right n6;split;{
 split;{exact h};{
 rename_i h7 _
 exact VD.tell (D:={ D with ns:=D.ns.set k { nd with value:=V } }) (h.qy hk rfl rfl ⟨hn.vp,hn.pb,hn.cp,hV h7,bV,hn.ow,hn.h1,hn.h2,hn.w1,hn.w2,hn.lk⟩) k (by decide) (by decide)}};{split;{exact h.lock k F hS};{split;{split;{exact h.drop k S};{exact h}};{refine h.qy hk rfl rfl ⟨hn.vp,hn.pb,hn.cp,hn.va,hn.vb,hn.ow,hn.h1,hn.h2,yQ hn.w1,fun i hi=>?_,hn.lk⟩;rcases nY.1 hi with rfl | hi;{exact hS};{exact hn.w2 i hi}}}}}}
theorem VD.Zz (h:VD D) (hk:D.ss[k]?=some s) {d:Int} {q:List Ev} (hs:SV D.x (s.1,d,q)):VD { D with ss:=D.ss.set k (s.1,d,q) }:=by
 refine h.KL ?_ fun y hy=>?_;{unfold iD;rw [List.map_set];exact gi (by rw [List.getElem?_map,hk];rfl)};{rcases List.mem_or_eq_of_mem_set hy with hy | rfl;{exact h.s2 y hy};{exact hs}}
theorem VD.apply (h:VD D) {K S F E G:Int} (hB:bM P) (bV:bM V):VD (aM D K S F E G P V).1:=by
 unfold aM;split;{exact h};{
 rename_i hf
 split;{
 unfold ik;split;{exact h};{
 split;{exact h};{
 rename_i h1 h2
 have hx:=h.x;have ht:=h.t;have ei:iD (D.ss++[(D.x+1,D.t+10,[])])=iD D.ss++[D.x+1]:=by simp [iD]
 refine ⟨h.e,h.g,⟨by show 0<=D.x+1;omega,by show D.x+1<=_;omega⟩,h.t,by show (D.ss++[_]).length<=_;simp;omega,h.nl,?_,fun s hs=>?_,h.n1,fun y hy=>?_⟩;{show List.Pairwise _ (iD (D.ss++[_]));rw [ei,List.pairwise_append];refine ⟨h.s1,by simp,fun a ha c hc=>?_⟩;simp at hc;obtain ⟨s,hs,rfl⟩:=List.mem_map.1 ha;have:=(h.s2 s hs).1.2;omega};{rcases List.mem_append.1 hs with hs | hs;{have q:=h.s2 s hs;exact ⟨⟨q.1.1,by have:=q.1.2;show s.1<=D.x+1;omega⟩,q.2⟩};{simp at hs;rw [hs];exact ⟨⟨by show 1<=D.x+1;omega,by show D.x+1<=D.x+1;omega⟩,⟨by show 0<=D.t+10;omega,by show D.t+10<=_;omega⟩,rfl,fun e he=>by simp at he⟩}};{show NV _ _ (iD (D.ss++[_])) _ y;rw [ei];exact (h.n2 y hy).ids fun i hi=>List.mem_append_left _ hi}}}};{
 rename_i n1
 split;{exact h};{
 rename_i hs
 have Mo:DB K=true->S∈iD D.ss:=fun hh=>KP (by intro hn;simp [hh,hn] at hs);split;{
 unfold jE;cases hk:D.ss[(lT D.ss S).toNat]? with
 | none=>exact h
 | some s=>
  have q:=h.s2 s (aF hk);have ht:=h.t;simp only;split;{exact h.Zz hk ⟨q.1,⟨by show 0<=D.t+10;omega,by show D.t+10<=_;omega⟩,q.2.2⟩};{exact h}};{
 split;{
 rename_i n2 h3
 have:S∈iD D.ss:=Mo (by rw [h3];rfl);obtain ⟨s,hm,rfl⟩:=List.mem_map.1 this;exact (h.close (by have:=(h.s2 s hm).1.1;omega)).1};{
 split;{
 unfold pX;cases hk:D.ss[(lT D.ss S).toNat]? with
 | none=>exact h
 | some s=>
  have q:=h.s2 s (aF hk);exact h.Zz hk ⟨q.1,q.2.1,rfl,fun e he=>by simp at he⟩};{
 rename_i n2 n3 n12
 have hV:K=4\/K=7->V.length<=40:=fun hK=>by rcases hK with rfl | rfl<;>· simp [Af,vH,Jf,rowOf] at hf;omega
 unfold iA;split;{exact h};{
 rename_i hp
 split;{
 rename_i h4
 rw [rG (by omega)] at hp;exact h.create (by simpa using hp) hB (hV (.inl h4)) bV (Mo (by rw [h4];rfl))};{
 split;{exact h};{
 split;{exact h};{
 split;{exact h};{
 rename_i n4 n10 _ n13
 refine h.node _ (fun e=>hV (.inr e)) bV ?_;by_cases h6:K=6;{exact .inr h6};{exact .inl (Mo (by simp [DB,n1,h6,n13]))}}}}}}}}}}}}
theorem QL (D:SD) (i:Nat):(jE D i).1.t=D.t:=by
 unfold jE;split;{rfl}
 {split<;>rfl}
theorem Ie (D:SD) (K S F E G:Int) (P V:List Int):(aM D K S F E G P V).1.t=D.t:=by
 unfold aM;split;{rfl}
 {
 split;{
 unfold ik;split;{rfl}
 {split<;>rfl}}
 {
 split;{rfl}
 {
 split;{exact QL _ _};{
 split;{exact (qW _ _).2.2.2};{
 split;{unfold pX;split<;>rfl}
 {
 unfold iA;split;{rfl}
 {
 split;{
 unfold fG
 repeat' split
 all_goals rfl}
 {
 repeat' split
 all_goals try rfl
 unfold gI;split;{rfl}
 {
 split;{
 repeat' split
 all_goals try rfl
 exact (ki _ _ _).2.2.2};{
 split;{rfl}
 {
 split;{
 split;{rfl}
 {exact (ki _ _ _).2.2.2}};{
 split;{
 unfold iC
 repeat' split
 all_goals rfl}
 {
 split;{split;{exact (tR _ _ _).2.2.2};{rfl}}
 {rfl}}}}}}}}}}}}}}
theorem QM (D:SD) (i:Nat):(jE D i).1.e=D.e:=by
 unfold jE;split;{rfl}
 {split<;>rfl}
theorem Su (D:SD) (K S F E G:Int) (P V:List Int):(aM D K S F E G P V).1.e=D.e:=by
 unfold aM;split;{rfl}
 {
 split;{
 unfold ik;split;{rfl}
 {split<;>rfl}}
 {
 split;{rfl}
 {
 split;{exact QM _ _};{
 split;{exact (qW _ _).1};{
 split;{unfold pX;split<;>rfl}
 {
 unfold iA;split;{rfl}
 {
 split;{
 unfold fG
 repeat' split
 all_goals rfl}
 {
 repeat' split
 all_goals try rfl
 unfold gI;split;{rfl}
 {
 split;{
 repeat' split
 all_goals try rfl
 exact (ki _ _ _).1};{
 split;{rfl}
 {
 split;{
 split;{rfl}
 {exact (ki _ _ _).1}};{
 split;{
 unfold iC
 repeat' split
 all_goals rfl}
 {
 split;{split;{exact (tR _ _ _).1};{rfl}}
 {rfl}}}}}}}}}}}}}}
theorem VD.wf (h:VD D):WF D:=by
 have hl:∀ (l:List Int),l.Pairwise (·<·)->(∀ i∈l,i∈iD D.ss)->l.length<=50:=fun l hp hm=>by have:=vD l (iD D.ss) (hp.imp (fun FR e=>by omega)) hm;have:=h.sl;unfold iD at *;rw [List.length_map] at *;omega
 refine ⟨h.g,h.x,h.t,fun nd aV=>?_,fun nd aV=>?_,fun nd aV=>?_,fun nd aV hm e=>?_,PD.pw h.n1⟩
 all_goals have hn:=h.n2 nd aV
 {exact ⟨Nat.le_trans (nZ hn.vp) (by decide),Nat.le_trans (hl _ hn.w1 hn.w2) (by decide),Nat.le_trans (hl _ hn.h1 hn.h2) (by decide)⟩};{exact ⟨hn.vp,hn.pb,Nat.le_trans (nZ hn.vp) (by decide)⟩};{exact Nat.le_trans hn.va (by decide)};{have:=kF hn.lk hm;rw [e] at this;cases this}
open Go.Deep Go.Proofs.Tryz
def Fe (cd:List Int) (f:Nat->Gv) (s:SD × Nat):SD × Nat:=
 if cd.length<=s.2 then s
 else if cd.getD (f s.2).t 0 % 8=1 then ({ (aM s.1 (f s.2).K (f s.2).S (f s.2).F (f s.2).E (f s.2).G (f s.2).P (f s.2).V).1 with t:=s.1.t+cd.getD ((f s.2).t+1) 0 % 6 },(f s.2).t+1+1)
 else ((aM s.1 (f s.2).K (f s.2).S (f s.2).F (f s.2).E (f s.2).G (f s.2).P (f s.2).V).1,(f s.2).t+1)
def runK (cd:List Int) (f:Nat->Gv) (s:SD × Nat):Nat->SD × Nat
 | 0=>s
 | k+1=>Fe cd f (runK cd f s k)
theorem y8 {s:SD × Nat} (h:cd.length<=(runK cd f s i).2):∀ j,runK cd f s (i+j)=runK cd f s i
 | 0=>rfl
 | j+1=>by show Fe cd f (runK cd f s (i+j))=_;rw [y8 h j,Fe,if_pos h]
def VR (i:Nat) (D:SD):Prop:=VD D/\0<=D.e/\D.t<=40+5*i
theorem VR.app (h:VR i D) {K S F E G:Int} (hP:bM P) (hV:bM V):VR i (aM D K S F E G P V).1:=⟨h.1.apply hP hV,by rw [Su];exact h.2.1,by rw [Ie];exact h.2.2⟩
theorem VD.time (h:VD D) {t:Int} (h0:0<=t) (h1:t<=1000000):VD { D with t:=t }:=⟨h.e,h.g,h.x,⟨h0,h1⟩,h.sl,h.nl,h.s1,h.s2,h.n1,h.n2⟩
theorem Qi (hb:bM cd) (hf:∀ t,Cj (f t)) {s:SD × Nat} (hi:i<1000) (h:VR i s.1):VR (i+1) (Fe cd f s).1:=by
 unfold Fe;have h':VR (i+1) s.1:=⟨h.1,h.2.1,by have:=h.2.2;omega⟩;split;{exact h'};{have ha:=h.app (K:=(f s.2).K) (S:=(f s.2).S) (F:=(f s.2).F) (E:=(f s.2).E) (G:=(f s.2).G) (hf s.2).p (hf s.2).v;split;{have r:=cG cd hb ((f s.2).t+1);have ht:=h.1.t;have h2:=h.2.2;refine ⟨ha.1.time (by omega) (by omega),ha.2.1,?_⟩;show s.1.t+cd.getD ((f s.2).t+1) 0 % 6<=_;omega};{exact ⟨ha.1,ha.2.1,Int.le_trans ha.2.2 (by omega)⟩}}
theorem GS (hb:bM cd) (hf:∀ t,Cj (f t)) {s:SD × Nat} (h:VR 0 s.1):∀ i,i<1000->VR i (runK cd f s i).1
 | 0,_=>h
 | i+1,hi=>Qi hb hf (by omega) (GS hb hf h i (by omega))
theorem al8 {x0 x1:Int} (r0:0<=x0/\x0<256) (r1:0<=x1/\x1<256):VR 0 ⟨1+x0 % 3,0,0,x1 % 40,[],[]⟩:=by
 refine ⟨⟨by show 1+x0 % 3<=4611686018427387904;omega,⟨Int.le_refl _,by show (0:Int)<=4611686018427387904;decide⟩,⟨Int.le_refl _,by show (0:Int)<=4611686018427387904;decide⟩,by show 0<=x1 % 40/\x1 % 40<=1000000;omega,by simp,by simp,List.Pairwise.nil,fun s hs=>by simp at hs,List.Pairwise.nil,fun s hs=>by simp at hs⟩,by show 0<=1+x0 % 3;omega,by show x1 % 40<=40+5*((0:Nat):Int);omega⟩
def CL (D:SD):Nat->SD
 | 0=>D
 | k+1=>(aM (CL D k) 1 0 0 0 0 [] []).1
def D8 (D:SD):Nat->SD
 | 0=>D
 | k+1=>(aM (D8 D k) 4 1 0 0 0 (CJ.getD k []) []).1
theorem G7 (h:VR 0 D):∀ k,VR 0 (CL D k)
 | 0=>h
 | k+1=>(G7 h k).app (fun z hz=>by simp at hz) (fun z hz=>by simp at hz)
theorem Hu (h:VR 0 D):∀ k,VR 0 (D8 D k)
 | 0=>h
 | k+1=>(Hu h k).app (vw k).1 (fun z hz=>by simp at hz)
structure RB (w0 w:World) (sb g:Nat) (p:Option Addr) (cd:List Int) (c t:Nat) (D:SD):Prop where
 st:∃ ps cs qs ds Qs,BX w sb [.U D.e,.U D.g,.U D.x,.I D.t,.S ps D.ss.length cs,.S qs D.ns.length ds]/\dJ w0.heap.size w (.S ps D.ss.length cs) D.ss Qs/\lX w0.heap.size w (.S qs D.ns.length ds) D.ns
 res:BX w w0.heap.size [.U 0,.U 0,.U 0,.I 0,.S none 0 0,.S none 0 0]
 jP:lu w g p cd c t
 dr:Dr g w0 w
 lo:w0.heap.size<sb
 gl:g<w0.heap.size
theorem RB.draw {t':Nat} (h:RB w0 w sb g p cd c t D) (hd:lu w1 g p cd c t') (d:Dr g w w1):RB w0 w1 sb g p cd c t' D:=by
 have h2:=h.lo;have h3:=h.gl;obtain ⟨ps,cs,qs,ds,Qs,hx,hS,hN⟩:=h.st;exact ⟨⟨ps,cs,qs,ds,Qs,hx.fr d.1,hS.fr d.1,bS.fr hN d.1⟩,h.res.fr d.1,hd,h.dr.trans d,h2,h3⟩
theorem RB.below (h:RB w0 w sb g p cd c t D) (b:Bw w w1):RB w0 w1 sb g p cd c t D:=
 h.draw (h.jP.low b h.jP.lt) (Dr.below b h.jP.lt)
theorem RB.put {D1:SD} {cs:Nat} (h:RB w0 w sb g p cd c t D) (hS:dJ w0.heap.size w1 (.S ps D1.ss.length cs) D1.ss Qs) (hN:lX w0.heap.size w1 (.S qs D1.ns.length ds) D1.ns) (hf:Fr [49,35,38] w w1) (hb:Below w0.heap.size w w1) :
  RB w0 (bg w1 sb (.U D1.e) (.U D1.g) (.U D1.x) (.I D1.t) (.S ps D1.ss.length cs) (.S qs D1.ns.length ds)) sb g p cd c t D1:=by
 have h2:=h.lo;have h3:=h.gl;obtain ⟨ps0,cs0,qs0,ds0,Qs0,hx,-,-⟩:=h.st;have JV:=hx.fr hf;obtain ⟨cur,hc⟩:=JV.2;have f2:Fr [27] w1 (bg w1 sb (.U D1.e) (.U D1.g) (.U D1.x) (.I D1.t) (.S ps D1.ss.length cs) (.S qs D1.ns.length ds)):=dT hc;have b2:=bt w1 sb (.U D1.e) (.U D1.g) (.U D1.x) (.I D1.t) (.S ps D1.ss.length cs) (.S qs D1.ns.length ds);exact ⟨⟨ps,cs,qs,ds,Qs,JV.put _ _ _ _ _ _,hS.fr f2,bS.fr hN f2⟩,(h.res.fr hf).rj (by omega) _ _ _ _ _ _,(h.jP.low hb h3).low b2 (by omega),(h.dr.add hb h3).add (b2.mono (by omega)) h3,h2,h3⟩
theorem RB.time (h:RB w0 w sb g p cd c t D) (y:Int):RB w0 (w.setCell ⟨sb,3,none⟩ (.I y)) sb g p cd c t { D with t:=y }:=by
 have h2:=h.lo;have h3:=h.gl;obtain ⟨ps,cs,qs,ds,Qs,hx,hS,hN⟩:=h.st;have ts:=bf (j:=3) (u:=.I y) hx.2;have b2:Below sb w (w.setCell ⟨sb,3,none⟩ (.I y)):=aJ.setCell (p:=⟨sb,3,none⟩) aA _;exact ⟨⟨ps,cs,qs,ds,Qs,⟨hx.1.dI 3 (by simp) _,ts.1⟩,hS.fr ts.2,bS.fr hN ts.2⟩,h.res.qz (by omega),h.jP.low b2 (by omega),h.dr.add (b2.mono (by omega)) h3,h2,h3⟩
theorem RB.fin (h:RB w0 w sb g p cd c t D) {cs:Nat} (hS:dJ w0.heap.size w (.S ps D.ss.length cs) D.ss Qs) (hN:lX w0.heap.size w (.S qs D.ns.length ds) D.ns) {Z:World} (hZ:Z=bg w w0.heap.size (.U D.e) (.U D.g) (.U D.x) (.I D.t) (.S ps D.ss.length cs) (.S qs D.ns.length ds)) :
  BX Z w0.heap.size [.U D.e,.U D.g,.U D.x,.I D.t,.S ps D.ss.length cs,.S qs D.ns.length ds]/\dJ w0.heap.size Z (.S ps D.ss.length cs) D.ss Qs/\lX w0.heap.size Z (.S qs D.ns.length ds) D.ns/\lu Z g p cd c t/\Dr g w0 Z:=by
 subst hZ;obtain ⟨cur,hc⟩:=h.res.2;have f2:Fr [27] w (bg w w0.heap.size (.U D.e) (.U D.g) (.U D.x) (.I D.t) (.S ps D.ss.length cs) (.S qs D.ns.length ds)):=dT hc;have b2:=bt w w0.heap.size (.U D.e) (.U D.g) (.U D.x) (.I D.t) (.S ps D.ss.length cs) (.S qs D.ns.length ds);exact ⟨h.res.put _ _ _ _ _ _,hS.fr f2,bS.fr hN f2,h.jP.low b2 h.gl,h.dr.add b2 h.gl⟩
theorem yR {ops:Array Oper} {o:Oper} {a:Act} {K:Act->World->Prop} {Q:Exit->Act->World->Prop} {E:Prop} (l:List Int) (hB:bM l) (hl:l.length<=1048576)
  (hK:∀ p' c' w',GC w.heap.size w' (.S p' l.length c') l->Bw w w'->K (a.put o.dst (.S p' l.length c')) w') {x:Operand} (jK:o.guard=none:=by rfl) (DI:o.op=Op.convert 9 22 x:=by rfl) (hx:a.eval x=.string (aC l):=by rfl) :
  if Region.wanted o (yielded ops a.tmps)=true then Oper.wp prog o a w K Q else E:=by
 have hw:Region.wanted o (yielded ops a.tmps)=true:=by simp [Region.wanted,jK]
 rw [if_pos hw];obtain ⟨c',W,cK,hP,hb⟩:=vM w hB hl;unfold Oper.wp;simp only [execOp,DI,hx,Sem.run_bind,Sem.run_pure,Result.andThen_ok,cK,Result.andThen];exact hK _ _ _ hP hb
theorem RB.app (h:RB w0 w sb g p cd c t D) (hv:VD D) {cs:Nat} (hx:BX w sb [.U D.e,.U D.g,.U D.x,.I D.t,.S ps D.ss.length cs,.S qs D.ns.length ds])
  (K S F E G:Int) (pp:Option Addr) (cp:Nat) (pq:Option Addr) (cv:Nat) (P V:List Int) (hP:TB w (.S pp P.length cp) P) (hV:TB w (.S pq V.length cv) V) (bP:bM P) (lP:P.length<=1000) (lV:V.length<=1000) (R:SD × RP) (eR:Hid (aM D K S F E G P V=R)) :
  Calls prog 40 #[cY D.e D.g D.x D.t (.S ps D.ss.length cs) (.S qs D.ns.length ds),lW K S (.S pp P.length cp) F (.S pq V.length cv) E G] w fun r w'=>∃ p1 c1 q1 d1 Rv,r=.returned (.tuple #[cY R.1.e R.1.g R.1.x R.1.t (.S p1 R.1.ss.length c1) (.S q1 R.1.ns.length d1),Rv])/\RB w0 (bg w' sb (.U R.1.e) (.U R.1.g) (.U R.1.x) (.I R.1.t) (.S p1 R.1.ss.length c1) (.S q1 R.1.ns.length d1)) sb g p cd c t R.1/\BX w' sb [.U D.e,.U D.g,.U D.x,.I D.t,.S ps D.ss.length cs,.S qs D.ns.length ds]/\Fr [49,35,38] w w':=by
 obtain ⟨ps0,cs0,qs0,ds0,Qs,hx0,hS,hN⟩:=h.st;have e4:=(hx.1.1 4 _ rfl).symm.trans (hx0.1.1 4 _ rfl);have e5:=(hx.1.1 5 _ rfl).symm.trans (hx0.1.1 5 _ rfl);simp only [Option.some.injEq,Value.slice.injEq] at e4 e5;obtain ⟨rfl,-,rfl⟩:=e4;obtain ⟨rfl,-,rfl⟩:=e5;obtain ⟨p1,n1,c1,ec,kH,jF⟩:=hP.2.2;simp only [Value.slice.injEq] at ec;obtain ⟨-,rfl,rfl⟩:=ec;have sl:=hv.sl;have nl:=hv.nl;refine (xP D.e D.g D.x D.t ps D.ss.length cs qs D.ns.length ds D.ss Qs D.ns (ae rfl) (ae rfl) K S F E G pp P.length cp pq V.length cv P V (ae rfl) (ae rfl) w0.heap.size w (ae hS) (ae hN) (ae hP.1) (ae hV.1) (h.dr.2.1.size) (by omega) (by omega) (by omega) (by omega) kH jF (ae hv.wf) (ae bP) R eR).mono ?_;rintro r w' ⟨p',c',q',d',Dv,Nv,Ev,vP,rfl,Cg,hN',tD,tN,tE,hF,js⟩;exact ⟨p',c',q',d',_,rfl,h.put Cg hN' hF js,hx.fr hF,hF⟩
def Uu (w:World) (pb:Nat):Prop:=∃ cur,w.heap[pb]?=some (.cells cur 9)/\∀ m,m<10->w.cell? ⟨pb,m,none⟩=some (.string (aC (CJ.getD m [])))
theorem Uu.fr {T:List TypeId} {w':World} {pb:Nat} (h:Uu w pb) (hf:Fr T w w') (ht:9∉T:=by decide):Uu w' pb:=by
 obtain ⟨cur,hc,hm⟩:=h;have hk:=hf.2 _ _ _ _ ht hc;exact ⟨cur,hk,fun m h=>(ai (hk.trans hc.symm) _).trans (hm m h)⟩
def bf4 (cd:List Int) (t n:Nat) (D:SD) (t':Nat):Prop:=
 ∀ (g:Nat) (p:Option Addr) (c:Nat) (w:World),lu w g p cd c t->Calls prog 83 #[.pointer (some ⟨g,0,none⟩),.I n] w fun r w'=>∃ ps cs qs ds Qs,r=.returned (cY D.e D.g D.x D.t (.S ps D.ss.length cs) (.S qs D.ns.length ds))/\dJ w.heap.size w' (.S ps D.ss.length cs) D.ss Qs/\lX w.heap.size w' (.S qs D.ns.length ds) D.ns/\lu w' g p cd c t'/\Dr g w w'
end Go.Proofs.YtcfcafeciggjeaaGreatDoor
