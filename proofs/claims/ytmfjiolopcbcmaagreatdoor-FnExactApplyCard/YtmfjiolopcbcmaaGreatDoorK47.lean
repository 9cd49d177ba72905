import Derived.Test.YtmfjiolopcbcmaaGreatDoorK45
namespace Go.Proofs.YtmfjiolopcbcmaaGreatDoor
set_option linter.unusedVariables false
set_option linter.unusedSimpArgs false
variable {e ep g ge mo x:Int} {i nh:Nat} {nd:aA} {ns:List aA} {ss:List aR}
theorem KD.of (h:DP ss ns):KD ns:=fun i j a c ha hc e=>by
 have e2:a.path=c.path:=jc (h.n2 a (aL ha)).1 (h.n2 c (aL hc)).1 e;rcases Nat.lt_trichotomy i j with hh | hh | hh;{exact absurd e2 (h.n3 i j a c ha hc hh)};{exact hh};{exact absurd e2.symm (h.n3 j i c a hc ha hh)}
theorem qU (h:(List.range ns.length).all (ja e g ss ns)=true) (hi:ns[i]?=some nd):fI e g nd.mode nd.holders.length nd.aC nd.gen=true/\fV ss nd.holders=true/\fV ss nd.watchers=true:=by
 have hl:=(aM.1 hi).1;have:=List.all_eq_true.1 h i (by simpa using hl);unfold ja at this;rw [List.getD_eq_getElem?_getD,hi] at this;simp only [Option.getD_some,Bool.and_eq_true] at this;exact ⟨this.2.2.2.2.2.2,this.2.2.2.2.1,this.2.2.2.2.2.1⟩
theorem vd {ids:List Int} (h:fV ss ids=true):∀ x∈ids,∃ s∈ss,s.1=x:=fun x hx=>by
 obtain ⟨i,hi⟩:=List.mem_iff_getElem?.1 hx;have:=List.all_eq_true.1 h i (by simpa using (aM.1 hi).1);unfold zI live at this;rw [List.getD_eq_getElem?_getD,hi] at this;simp only [Option.getD_some,Bool.and_eq_true,List.any_eq_true] at this;obtain ⟨s,hs,e⟩:=this.1;exact ⟨s,hs,by simpa using e⟩
theorem uQ (h:fI e g mo nh ep ge=true) (hm:mo=1):nh=1:=by
 unfold fI at h;rw [if_pos hm] at h;simp at h;exact h.1
theorem Ci (h:fI e g mo nh ep ge=true) (hm:mo≠1):ep=0/\ge=0/\(mo=0->nh=0):=by
 unfold fI at h;rw [if_neg hm] at h;simp only [Bool.and_eq_true,beq_iff_eq] at h;refine ⟨h.1,h.2.1,fun h0=>?_⟩;have:=h.2.2;rw [if_pos h0] at this;simpa using this
theorem NT.of (hF:DP ss ns) (h:(List.range ns.length).all (ja e g ss ns)=true) (hi:ns[i]?=some nd):NT ss nd:=by
 obtain ⟨a,b,c,d,f,k,m⟩:=hF.n2 nd (aL hi);exact ⟨a,b,m,f,vd (qU h hi).2.2⟩
theorem uJ (h:(List.range ss.length).all (jX x ss)=true) {s:aR} (hs:s∈ss):1<=s.1/\s.1<=x/\gF s.2.2=true:=by
 obtain ⟨i,hi⟩:=List.mem_iff_getElem?.1 hs;have:=List.all_eq_true.1 h i (by simpa using (aM.1 hi).1);unfold jX at this;rw [List.getD_eq_getElem?_getD,hi] at this;simp only [Option.getD_some,Bool.and_eq_true,decide_eq_true_eq] at this;exact ⟨this.1,this.2.1,this.2.2.2.2.2⟩
theorem uo.of (hF:DP ss ns) (h:(List.range ss.length).all (jX x ss)=true):uo ss:=
 ⟨hF.s1,fun s hs=>(hF.s2 s hs).1,fun s hs=>by have:=(uJ h hs).2.2;unfold gF at this;simp only [Bool.and_eq_true,decide_eq_true_eq] at this;exact this.1⟩
theorem BU (h:(List.range ns.length).all (ja e g ss ns)=true) (hi:ns[i]?=some nd):vp nd.path=true:=by
 have:=List.all_eq_true.1 h i (by simpa using (aM.1 hi).1);unfold ja at this;rw [List.getD_eq_getElem?_getD,hi] at this;simp only [Option.getD_some,Bool.and_eq_true] at this;exact this.1.1
theorem WF.of {t:Int} (h:ng e g x t ss ns=true) (hF:DP ss ns) (g0:0<=g) (x0:0<=x):WF ⟨e,g,x,t,ss,ns⟩:=by
 unfold ng at h;simp only [Bool.and_eq_true,decide_eq_true_eq] at h;obtain ⟨⟨h1,h2,h3,h4,h5,h6,h7⟩,hS,hN⟩:=h;refine ⟨⟨g0,h2⟩,⟨x0,h3⟩,⟨h4,h5⟩,fun nd bf=>?_,fun nd bf=>?_,fun nd bf=>(hF.n2 nd bf).2.2.1,fun nd bf hm=>?_,fun i j a c ha hc e2=>?_⟩;{obtain ⟨a,b,c,d,f,-⟩:=hF.n2 nd bf;exact ⟨b,f,d⟩};{obtain ⟨i,hi⟩:=List.mem_iff_getElem?.1 bf;exact ⟨BU hN hi,(hF.n2 nd bf).1,(hF.n2 nd bf).2.1⟩};{obtain ⟨i,hi⟩:=List.mem_iff_getElem?.1 bf;intro e0;have:=uQ (qU hN hi).1 hm;rw [e0] at this;cases this};{rcases Nat.lt_trichotomy i j with hh | hh | hh;{exact absurd e2 (hF.n3 i j a c ha hc hh)};{exact hh};{exact absurd e2.symm (hF.n3 j i c a hc ha hh)}}
end Go.Proofs.YtmfjiolopcbcmaaGreatDoor
