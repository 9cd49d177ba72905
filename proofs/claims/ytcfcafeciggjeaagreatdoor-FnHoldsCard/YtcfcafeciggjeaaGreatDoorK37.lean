import Derived.Test.YtcfcafeciggjeaaGreatDoorK35
namespace Go.Proofs.YtcfcafeciggjeaaGreatDoor
set_option linter.all false
variable {e ep g ge mo x:Int} {i nh:Nat} {nd:aD} {ns:List aD} {ss:List aY}
theorem KD.of (h:BT ss ns):KD ns:=fun i j a c ha hc e=>by
 have e2:a.path=c.path:=jD (h.n2 a (aF ha)).1 (h.n2 c (aF hc)).1 e;rcases Nat.lt_trichotomy i j with hh | hh | hh;{exact absurd e2 (h.n3 i j a c ha hc hh)};{exact hh};{exact absurd e2.symm (h.n3 j i c a hc ha hh)}
theorem rR (h:(List.range ns.length).all (iP e g ss ns)=true) (hi:ns[i]?=some nd):dN e g nd.mode nd.holders.length nd.aB nd.gen=true/\gq ss nd.holders=true/\gq ss nd.watchers=true:=by
 have hl:=(aN.1 hi).1;have:=List.all_eq_true.1 h i (by simpa using hl);unfold iP at this;rw [List.getD_eq_getElem?_getD,hi] at this;simp only [Option.getD_some,Bool.and_eq_true] at this;exact ⟨this.2.2.2.2.2.2,this.2.2.2.2.1,this.2.2.2.2.2.1⟩
theorem mQ {ids:List Int} (h:gq ss ids=true):∀ x∈ids,∃ s∈ss,s.1=x:=fun x hx=>by
 obtain ⟨i,hi⟩:=List.mem_iff_getElem?.1 hx;have:=List.all_eq_true.1 h i (by simpa using (aN.1 hi).1);unfold yy live at this;rw [List.getD_eq_getElem?_getD,hi] at this;simp only [Option.getD_some,Bool.and_eq_true,List.any_eq_true] at this;obtain ⟨s,hs,e⟩:=this.1;exact ⟨s,hs,by simpa using e⟩
theorem kF (h:dN e g mo nh ep ge=true) (hm:mo=1):nh=1:=by
 unfold dN at h;rw [if_pos hm] at h;simp at h;exact h.1
theorem oB (h:dN e g mo nh ep ge=true) (hm:mo≠1):ep=0/\ge=0/\(mo=0->nh=0):=by
 unfold dN at h;rw [if_neg hm] at h;simp only [Bool.and_eq_true,beq_iff_eq] at h;refine ⟨h.1,h.2.1,fun h0=>?_⟩;have:=h.2.2;rw [if_pos h0] at this;simpa using this
theorem NT.of (hF:BT ss ns) (h:(List.range ns.length).all (iP e g ss ns)=true) (hi:ns[i]?=some nd):NT ss nd:=by
 obtain ⟨a,b,c,d,f,k,m⟩:=hF.n2 nd (aF hi);exact ⟨a,b,m,f,mQ (rR h hi).2.2⟩
theorem wC (h:(List.range ss.length).all (jy x ss)=true) {s:aY} (hs:s∈ss):1<=s.1/\s.1<=x/\fy s.2.2=true:=by
 obtain ⟨i,hi⟩:=List.mem_iff_getElem?.1 hs;have:=List.all_eq_true.1 h i (by simpa using (aN.1 hi).1);unfold jy at this;rw [List.getD_eq_getElem?_getD,hi] at this;simp only [Option.getD_some,Bool.and_eq_true,decide_eq_true_eq] at this;exact ⟨this.1,this.2.1,this.2.2.2.2.2⟩
theorem vN.of (hF:BT ss ns) (h:(List.range ss.length).all (jy x ss)=true):vN ss:=
 ⟨hF.s1,fun s hs=>(hF.s2 s hs).1,fun s hs=>by have:=(wC h hs).2.2;unfold fy at this;simp only [Bool.and_eq_true,decide_eq_true_eq] at this;exact this.1⟩
theorem CQ (h:(List.range ns.length).all (iP e g ss ns)=true) (hi:ns[i]?=some nd):vp nd.path=true:=by
 have:=List.all_eq_true.1 h i (by simpa using (aN.1 hi).1);unfold iP at this;rw [List.getD_eq_getElem?_getD,hi] at this;simp only [Option.getD_some,Bool.and_eq_true] at this;exact this.1.1
theorem WF.of {t:Int} (h:jY e g x t ss ns=true) (hF:BT ss ns) (g0:0<=g) (x0:0<=x):WF ⟨e,g,x,t,ss,ns⟩:=by
 unfold jY at h;simp only [Bool.and_eq_true,decide_eq_true_eq] at h;obtain ⟨⟨h1,h2,h3,h4,h5,h6,h7⟩,hS,hN⟩:=h;refine ⟨⟨g0,h2⟩,⟨x0,h3⟩,⟨h4,h5⟩,fun nd aV=>?_,fun nd aV=>?_,fun nd aV=>(hF.n2 nd aV).2.2.1,fun nd aV hm=>?_,fun i j a c ha hc e2=>?_⟩;{obtain ⟨a,b,c,d,f,-⟩:=hF.n2 nd aV;exact ⟨b,f,d⟩};{obtain ⟨i,hi⟩:=List.mem_iff_getElem?.1 aV;exact ⟨CQ hN hi,(hF.n2 nd aV).1,(hF.n2 nd aV).2.1⟩};{obtain ⟨i,hi⟩:=List.mem_iff_getElem?.1 aV;intro e0;have:=kF (rR hN hi).1 hm;rw [e0] at this;cases this};{rcases Nat.lt_trichotomy i j with hh | hh | hh;{exact absurd e2 (hF.n3 i j a c ha hc hh)};{exact hh};{exact absurd e2.symm (hF.n3 j i c a hc ha hh)}}
end Go.Proofs.YtcfcafeciggjeaaGreatDoor
