import Derived.Test.YtcfcafeciggjeaaGreatDoorK38
namespace Go.Proofs.YtcfcafeciggjeaaGreatDoor
set_option linter.unusedVariables false
set_option linter.unusedSimpArgs false
variable {e g x:Int} {ns:List aA} {ss:List aL}
theorem sc (h:(List.range ss.length).all (gU x ss)=true) {s:aL} (hs:s∈ss):1<=s.1/\s.1<=x/\dM s.2.2=true:=by
 obtain ⟨i,hi⟩:=List.mem_iff_getElem?.1 hs;have:=List.all_eq_true.1 h i (by simpa using (aJ.1 hi).1);unfold gU at this;rw [List.getD_eq_getElem?_getD,hi] at this;simp only [Option.getD_some,Bool.and_eq_true,decide_eq_true_eq] at this;exact ⟨this.1,this.2.1,this.2.2.2.2.2⟩
theorem xu.of (hF:xk ss ns) (h:(List.range ss.length).all (gU x ss)=true):xu ss:=
 ⟨hF.s1,fun s hs=>(hF.s2 s hs).1,fun s hs=>by have:=(sc h hs).2.2;unfold dM at this;simp only [Bool.and_eq_true,decide_eq_true_eq] at this;exact this.1⟩
theorem xT (h:(List.range ns.length).all (gq e g ss ns)=true) {i:Nat} {nd:aA} (hi:ns[i]?=some nd):vp nd.path=true:=by
 have:=List.all_eq_true.1 h i (by simpa using (aJ.1 hi).1);unfold gq at this;rw [List.getD_eq_getElem?_getD,hi] at this;simp only [Option.getD_some,Bool.and_eq_true] at this;exact this.1.1
theorem WF.of {t:Int} (h:jl e g x t ss ns=true) (hF:xk ss ns) (g0:0<=g) (x0:0<=x):WF ⟨e,g,x,t,ss,ns⟩:=by
 unfold jl at h;simp only [Bool.and_eq_true,decide_eq_true_eq] at h;obtain ⟨⟨h1,h2,h3,h4,h5,h6,h7⟩,hS,hN⟩:=h;refine ⟨⟨g0,h2⟩,⟨x0,h3⟩,⟨h4,h5⟩,fun nd aK=>?_,fun nd aK=>?_,fun nd aK=>(hF.n2 nd aK).2.2.1,fun nd aK hm=>?_,fun i j a c ha hc e2=>?_⟩;{obtain ⟨a,b,c,d,f,-⟩:=hF.n2 nd aK;exact ⟨b,f,d⟩};{obtain ⟨i,hi⟩:=List.mem_iff_getElem?.1 aK;exact ⟨xT hN hi,(hF.n2 nd aK).1,(hF.n2 nd aK).2.1⟩};{obtain ⟨i,hi⟩:=List.mem_iff_getElem?.1 aK;intro e0;have:=jW (oL hN hi).1 hm;rw [e0] at this;cases this};{rcases Nat.lt_trichotomy i j with hh | hh | hh;{exact absurd e2 (hF.n3 i j a c ha hc hh)};{exact hh};{exact absurd e2.symm (hF.n3 j i c a hc ha hh)}}
end Go.Proofs.YtcfcafeciggjeaaGreatDoor
