import Derived.Test.YtmfjiolopcbcmaaGreatDoorK11
namespace Go.Proofs.YtmfjiolopcbcmaaGreatDoor
set_option maxHeartbeats 3200000
set_option linter.unusedVariables false
set_option linter.unusedSimpArgs false
set_option maxRecDepth 100000
open Go.ChangeShapes Go.WideShapes Go.ChangeAt Go.RowKit Go.Proofs.Tryz
variable {A acc l:List Lf} {K k0:Int} {V w wr:World} {a b:Nat}
theorem tI.len {α:Type} {P:α->Nat->Nat->List Lf->Prop} {sz:Nat} {p:Option Addr} {n c:Nat} {xs:List α} (h:tI P sz (.slice p n c) xs A) (bm:∀ x b a l,P x b a l->1<=l.length):n<=A.length:=by
 obtain ⟨Ls,en,lL,eA,dE⟩:=h.at;have key:∀ k,k<=n->k<=(Ls.take k).flatten.length:=by
  intro k
  induction k with
  | zero=>intro _;exact Nat.zero_le _
  | succ k ih=>
   intro hk;obtain ⟨b,o,x,l,-,-,-,hP,gO,-⟩:=dE k (by omega);rw [gO,List.length_append];have:=ih (by omega);have:=bm _ _ _ _ hP;omega
 have:=key n ay;rw [<-lL,List.take_length,lL] at this;rw [eA];exact this
theorem vX.pos {x:Ev} (h:vX w x b a l):1<=l.length:=by
 obtain ⟨p,c,lb,rfl,-⟩:=h;simp
theorem vV.pos {x:aR} (h:vV w x b a l):1<=l.length:=by
 obtain ⟨p,c,lb,rfl,-⟩:=h;simp
theorem vW.pos {x:aA} (h:vW w x b a l):1<=l.length:=by
 obtain ⟨p0,c0,p1,c1,p4,c4,p7,c7,l0,l1,l4,l7,rfl,-⟩:=h;simp;omega
theorem fx (p:Option Addr) (c n:Nat) (xs:List Int) (A:List Lf) (k:Int) (w:World) (h:qs (.slice p n c) xs A) (hA:aP w A) (k0:0<=k) (k1:k+A.length<=100000000) :
  Calls prog 40 #[.slice p n c,.int .i64 k] w fun e w'=>e=.returned (.int .i64 (k+A.length))/\Mk w w' A k:=by
 have zO:=h.len (fun x b a l hl=>by rw [show l=_ from hl];simp);obtain ⟨Ls,en,lL,eA,dE⟩:=h.at;have lG:=ae dE;have HA:=ae hA;have EA:=ae eA;have K1:k+(Ls.flatten.length:Int)<=100000000:=by rw [<-eA];exact k1
 have hn:n<=100000000:=by omega
 have LL:=ae lL;clear h dE hA eA en lL zO;go_enter func40,ntmps40;go_wp2
 go_loopw [1,5] (fun kk i wr=>∃ j:Nat,j<=n/\i=.int .i64 j/\kk=.int .i64 (k+(((Ls.take j).flatten.length:Nat):Int))/\Hid (Mk w wr (Ls.take j).flatten k)) (fun _ i _=>n-(intOf i).toNat)
 case atStart=>exact ⟨0,Nat.zero_le _,rfl,by simp,Mk.refl _ _⟩
 case round =>(
 obtain ⟨j,hj,rfl,rfl,hM⟩:=hrel;have hle:=aJ Ls j;by_cases aU:j<n;{
 have aV:(j:Int)<(n:Int):=by omega
 obtain ⟨b,o,x,l,rfl,hx,hl,hP,gO,dD⟩:=aa lG j aU;obtain rfl:l=[⟨b,o+j,.u8⟩]:=by rw [show l=_ from hP,Nat.mul_one]
 have gx:aP w (Ls.take j).flatten:=HA.sub (fun a ha=>by rw [aa EA];exact cM ha);obtain ⟨⟨n0,oF⟩,xY⟩:=HA.mk (aa hM) gx _ (dD ⟨b,o+j,.u8⟩ (by simp));dsimp only at oF xY;have HT:Hid ((Ls.take (j+1)).flatten.length=(Ls.take j).flatten.length+1):=by show _=_;rw [gO];simp
 have iK:((Ls.take j).flatten.length:Int)+1<=100000000:=by have:=aJ Ls (j+1);have:=aa HT;omega
 have M1:Hid (Mk w (wr.setCell ⟨b,o+j,none⟩ (.int .u8 (Pn .u8 (k+((Ls.take j).flatten.length:Int))))) (Ls.take (j+1)).flatten k):=by show Mk _ _ _ _;rw [gO];exact hM.trans (Mk.one oF) gx (by intro a ha;exact HA a (dD a ha))
 generalize hT:(Ls.take j).flatten.length=T at *;clear hT hx hl hP gO dD gx hM;have Lg:0<=k+(T:Int):=by omega
 have Zk:k+(T:Int)<=100000000:=by omega
 go_wp2;go_roundw
 case rel=>exact ⟨j+1,by omega,by go_num,by rw [aa HT];go_num,M1⟩
 case measure=>simp [intOf];omega}
 {
 have e:j=n:=by omega
 subst e;have e2:(Ls.take j).flatten=A:=by rw [<-aa LL,List.take_length];exact EA.symm
 rw [e2] at hM ⊢;clear hle lG HA;go_wp2;go_ret;exact ⟨rfl,hM⟩})
theorem nB (p:Option Addr) (c n:Nat) (xs:List Int) (A:List Lf) (k:Int) (w:World) (h:GW (.slice p n c) xs A) (hA:aP w A) (k0:0<=k) (k1:k+A.length<=100000000) :
  Calls prog 87 #[.slice p n c,.int .i64 k] w fun e w'=>e=.returned (.int .i64 (k+A.length))/\Mk w w' A k:=by
 have zO:=h.len (fun x b a l hl=>by rw [show l=_ from hl];simp);obtain ⟨Ls,en,lL,eA,dE⟩:=h.at;have lG:=ae dE;have HA:=ae hA;have EA:=ae eA;have K1:k+(Ls.flatten.length:Int)<=100000000:=by rw [<-eA];exact k1
 have hn:n<=100000000:=by omega
 have LL:=ae lL;clear h dE hA eA en lL zO;go_enter func87,ntmps87;go_wp2
 go_loopw [1,5] (fun kk i wr=>∃ j:Nat,j<=n/\i=.int .i64 j/\kk=.int .i64 (k+(((Ls.take j).flatten.length:Nat):Int))/\Hid (Mk w wr (Ls.take j).flatten k)) (fun _ i _=>n-(intOf i).toNat)
 case atStart=>exact ⟨0,Nat.zero_le _,rfl,by simp,Mk.refl _ _⟩
 case round =>(
 obtain ⟨j,hj,rfl,rfl,hM⟩:=hrel;have hle:=aJ Ls j;by_cases aU:j<n;{
 have aV:(j:Int)<(n:Int):=by omega
 obtain ⟨b,o,x,l,rfl,hx,hl,hP,gO,dD⟩:=aa lG j aU;obtain rfl:l=[⟨b,o+j,.u64⟩]:=by rw [show l=_ from hP,Nat.mul_one]
 have gx:aP w (Ls.take j).flatten:=HA.sub (fun a ha=>by rw [aa EA];exact cM ha);obtain ⟨⟨n0,oF⟩,xY⟩:=HA.mk (aa hM) gx _ (dD ⟨b,o+j,.u64⟩ (by simp));dsimp only at oF xY;have HT:Hid ((Ls.take (j+1)).flatten.length=(Ls.take j).flatten.length+1):=by show _=_;rw [gO];simp
 have iK:((Ls.take j).flatten.length:Int)+1<=100000000:=by have:=aJ Ls (j+1);have:=aa HT;omega
 have M1:Hid (Mk w (wr.setCell ⟨b,o+j,none⟩ (.int .u64 (Pn .u64 (k+((Ls.take j).flatten.length:Int))))) (Ls.take (j+1)).flatten k):=by show Mk _ _ _ _;rw [gO];exact hM.trans (Mk.one oF) gx (by intro a ha;exact HA a (dD a ha))
 generalize hT:(Ls.take j).flatten.length=T at *;clear hT hx hl hP gO dD gx hM;have Lg:0<=k+(T:Int):=by omega
 have Zk:k+(T:Int)<=100000000:=by omega
 go_wp2;go_roundw
 case rel=>exact ⟨j+1,by omega,by go_num,by rw [aa HT];go_num,M1⟩
 case measure=>simp [intOf];omega}
 {
 have e:j=n:=by omega
 subst e;have e2:(Ls.take j).flatten=A:=by rw [<-aa LL,List.take_length];exact EA.symm
 rw [e2] at hM ⊢;clear hle lG HA;go_wp2;go_ret;exact ⟨rfl,hM⟩})
theorem Mk.trans' {w1 w2:World} {A2:List Lf} {k:Int} (h:Mk w w1 A k) (h2:Mk w1 w2 A2 K) (e:K=k+A.length) (hA:aP w A) (Vn:aP w A2):Mk w w2 (A++A2) k:=by
 subst e;exact h.trans h2 hA Vn
theorem Mk.set {o:Nat} {kd:IntKind} (h:Mk wr V acc k0) (fP:aP wr l) (Qj:∀ a∈acc,a∈l) (hm:Lf.mk b o kd∈l) (e:K=k0+acc.length):Mk wr (V.setCell ⟨b,o,none⟩ (.int kd (Pn kd K))) (acc++[⟨b,o,kd⟩]) k0:=by
 obtain ⟨⟨n,hn⟩,hf⟩:=fP.mk h (fP.sub Qj) _ hm;exact h.trans' (Mk.one hn) e (fP.sub Qj) (fun a ha=>fP a (by simp at ha;rw [ha];exact hm))
theorem Mk.call {V':World} {lf:List Lf} (h:Mk wr V acc k0) (h2:Mk V V' lf K) (fP:aP wr l) (Qj:∀ a∈acc,a∈l) (hlf:∀ a∈lf,a∈l) (e:K=k0+acc.length):Mk wr V' (acc++lf) k0:=
 h.trans' h2 e (fP.sub Qj) (fP.sub hlf)
theorem oQ (p:Option Addr) (c n:Nat) (xs:List Ev) (A:List Lf) (k:Int) (w:World) (h:kJ w (.slice p n c) xs A) (hA:aP w A) (k0:0<=k) (k1:k+A.length<=100000000) :
  Calls prog 42 #[.slice p n c,.int .i64 k] w fun e w'=>e=.returned (.int .i64 (k+A.length))/\Mk w w' A k:=by
 have zO:=h.len (fun x b a l hl=>hl.pos);obtain ⟨Ls,en,lL,eA,dE⟩:=h.at;have lG:=ae dE;have HA:=ae hA;have EA:=ae eA;have K1:k+(Ls.flatten.length:Int)<=100000000:=by rw [<-eA];exact k1
 have hn:n<=100000000:=by omega
 have LL:=ae lL;clear h dE hA eA en lL zO;go_enter func42,ntmps42;go_wp2
 go_loopw [1,5] (fun kk i wr=>∃ j:Nat,j<=n/\i=.int .i64 j/\kk=.int .i64 (k+(((Ls.take j).flatten.length:Nat):Int))/\Hid (Mk w wr (Ls.take j).flatten k)) (fun _ i _=>n-(intOf i).toNat)
 case atStart=>exact ⟨0,Nat.zero_le _,rfl,by simp,Mk.refl _ _⟩
 case round =>(
 obtain ⟨j,hj,rfl,rfl,hM⟩:=hrel;have hle:=aJ Ls j;by_cases aU:j<n;{
 have aV:(j:Int)<(n:Int):=by omega
 obtain ⟨b,o,x,l,rfl,hx,hl,hP,gO,dD⟩:=aa lG j aU;have gx:aP w (Ls.take j).flatten:=HA.sub (fun a ha=>by rw [aa EA];exact cM ha);have tX:aP w l:=HA.sub dD;have fP:aP wr l:=tX.mk hM gx;have Ie:=hP.mk hM gx;have re:(Ls.take (j+1)).flatten.length=(Ls.take j).flatten.length+l.length:=by rw [gO,List.length_append]
 have iK:k+((Ls.take j).flatten.length:Int)+(l.length:Int)<=100000000:=by have:=aJ Ls (j+1);omega
 have HT:=ae re;have Wq:Hid (∀ w',Mk wr w' l (k+((Ls.take j).flatten.length:Int))->Mk w w' (Ls.take (j+1)).flatten k):=by intro w' Ur;rw [gO];exact hM.trans Ur gx tX
 generalize hT:(Ls.take j).flatten.length=T at *;clear hT hx hl hP gO dD gx hM re tX;have Lg:0<=k+(T:Int):=by omega
 obtain ⟨q,d,lb,rfl,hd,CH⟩:=Ie;have HD:=ae hd;have vZ:=ae CH;clear hd CH;have hlen:k+(T:Int)+(1+(lb.length:Int))<=100000000:=by simp only [List.length_append,List.length_cons] at iK;omega
 clear iK;have ir:=ae fP;have Nr:Hid (Mk wr wr [] (k+(T:Int))):=Mk.refl _ _;clear fP;have Tc:aP wr (⟨b,o+j*2,.i64⟩::lb):=ir.mk (aa Nr) (ir.sub (by intro a ha;first | (simp at ha;done) | (simp only [List.mem_append,List.mem_cons,List.not_mem_nil,List.nil_append,or_false] at ha ⊢;grind)));obtain ⟨⟨m0,oF⟩,xY⟩:=Tc ⟨b,o+j*2,.i64⟩ (by simp);dsimp only at oF xY;have qy:wr.cell? ⟨b,o+j*2+1,none⟩=some (.slice q x.2.length d):=Nr.head (ir.sub (by intro a ha;first | (simp at ha;done) | (simp only [List.mem_append,List.mem_cons,List.not_mem_nil,List.nil_append,or_false] at ha ⊢;grind))) (aa HD);have Jy:Hid (Mk wr (wr.setCell ⟨b,o+j*2,none⟩ (.int .i64 (k+(T:Int)))) ([]++[⟨b,o+j*2,.i64⟩]) (k+(T:Int))):=(Mk.set (aa Nr) (aa ir) (by intro a ha;first | (simp at ha;done) | (simp only [List.mem_append,List.mem_cons,List.not_mem_nil,List.nil_append,or_false] at ha ⊢;grind)) (b:=b) (o:=o+j*2) (kd:=.i64) (by simp) (K:=k+(T:Int)) (by simp));have Td:Hid (aP (wr.setCell ⟨b,o+j*2,none⟩ (.int .i64 (k+(T:Int)))) lb):=(ir.sub (by intro a ha;simp [ha])).mk (aa Jy) (ir.sub (by intro a ha;first | (simp at ha;done) | (simp only [List.mem_append,List.mem_cons,List.not_mem_nil,List.nil_append,or_false] at ha ⊢;grind)));clear Tc;go_wp2_with fail;clear oF xY qy;refine (fx q d x.2.length (x.2) lb (k+(T:Int)+1) _ vZ Td (by omega) (by omega)).mono ?_;rintro e v0 ⟨rfl,N0⟩;have WI:Hid (Mk wr v0 (([]++[⟨b,o+j*2,.i64⟩])++lb) (k+(T:Int))):=Mk.call (aa Jy) N0 (aa ir) (by intro a ha;first | (simp at ha;done) | (simp only [List.mem_append,List.mem_cons,List.not_mem_nil,List.nil_append,or_false] at ha ⊢;grind)) (by intro a ha;simp [ha]) (by simp;try omega);clear N0 Jy Td;have G8:=ae (aa Wq _ (by simpa using aa WI));go_wp2;go_roundw
 case rel=>exact ⟨j+1,by omega,by go_num,by rw [aa HT];first | (simp;omega) | (congr 1;simp;omega),G8⟩
 case measure=>simp [intOf];omega}
 {
 have e:j=n:=by omega
 subst e;have e2:(Ls.take j).flatten=A:=by rw [<-aa LL,List.take_length];exact EA.symm
 rw [e2] at hM ⊢;clear hle lG HA;go_wp2;go_ret;exact ⟨rfl,hM⟩})
theorem tk (p:Option Addr) (c n:Nat) (xs:List aR) (A:List Lf) (k:Int) (w:World) (h:mP w (.slice p n c) xs A) (hA:aP w A) (k0:0<=k) (k1:k+A.length<=100000000) :
  Calls prog 38 #[.slice p n c,.int .i64 k] w fun e w'=>e=.returned (.int .i64 (k+A.length))/\Mk w w' A k:=by
 have zO:=h.len (fun x b a l hl=>hl.pos);obtain ⟨Ls,en,lL,eA,dE⟩:=h.at;have lG:=ae dE;have HA:=ae hA;have EA:=ae eA;have K1:k+(Ls.flatten.length:Int)<=100000000:=by rw [<-eA];exact k1
 have hn:n<=100000000:=by omega
 have LL:=ae lL;clear h dE hA eA en lL zO;go_enter func38,ntmps38;go_wp2
 go_loopw [1,5] (fun kk i wr=>∃ j:Nat,j<=n/\i=.int .i64 j/\kk=.int .i64 (k+(((Ls.take j).flatten.length:Nat):Int))/\Hid (Mk w wr (Ls.take j).flatten k)) (fun _ i _=>n-(intOf i).toNat)
 case atStart=>exact ⟨0,Nat.zero_le _,rfl,by simp,Mk.refl _ _⟩
 case round =>(
 obtain ⟨j,hj,rfl,rfl,hM⟩:=hrel;have hle:=aJ Ls j;by_cases aU:j<n;{
 have aV:(j:Int)<(n:Int):=by omega
 obtain ⟨b,o,x,l,rfl,hx,hl,hP,gO,dD⟩:=aa lG j aU;have gx:aP w (Ls.take j).flatten:=HA.sub (fun a ha=>by rw [aa EA];exact cM ha);have tX:aP w l:=HA.sub dD;have fP:aP wr l:=tX.mk hM gx;have Ie:=hP.mk hM gx;have re:(Ls.take (j+1)).flatten.length=(Ls.take j).flatten.length+l.length:=by rw [gO,List.length_append]
 have iK:k+((Ls.take j).flatten.length:Int)+(l.length:Int)<=100000000:=by have:=aJ Ls (j+1);omega
 have HT:=ae re;have Wq:Hid (∀ w',Mk wr w' l (k+((Ls.take j).flatten.length:Int))->Mk w w' (Ls.take (j+1)).flatten k):=by intro w' Ur;rw [gO];exact hM.trans Ur gx tX
 generalize hT:(Ls.take j).flatten.length=T at *;clear hT hx hl hP gO dD gx hM re tX;have Lg:0<=k+(T:Int):=by omega
 obtain ⟨q,d,lb,rfl,hd,CH⟩:=Ie;have HD:=ae hd;have vZ:=ae CH;clear hd CH;have hlen:k+(T:Int)+(2+(lb.length:Int))<=100000000:=by simp only [List.length_append,List.length_cons] at iK;omega
 clear iK;have ir:=ae fP;have Nr:Hid (Mk wr wr [] (k+(T:Int))):=Mk.refl _ _;clear fP;have Tc:aP wr (⟨b,o+j*3,.u64⟩::⟨b,o+j*3+1,.i64⟩::lb):=ir.mk (aa Nr) (ir.sub (by intro a ha;first | (simp at ha;done) | (simp only [List.mem_append,List.mem_cons,List.not_mem_nil,List.nil_append,or_false] at ha ⊢;grind)));obtain ⟨⟨m0,oF⟩,xY⟩:=Tc ⟨b,o+j*3,.u64⟩ (by simp);obtain ⟨⟨m1,jg⟩,vt⟩:=Tc ⟨b,o+j*3+1,.i64⟩ (by simp);dsimp only at oF xY jg vt;have hh2:wr.cell? ⟨b,o+j*3+2,none⟩=some (.slice q x.2.2.length d):=Nr.head (ir.sub (by intro a ha;first | (simp at ha;done) | (simp only [List.mem_append,List.mem_cons,List.not_mem_nil,List.nil_append,or_false] at ha ⊢;grind))) (aa HD);have Jy:Hid (Mk wr ((wr.setCell ⟨b,o+j*3,none⟩ (.int .u64 (k+(T:Int)))).setCell ⟨b,o+j*3+1,none⟩ (.int .i64 (k+(T:Int)+1))) (([]++[⟨b,o+j*3,.u64⟩])++[⟨b,o+j*3+1,.i64⟩]) (k+(T:Int))):=(Mk.set (Mk.set (aa Nr) (aa ir) (by intro a ha;first | (simp at ha;done) | (simp only [List.mem_append,List.mem_cons,List.not_mem_nil,List.nil_append,or_false] at ha ⊢;grind)) (b:=b) (o:=o+j*3) (kd:=.u64) (by simp) (K:=k+(T:Int)) (by simp)) (aa ir) (by intro a ha;first | (simp at ha;done) | (simp only [List.mem_append,List.mem_cons,List.not_mem_nil,List.nil_append,or_false] at ha ⊢;grind)) (b:=b) (o:=o+j*3+1) (kd:=.i64) (by simp) (K:=k+(T:Int)+1) (by simp;try omega));have Td:Hid (aP ((wr.setCell ⟨b,o+j*3,none⟩ (.int .u64 (k+(T:Int)))).setCell ⟨b,o+j*3+1,none⟩ (.int .i64 (k+(T:Int)+1))) lb):=(ir.sub (by intro a ha;simp [ha])).mk (aa Jy) (ir.sub (by intro a ha;first | (simp at ha;done) | (simp only [List.mem_append,List.mem_cons,List.not_mem_nil,List.nil_append,or_false] at ha ⊢;grind)));clear Tc;go_wp2_with fail;clear oF xY jg vt hh2;refine (oQ q d x.2.2.length (x.2.2) lb (k+(T:Int)+1+1) _ (vZ.mk (aa Jy) (ir.sub (by intro a ha;first | (simp at ha;done) | (simp only [List.mem_append,List.mem_cons,List.not_mem_nil,List.nil_append,or_false] at ha ⊢;grind)))) (aa Td) (by omega) (by omega)).mono ?_;rintro e v0 ⟨rfl,N0⟩;have WI:Hid (Mk wr v0 ((([]++[⟨b,o+j*3,.u64⟩])++[⟨b,o+j*3+1,.i64⟩])++lb) (k+(T:Int))):=Mk.call (aa Jy) N0 (aa ir) (by intro a ha;first | (simp at ha;done) | (simp only [List.mem_append,List.mem_cons,List.not_mem_nil,List.nil_append,or_false] at ha ⊢;grind)) (by intro a ha;simp [ha]) (by simp;try omega);clear N0 Jy Td;have G8:=ae (aa Wq _ (by simpa using aa WI));go_wp2;go_roundw
 case rel=>exact ⟨j+1,by omega,by go_num,by rw [aa HT];first | (simp;omega) | (congr 1;simp;omega),G8⟩
 case measure=>simp [intOf];omega}
 {
 have e:j=n:=by omega
 subst e;have e2:(Ls.take j).flatten=A:=by rw [<-aa LL,List.take_length];exact EA.symm
 rw [e2] at hM ⊢;clear hle lG HA;go_wp2;go_ret;exact ⟨rfl,hM⟩})
end Go.Proofs.YtmfjiolopcbcmaaGreatDoor
