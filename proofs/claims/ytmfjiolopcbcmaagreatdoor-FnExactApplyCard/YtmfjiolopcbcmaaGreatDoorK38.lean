import Derived.Test.YtmfjiolopcbcmaaGreatDoorLOw
namespace Go.Proofs.YtmfjiolopcbcmaaGreatDoor
set_option maxHeartbeats 3200000
set_option linter.unusedVariables false
set_option linter.unusedSimpArgs false
set_option maxRecDepth 100000
open Go.ChangeShapes Go.WideShapes Go.ChangeAt Go.RowKit Go.Proofs.Tryz
variable {A A2 l:List Lf} {a b:Nat} {k:Int} {v:Value} {w w':World} {xs:List (List Int)}
def aY (w:World) (A:List Lf) (k:Int):Prop:=∀ (i:Nat) (a:Lf),A[i]?=some a->w.cell? ⟨a.b,a.o,none⟩=some (.int a.k (Pn a.k (k+i)))
theorem aY.below (h:aY w A k) (hb:Below w.heap.size w w'):aY w' A k:=fun i a ha=>af (h i a ha) hb
theorem aY.app (h:aY w (A++A2) k):aY w A k/\aY w A2 (k+A.length):=by
 refine ⟨fun i a ha=>h i a ?_,fun i a ha=>?_⟩;{rw [List.getElem?_append_left (aM.1 ha).1];exact ha};{
 have:=h (A.length+i) a (by rw [List.getElem?_append_right (by omega)];simpa using ha);rw [this]
 congr 3
 push_cast
 omega}
theorem aY.cons {a:Lf} (h:aY w (a::A2) k):w.cell? ⟨a.b,a.o,none⟩=some (.int a.k (Pn a.k k))/\aY w A2 (k+1):=by
 have h1:=(aY.app (A:=[a]) (A2:=A2) (by simpa using h));refine ⟨?_,by simpa using h1.2⟩;have:=h1.1 0 a (by simp);simpa using this
theorem aY.flat {Ls:List (List Lf)} {j:Nat} (h:aY w Ls.flatten k) (gO:(Ls.take (j+1)).flatten=(Ls.take j).flatten++l):aY w l (k+(Ls.take j).flatten.length):=by
 have e:Ls.flatten=(Ls.take j).flatten++(l++(Ls.drop (j+1)).flatten):=by rw [<-List.append_assoc,<-gO,<-List.flatten_append,List.take_append_drop]
 rw [e] at h;exact h.app.2.app.1
theorem Mk.held (h:Mk w w' A k) (bf:(A.map fun a=>(a.b,a.o)).Nodup):aY w' A k:=h.val bf
theorem vX.below {x:Ev} (h:vX w x b a l) (hb:Below w.heap.size w w'):vX w' x b a l:=h.mk (Mk.fG hb 0) (aP.nil _)
theorem kJ.below {xs:List Ev} (h:kJ w v xs l) (hb:Below w.heap.size w w'):kJ w' v xs l:=kJ.mk h (Mk.fG hb 0) (aP.nil _)
theorem vV.below {x:aR} (h:vV w x b a l) (hb:Below w.heap.size w w'):vV w' x b a l:=h.mk (Mk.fG hb 0) (aP.nil _)
theorem mP.below {xs:List aR} (h:mP w v xs l) (hb:Below w.heap.size w w'):mP w' v xs l:=mP.mk h (Mk.fG hb 0) (aP.nil _)
theorem vW.below {x:aA} (h:vW w x b a l) (hb:Below w.heap.size w w'):vW w' x b a l:=h.mk (Mk.fG hb 0) (aP.nil _)
theorem mJ.below {xs:List aA} (h:mJ w v xs l) (hb:Below w.heap.size w w'):mJ w' v xs l:=mJ.mk h (Mk.fG hb 0) (aP.nil _)
theorem ig (p:Option Addr) (c n:Nat) (xs:List Int) (A:List Lf) (k:Int) (w:World) (h:qs (.slice p n c) xs A) (hA:aY w A k) (k0:0<=k) (k1:k+A.length<=100000000) :
  Calls prog 45 #[.slice p n c,.int .i64 k] w fun e w'=>e=.returned (.int .i64 (k+A.length))/\Below w.heap.size w w':=by
 have zO:=h.len (fun x b a l hl=>by rw [show l=_ from hl];simp);obtain ⟨Ls,en,lL,eA,dE⟩:=h.at;have lG:=ae dE;have HA:=ae (show aY w Ls.flatten k by rw [<-eA];exact hA);have EA:=ae eA;have K1:k+(Ls.flatten.length:Int)<=100000000:=by rw [<-eA];exact k1
 have hn:n<=100000000:=by omega
 have LL:=ae lL;go_enter func45,ntmps45;go_wp2
 go_loopw [1,5] (fun kk i wr=>∃ j:Nat,j<=n/\i=.int .i64 j/\kk=.int .i64 (k+(((Ls.take j).flatten.length:Nat):Int))/\Below w.heap.size w wr) (fun _ i _=>n-(intOf i).toNat)
 case atStart=>exact ⟨0,Nat.zero_le _,rfl,by simp,Below.refl _ _⟩
 case round =>(
 obtain ⟨j,hj,rfl,rfl,aE⟩:=hrel;have hle:=aJ Ls j;by_cases aU:j<n;{
 have aV:(j:Int)<(n:Int):=by omega
 obtain ⟨b,o,x,l,rfl,hx,hl,hP,gO,dD⟩:=aa lG j aU;have hh:=(HA.flat gO).below aE;have re:(Ls.take (j+1)).flatten.length=(Ls.take j).flatten.length+l.length:=by rw [gO,List.length_append]
 have iK:k+((Ls.take j).flatten.length:Int)+(l.length:Int)<=100000000:=by have:=aJ Ls (j+1);omega
 have HT:=ae re;generalize hT:(Ls.take j).flatten.length=T at *;have Lg:0<=k+(T:Int):=by omega
 obtain rfl:l=[⟨b,o+j,.u8⟩]:=by rw [show l=_ from hP,Nat.mul_one]
 have oF:wr.cell? ⟨b,o+j,none⟩=some (.int .u8 ((k+(T:Int)) % 256)):=hh.cons.1;have bm:(((k+(T:Int)) % 256) != ((k+(T:Int)) % 256))=false:=by simp
 have aC7:k+(T:Int)+1<=100000000:=by simpa using iK
 go_wp2;go_roundw
 case rel=>exact ⟨j+1,by omega,by go_num,by rw [aa HT];first | go_num | (simp;omega) | (congr 1;simp;omega),by first | exact aE | exact below_drewN aE _⟩
 case measure=>simp [intOf];omega}
 {
 have e:j=n:=by omega
 subst e;have e2:(Ls.take j).flatten=A:=by rw [<-aa LL,List.take_length];exact EA.symm
 rw [e2];go_wp2;go_ret;exact ⟨rfl,aE⟩})
theorem nJ (p:Option Addr) (c n:Nat) (xs:List Int) (A:List Lf) (k:Int) (w:World) (h:GW (.slice p n c) xs A) (hA:aY w A k) (k0:0<=k) (k1:k+A.length<=100000000) :
  Calls prog 88 #[.slice p n c,.int .i64 k] w fun e w'=>e=.returned (.int .i64 (k+A.length))/\Below w.heap.size w w':=by
 have zO:=h.len (fun x b a l hl=>by rw [show l=_ from hl];simp);obtain ⟨Ls,en,lL,eA,dE⟩:=h.at;have lG:=ae dE;have HA:=ae (show aY w Ls.flatten k by rw [<-eA];exact hA);have EA:=ae eA;have K1:k+(Ls.flatten.length:Int)<=100000000:=by rw [<-eA];exact k1
 have hn:n<=100000000:=by omega
 have LL:=ae lL;go_enter func88,ntmps88;go_wp2
 go_loopw [1,5] (fun kk i wr=>∃ j:Nat,j<=n/\i=.int .i64 j/\kk=.int .i64 (k+(((Ls.take j).flatten.length:Nat):Int))/\Below w.heap.size w wr) (fun _ i _=>n-(intOf i).toNat)
 case atStart=>exact ⟨0,Nat.zero_le _,rfl,by simp,Below.refl _ _⟩
 case round =>(
 obtain ⟨j,hj,rfl,rfl,aE⟩:=hrel;have hle:=aJ Ls j;by_cases aU:j<n;{
 have aV:(j:Int)<(n:Int):=by omega
 obtain ⟨b,o,x,l,rfl,hx,hl,hP,gO,dD⟩:=aa lG j aU;have hh:=(HA.flat gO).below aE;have re:(Ls.take (j+1)).flatten.length=(Ls.take j).flatten.length+l.length:=by rw [gO,List.length_append]
 have iK:k+((Ls.take j).flatten.length:Int)+(l.length:Int)<=100000000:=by have:=aJ Ls (j+1);omega
 have HT:=ae re;generalize hT:(Ls.take j).flatten.length=T at *;have Lg:0<=k+(T:Int):=by omega
 obtain rfl:l=[⟨b,o+j,.u64⟩]:=by rw [show l=_ from hP,Nat.mul_one]
 have oF:wr.cell? ⟨b,o+j,none⟩=some (.int .u64 (k+(T:Int))):=hh.cons.1;have bm:((k+(T:Int)) != (k+(T:Int)))=false:=by simp
 have aC7:k+(T:Int)+1<=100000000:=by simpa using iK
 go_wp2;go_roundw
 case rel=>exact ⟨j+1,by omega,by go_num,by rw [aa HT];first | go_num | (simp;omega) | (congr 1;simp;omega),by first | exact aE | exact below_drewN aE _⟩
 case measure=>simp [intOf];omega}
 {
 have e:j=n:=by omega
 subst e;have e2:(Ls.take j).flatten=A:=by rw [<-aa LL,List.take_length];exact EA.symm
 rw [e2];go_wp2;go_ret;exact ⟨rfl,aE⟩})
theorem pj (p:Option Addr) (c n:Nat) (xs:List Ev) (A:List Lf) (k:Int) (w:World) (h:kJ w (.slice p n c) xs A) (hA:aY w A k) (k0:0<=k) (k1:k+A.length<=100000000) :
  Calls prog 47 #[.slice p n c,.int .i64 k] w fun e w'=>e=.returned (.int .i64 (k+A.length))/\Below w.heap.size w w':=by
 have zO:=h.len (fun x b a l hl=>hl.pos);obtain ⟨Ls,en,lL,eA,dE⟩:=h.at;have lG:=ae dE;have HA:=ae (show aY w Ls.flatten k by rw [<-eA];exact hA);have EA:=ae eA;have K1:k+(Ls.flatten.length:Int)<=100000000:=by rw [<-eA];exact k1
 have hn:n<=100000000:=by omega
 have LL:=ae lL;clear h dE hA eA en lL zO;go_enter func47,ntmps47;go_wp2
 go_loopw [1,5] (fun kk i wr=>∃ j:Nat,j<=n/\i=.int .i64 j/\kk=.int .i64 (k+(((Ls.take j).flatten.length:Nat):Int))/\Below w.heap.size w wr) (fun _ i _=>n-(intOf i).toNat)
 case atStart=>exact ⟨0,Nat.zero_le _,rfl,by simp,Below.refl _ _⟩
 case round =>(
 obtain ⟨j,hj,rfl,rfl,aE⟩:=hrel;have hle:=aJ Ls j;by_cases aU:j<n;{
 have aV:(j:Int)<(n:Int):=by omega
 obtain ⟨b,o,x,l,rfl,hx,hl,hP,gO,dD⟩:=aa lG j aU;have hh:=(HA.flat gO).below aE;have re:(Ls.take (j+1)).flatten.length=(Ls.take j).flatten.length+l.length:=by rw [gO,List.length_append]
 have iK:k+((Ls.take j).flatten.length:Int)+(l.length:Int)<=100000000:=by have:=aJ Ls (j+1);omega
 have HT:=ae re;generalize hT:(Ls.take j).flatten.length=T at *;clear hT hx hl gO dD re;have Lg:0<=k+(T:Int):=by omega
 have Ie:=hP.below aE;obtain ⟨q,d,lb,rfl,hd,CH⟩:=Ie;have HD:=ae hd;have vZ:=ae CH;clear hd CH;have hlen:k+(T:Int)+(1+(lb.length:Int))<=100000000:=by simp only [List.length_append,List.length_cons] at iK;omega
 clear iK hP;have oF:wr.cell? ⟨b,o+j*2,none⟩=some (.int .i64 (k+(T:Int))):=(aY.cons hh).1;have t0:=(aY.cons hh).2;have s1:aY wr lb (k+(T:Int)+1):=t0;have HS:=ae (s1);have tK:=ae (oF);have W0:=ae (Below.refl wr.heap.size wr);clear hh t0 s1 oF;have oF:=af tK W0;have pW:((k+(T:Int)) != (k+(T:Int)))=false:=by simp
 have hd1:=af HD W0;go_wp2_with fail;clear oF pW hd1;refine (ig q d x.2.length (x.2) lb (k+(T:Int)+1) _ vZ (HS.below W0) (by omega) (by omega)).mono ?_;rintro e v0 ⟨rfl,N0⟩;have WH:=ae (ai W0 N0);have RI:¬ k+(T:Int)+1+(lb.length:Int)<0:=by omega
 clear N0;have b1:=ai aE WH;clear aE;go_wp2;go_roundw
 case rel=>exact ⟨j+1,by omega,by go_num,by rw [aa HT];first | go_num | (simp;omega) | (congr 1;simp;omega),by first | exact b1 | exact below_drewN b1 _⟩
 case measure=>simp [intOf];omega}
 {
 have e:j=n:=by omega
 subst e;have e2:(Ls.take j).flatten=A:=by rw [<-aa LL,List.take_length];exact EA.symm
 rw [e2];clear hle lG HA;go_wp2;go_ret;exact ⟨rfl,aE⟩})
theorem tB (p:Option Addr) (c n:Nat) (xs:List aR) (A:List Lf) (k:Int) (w:World) (h:mP w (.slice p n c) xs A) (hA:aY w A k) (k0:0<=k) (k1:k+A.length<=100000000) :
  Calls prog 43 #[.slice p n c,.int .i64 k] w fun e w'=>e=.returned (.int .i64 (k+A.length))/\Below w.heap.size w w':=by
 have zO:=h.len (fun x b a l hl=>hl.pos);obtain ⟨Ls,en,lL,eA,dE⟩:=h.at;have lG:=ae dE;have HA:=ae (show aY w Ls.flatten k by rw [<-eA];exact hA);have EA:=ae eA;have K1:k+(Ls.flatten.length:Int)<=100000000:=by rw [<-eA];exact k1
 have hn:n<=100000000:=by omega
 have LL:=ae lL;clear h dE hA eA en lL zO;go_enter func43,ntmps43;go_wp2
 go_loopw [1,5] (fun kk i wr=>∃ j:Nat,j<=n/\i=.int .i64 j/\kk=.int .i64 (k+(((Ls.take j).flatten.length:Nat):Int))/\Below w.heap.size w wr) (fun _ i _=>n-(intOf i).toNat)
 case atStart=>exact ⟨0,Nat.zero_le _,rfl,by simp,Below.refl _ _⟩
 case round =>(
 obtain ⟨j,hj,rfl,rfl,aE⟩:=hrel;have hle:=aJ Ls j;by_cases aU:j<n;{
 have aV:(j:Int)<(n:Int):=by omega
 obtain ⟨b,o,x,l,rfl,hx,hl,hP,gO,dD⟩:=aa lG j aU;have hh:=(HA.flat gO).below aE;have re:(Ls.take (j+1)).flatten.length=(Ls.take j).flatten.length+l.length:=by rw [gO,List.length_append]
 have iK:k+((Ls.take j).flatten.length:Int)+(l.length:Int)<=100000000:=by have:=aJ Ls (j+1);omega
 have HT:=ae re;generalize hT:(Ls.take j).flatten.length=T at *;clear hT hx hl gO dD re;have Lg:0<=k+(T:Int):=by omega
 have Ie:=hP.below aE;obtain ⟨q,d,lb,rfl,hd,CH⟩:=Ie;have HD:=ae hd;have vZ:=ae CH;clear hd CH;have hlen:k+(T:Int)+(2+(lb.length:Int))<=100000000:=by simp only [List.length_append,List.length_cons] at iK;omega
 clear iK hP;have oF:wr.cell? ⟨b,o+j*3,none⟩=some (.int .u64 (k+(T:Int))):=(aY.cons hh).1;have t0:=(aY.cons hh).2;have jg:wr.cell? ⟨b,o+j*3+1,none⟩=some (.int .i64 (k+(T:Int)+1)):=(aY.cons t0).1;have t1:=(aY.cons t0).2;have s2:aY wr lb (k+(T:Int)+1+1):=t1;have HS:=ae (s2);have tK:=ae (ag oF (jg));have W0:=ae (Below.refl wr.heap.size wr);clear hh t0 t1 s2 oF jg;have oF:=af tK.1 W0;have pW:((k+(T:Int)) != (k+(T:Int)))=false:=by simp
 have jg:=af tK.2 W0;have UG:((k+(T:Int)+1) != (k+(T:Int)+1))=false:=by simp
 have hd2:=af HD W0;go_wp2_with fail;clear oF pW jg UG hd2;have lv0:=vZ.below W0;refine (pj q d x.2.2.length (x.2.2) lb (k+(T:Int)+1+1) _ lv0 (HS.below W0) (by omega) (by omega)).mono ?_;rintro e v0 ⟨rfl,N0⟩;have WH:=ae (ai W0 N0);have RI:¬ k+(T:Int)+1+1+(lb.length:Int)<0:=by omega
 clear N0;have b1:=ai aE WH;clear aE;go_wp2;go_roundw
 case rel=>exact ⟨j+1,by omega,by go_num,by rw [aa HT];first | go_num | (simp;omega) | (congr 1;simp;omega),by first | exact b1 | exact below_drewN b1 _⟩
 case measure=>simp [intOf];omega}
 {
 have e:j=n:=by omega
 subst e;have e2:(Ls.take j).flatten=A:=by rw [<-aa LL,List.take_length];exact EA.symm
 rw [e2];clear hle lG HA;go_wp2;go_ret;exact ⟨rfl,aE⟩})
theorem sU (p q:Option Addr) (c d n:Nat) (l:List Int) (en:Hid (l.length=n)) (w:World) (h1:iA w (.slice p n c) l) (h2:iA w (.slice q n d) l) (hn:n<=1048576) :
  Calls prog 134 #[.slice p n c,.slice q n d] w fun r w'=>r=.returned (.bool true)/\Below w.heap.size w w':=by
 have HR:=ae fun (w':World) (hb:Below w.heap.size w w')=>ag (h1.below hb) (h2.below hb);have bm:((n:Int) != (n:Int))=false:=by simp
 go_enter func134,ntmps134;go_wp2
 go_loopw [5] (fun i wr=>∃ k:Nat,k<=n/\i=.int .i64 k/\Below w.heap.size w wr) (fun i _=>n-(intOf i).toNat)
 case atStart=>exact ⟨0,Nat.zero_le _,rfl,Below.refl _ _⟩
 case round =>(
 obtain ⟨k,hk,rfl,aE⟩:=hrel;by_cases aU:k<n;{
 have i1:(k:Int)<(n:Int):=by omega
 have bH:k<l.length:=by rw [aa en];exact aU
 have key:∀ (p:Option Addr) (c:Nat),iA wr (.slice p n c) l->∃ b o,p=some ⟨b,o,none⟩/\wr.cell? ⟨b,o+k,none⟩=some (.int .u64 (l.getD k 0)):=fun p c h=>by obtain ⟨p',c',ev,hd⟩:=h;simp only [Value.slice.injEq] at ev;obtain ⟨rfl,-,-⟩:=ev;rcases hd with h0 | ⟨b,o,h1,h2⟩;{rw [h0] at bH;simp at bH};{exact ⟨b,o,h1,h2 k bH⟩}
 obtain ⟨b1,o1,rfl,g1⟩:=key p c (aa HR _ aE).1;obtain ⟨b2,o2,rfl,g2⟩:=key q d (aa HR _ aE).2;obtain ⟨y,ey⟩:=aZ (l.getD k 0);rw [ey] at g1 g2;have hb:(y != y)=false:=by simp
 go_wp2
 go_quiet (fail)
 go_wp2;go_roundw
 case rel=>exact ⟨k+1,by omega,by go_num,below_drewN aE _⟩
 case measure=>simp [intOf];omega}
 {
 have bH:¬ (k:Int)<(n:Int):=by omega
 go_wp2;go_ret;exact ⟨rfl,aE⟩})
theorem Iq (K:Int) (p q:Option Addr) (c d n:Nat) (P:List Int) (en:Hid (P.length=n)) (w:World) (h1:Rd w (.slice p n c) P) (h2:Rd w (.slice q n d) P) (hn:n<=1048576) :
  Calls prog 86 #[.agg #[.int .i64 K,.slice p n c],.agg #[.int .i64 K,.slice q n d]] w fun r w'=>r=.returned (.bool true)/\Below w.heap.size w w':=by
 have b1:Below w.heap.size w ((w.alloc (.cells #[.int .i64 K,.slice p n c] 147)).alloc (.cells #[.int .i64 K,.slice q n d] 147)):=(ar.alloc ay _).alloc (by simp) _;have HR:=ae (ag (h1.below b1) (h2.below b1));have e1:(K != K)=false:=by simp
 go_enter func86,ntmps86;go_wp2_with fail;refine (iM p q c d n P en _ (by exact HR.1) (by exact HR.2) (by omega)).mono ?_;rintro r w1 ⟨rfl,aK⟩;have b2:=ai b1 aK;go_wp2;go_ret;exact ⟨rfl,b2⟩
theorem vI (p q:Option Addr) (c d n:Nat) (l:List Ev) (en:Hid (l.length=n)) (w:World) (h1:nS w (.slice p n c) l) (h2:nS w (.slice q n d) l) (hn:n<=1048576) (ij:Hid (∀ y∈l,y.2.length<=1048576)) :
  Calls prog 37 #[.slice p n c,.slice q n d] w fun r w'=>r=.returned (.bool true)/\Below w.heap.size w w':=by
 have HR:=ae fun (w':World) (hb:Below w.heap.size w w')=>ag (h1.below hb) (h2.below hb);have bm:((n:Int) != (n:Int))=false:=by simp
 go_enter func37,ntmps37;go_wp2_with fail
 go_loopw [5] (fun i wr=>∃ k:Nat,k<=n/\i=.int .i64 k/\Below w.heap.size w wr) (fun i _=>n-(intOf i).toNat)
 case atStart=>exact ⟨0,Nat.zero_le _,rfl,Below.refl _ _⟩
 case round =>(
 obtain ⟨k,hk,rfl,aE⟩:=hrel;by_cases aU:k<n;{
 have i1:(k:Int)<(n:Int):=by omega
 have bH:k<l.length:=by rw [aa en];exact aU
 obtain ⟨y,hy⟩:∃ y,l[k]?=some y:=⟨_,aH bH⟩;have du:=aa ij y (aL hy);obtain ⟨K,P⟩:=y;have key:∀ (p:Option Addr) (c:Nat),nS wr (.slice p n c) l->∃ b o,p=some ⟨b,o,none⟩/\wr.cell? ⟨b,o+k*2,none⟩=some (.int .i64 K)/\∃ u,wr.cell? ⟨b,o+k*2+1,none⟩=some u/\Rd wr u P:=fun p c h=>by obtain ⟨p',c',ev,hd⟩:=h;simp only [Value.slice.injEq] at ev;obtain ⟨rfl,-,-⟩:=ev;rcases hd with h0 | ⟨b,o,h1,h2⟩;{rw [h0] at bH;simp at bH};{exact ⟨b,o,h1,h2 k _ hy⟩}
 obtain ⟨b1,o1,rfl,z1,u1,z2,r1⟩:=key p c (aa HR _ aE).1;obtain ⟨b2,o2,rfl,x1,u2,x2,r2⟩:=key q d (aa HR _ aE).2;obtain ⟨p1,c1,rfl,-⟩:=id r1;obtain ⟨p2,c2,rfl,-⟩:=id r2;obtain ⟨m,em⟩:=aZ P.length;rw [em] at r1 r2 z2 x2;have hm:m<=1048576:=by rw [<-em];exact du
 have EM:=ae em;have qt:=ae (ag r1 r2);have K0:=ae (ag z1 (ag z2 (ag x1 x2)));go_wp2_with fail;refine wp_region_noPanic ?_;refine wp_region_held_drew (S:=fun w'=>w'.cell? ⟨b1,o1+k*2,none⟩=some (.int .i64 K)/\w'.cell? ⟨b1,o1+k*2+1,none⟩=some (.slice p1 m c1)/\w'.cell? ⟨b2,o2+k*2,none⟩=some (.int .i64 K)/\w'.cell? ⟨b2,o2+k*2+1,none⟩=some (.slice p2 m c2)) (by kernel_rfl) (by exact K0) (fun hS=>?_);refine fL 0 1 2 3 4 5 6 7 hS ?_;refine bR 8 fun KK hK=>?_;refine oy (Iq K p1 p2 c1 c2 m P EM _ (qt.1.below ar.drew) (qt.2.below ar.drew) hm) ?_;rintro r w2 ⟨rfl,aG⟩;refine ⟨_,rfl,?_⟩;have bu:Below wr.heap.size wr w2:=ai (Below.refl wr.heap.size wr).drew aG;refine bM hK (by obtain ⟨k0,k1,k2,k3⟩:=aa K0;exact ⟨af k0 bu,af k1 bu,af k2 bu,af k3 bu⟩) fun hS=>?_;refine tn 9 hS ?_;refine wpAnyH_done (by kernel_rfl) ?_ _;refine bc ?_;have b2:=ai aE bu;go_wp2;go_roundw
 case rel=>exact ⟨k+1,by omega,by go_num,b2⟩
 case measure=>simp [intOf];omega}
 {
 have bH:¬ (k:Int)<(n:Int):=by omega
 go_wp2;go_ret;exact ⟨rfl,aE⟩})
theorem Dg (I D:Int) (p q:Option Addr) (c d n:Nat) (Q:List Ev) (en:Hid (Q.length=n)) (w:World) (h1:nS w (.slice p n c) Q) (h2:nS w (.slice q n d) Q) (hn:n<=1048576) (ij:Hid (∀ y∈Q,y.2.length<=1048576)) :
  Calls prog 84 #[.agg #[.int .u64 I,.int .i64 D,.slice p n c],.agg #[.int .u64 I,.int .i64 D,.slice q n d]] w fun r w'=>r=.returned (.bool true)/\Below w.heap.size w w':=by
 have b1:Below w.heap.size w ((w.alloc (.cells #[.int .u64 I,.int .i64 D,.slice p n c] 95)).alloc (.cells #[.int .u64 I,.int .i64 D,.slice q n d] 95)):=(ar.alloc ay _).alloc (by simp) _;have HR:=ae (ag (h1.below b1) (h2.below b1));have e1:(I != I)=false:=by simp
 have e2:(D != D)=false:=by simp
 go_enter func84,ntmps84;go_wp2_with fail;refine (vI p q c d n Q en _ (by exact HR.1) (by exact HR.2) hn ij).mono ?_;rintro r w1 ⟨rfl,aK⟩;have b2:=ai b1 aK;go_wp2;go_ret;exact ⟨rfl,b2⟩
theorem Ao (p q:Option Addr) (c d n:Nat) (l:List aR) (en:Hid (l.length=n)) (w:World) (h1:nR w (.slice p n c) l) (h2:nR w (.slice q n d) l) (hn:n<=1048576) (ij:Hid (∀ y∈l,y.2.2.length<=1048576/\∀ e∈y.2.2,e.2.length<=1048576)) :
  Calls prog 33 #[.slice p n c,.slice q n d] w fun r w'=>r=.returned (.bool true)/\Below w.heap.size w w':=by
 have HR:=ae fun (w':World) (hb:Below w.heap.size w w')=>ag (h1.below hb) (h2.below hb);have bm:((n:Int) != (n:Int))=false:=by simp
 go_enter func33,ntmps33;go_wp2_with fail
 go_loopw [5] (fun i wr=>∃ k:Nat,k<=n/\i=.int .i64 k/\Below w.heap.size w wr) (fun i _=>n-(intOf i).toNat)
 case atStart=>exact ⟨0,Nat.zero_le _,rfl,Below.refl _ _⟩
 case round =>(
 obtain ⟨k,hk,rfl,aE⟩:=hrel;by_cases aU:k<n;{
 have i1:(k:Int)<(n:Int):=by omega
 have bH:k<l.length:=by rw [aa en];exact aU
 obtain ⟨y,hy⟩:∃ y,l[k]?=some y:=⟨_,aH bH⟩;have du:=aa ij y (aL hy);obtain ⟨I,D,Q⟩:=y;have key:∀ (p:Option Addr) (c:Nat),nR wr (.slice p n c) l->∃ b o,p=some ⟨b,o,none⟩/\wr.cell? ⟨b,o+k*3,none⟩=some (.int .u64 I)/\wr.cell? ⟨b,o+k*3+1,none⟩=some (.int .i64 D)/\∃ u,wr.cell? ⟨b,o+k*3+2,none⟩=some u/\nS wr u Q:=fun p c h=>by obtain ⟨p',c',ev,hd⟩:=h;simp only [Value.slice.injEq] at ev;obtain ⟨rfl,-,-⟩:=ev;rcases hd with h0 | ⟨b,o,h1,h2⟩;{rw [h0] at bH;simp at bH};{exact ⟨b,o,h1,h2 k _ hy⟩}
 obtain ⟨b1,o1,rfl,z1,z2,u1,z3,r1⟩:=key p c (aa HR _ aE).1;obtain ⟨b2,o2,rfl,x1,x2,u2,x3,r2⟩:=key q d (aa HR _ aE).2;obtain ⟨p1,c1,rfl,-⟩:=id r1;obtain ⟨p2,c2,rfl,-⟩:=id r2;obtain ⟨m,em⟩:=aZ Q.length;rw [em] at r1 r2 z3 x3;have hm:m<=1048576:=by rw [<-em];exact du.1
 have EM:=ae em;have HEL:Hid (∀ y∈Q,y.2.length<=1048576):=du.2;have qt:=ae (ag r1 r2);have K0:=ae (ag z1 (ag z2 (ag z3 (ag x1 (ag x2 x3)))));go_wp2_with fail;refine wp_region_noPanic ?_;refine wp_region_held_drew (S:=fun w'=>w'.cell? ⟨b1,o1+k*3,none⟩=some (.int .u64 I)/\w'.cell? ⟨b1,o1+k*3+1,none⟩=some (.int .i64 D)/\w'.cell? ⟨b1,o1+k*3+2,none⟩=some (.slice p1 m c1)/\w'.cell? ⟨b2,o2+k*3,none⟩=some (.int .u64 I)/\w'.cell? ⟨b2,o2+k*3+1,none⟩=some (.int .i64 D)/\w'.cell? ⟨b2,o2+k*3+2,none⟩=some (.slice p2 m c2)) (by kernel_rfl) (by exact K0) (fun hS=>?_);refine fL 0 1 2 3 4 5 6 7 hS ?_;refine bR 8 fun KK hK=>?_;refine oy (Dg I D p1 p2 c1 c2 m Q EM _ (qt.1.below ar.drew) (qt.2.below ar.drew) hm HEL) ?_;rintro r w2 ⟨rfl,aG⟩;refine ⟨_,rfl,?_⟩;have bu:Below wr.heap.size wr w2:=ai (Below.refl wr.heap.size wr).drew aG;refine bM hK (by obtain ⟨k0,k1,k2,k3,k4,k5⟩:=aa K0;exact ⟨af k0 bu,af k1 bu,af k2 bu,af k3 bu,af k4 bu,af k5 bu⟩) fun hS=>?_;refine tn 9 hS ?_;refine wpAnyH_done (by kernel_rfl) ?_ _;refine bc ?_;have b2:=ai aE bu;go_wp2;go_roundw
 case rel=>exact ⟨k+1,by omega,by go_num,b2⟩
 case measure=>simp [intOf];omega}
 {
 have bH:¬ (k:Int)<(n:Int):=by omega
 go_wp2;go_ret;exact ⟨rfl,aE⟩})
theorem LY (ow mo ep ge:Int) (pp pv ph pu qp qv qh qu:Option Addr) (a1 a2 a3 a4 d1 d2 d3 d4 n1 n2 n3 n4:Nat) (P V H U:List Int) (e1:Hid (P.length=n1)) (e2:Hid (V.length=n2)) (e3:Hid (H.length=n3)) (e4:Hid (U.length=n4)) (w:World)
  (h1:Rd w (.slice pp n1 a1) P/\Rd w (.slice pv n2 a2) V/\iA w (.slice ph n3 a3) H/\iA w (.slice pu n4 a4) U) (h2:Rd w (.slice qp n1 d1) P/\Rd w (.slice qv n2 d2) V/\iA w (.slice qh n3 d3) H/\iA w (.slice qu n4 d4) U) (m1:n1<=1048576) (m2:n2<=1048576) (m3:n3<=1048576) (m4:n4<=1048576) :
  Calls prog 85 #[Ey (.slice pp n1 a1) (.slice pv n2 a2) ow mo (.slice ph n3 a3) ep ge (.slice pu n4 a4),Ey (.slice qp n1 d1) (.slice qv n2 d2) ow mo (.slice qh n3 d3) ep ge (.slice qu n4 d4)] w fun r w'=>r=.returned (.bool true)/\Below w.heap.size w w':=by
 obtain ⟨W,hW⟩:=ax ((w.alloc (.cells #[.slice pp n1 a1,.slice pv n2 a2,.int .u64 ow,.int .i64 mo,.slice ph n3 a3,.int .u64 ep,.int .u64 ge,.slice pu n4 a4] 103)).alloc (.cells #[.slice qp n1 d1,.slice qv n2 d2,.int .u64 ow,.int .i64 mo,.slice qh n3 d3,.int .u64 ep,.int .u64 ge,.slice qu n4 d4] 103));have bW:Below w.heap.size w W:=by rw [hW];exact (ar.alloc ay _).alloc (by simp) _
 have HR:=ae fun (w':World) (hb:Below w.heap.size w w')=>ag (ag (h1.1.below hb) (ag (h1.2.1.below hb) (ag (h1.2.2.1.below hb) (h1.2.2.2.below hb)))) (ag (h2.1.below hb) (ag (h2.2.1.below hb) (ag (h2.2.2.1.below hb) (h2.2.2.2.below hb))));have k0:W.cell? ⟨w.heap.size,0,none⟩=some (.slice pp n1 a1):=by rw [hW];simp
 have k1:W.cell? ⟨w.heap.size,1,none⟩=some (.slice pv n2 a2):=by rw [hW];simp
 have k2:W.cell? ⟨w.heap.size,2,none⟩=some (.int .u64 ow):=by rw [hW];simp
 have k3:W.cell? ⟨w.heap.size,3,none⟩=some (.int .i64 mo):=by rw [hW];simp
 have k4:W.cell? ⟨w.heap.size,4,none⟩=some (.slice ph n3 a3):=by rw [hW];simp
 have k5:W.cell? ⟨w.heap.size,5,none⟩=some (.int .u64 ep):=by rw [hW];simp
 have k6:W.cell? ⟨w.heap.size,6,none⟩=some (.int .u64 ge):=by rw [hW];simp
 have k7:W.cell? ⟨w.heap.size,7,none⟩=some (.slice pu n4 a4):=by rw [hW];simp
 have j0:W.cell? ⟨w.heap.size+1,0,none⟩=some (.slice qp n1 d1):=by rw [hW];simp
 have j1:W.cell? ⟨w.heap.size+1,1,none⟩=some (.slice qv n2 d2):=by rw [hW];simp
 have j2:W.cell? ⟨w.heap.size+1,2,none⟩=some (.int .u64 ow):=by rw [hW];simp
 have j3:W.cell? ⟨w.heap.size+1,3,none⟩=some (.int .i64 mo):=by rw [hW];simp
 have j4:W.cell? ⟨w.heap.size+1,4,none⟩=some (.slice qh n3 d3):=by rw [hW];simp
 have j5:W.cell? ⟨w.heap.size+1,5,none⟩=some (.int .u64 ep):=by rw [hW];simp
 have j6:W.cell? ⟨w.heap.size+1,6,none⟩=some (.int .u64 ge):=by rw [hW];simp
 have j7:W.cell? ⟨w.heap.size+1,7,none⟩=some (.slice qu n4 d4):=by rw [hW];simp
 have q1:(ow != ow)=false:=by simp
 have q2:(mo != mo)=false:=by simp
 have q3:(ep != ep)=false:=by simp
 have q4:(ge != ge)=false:=by simp
 go_enter func85,ntmps85;go_wp2_with fail;rw [<-hW];refine (iM pp qp a1 d1 n1 P e1 _ (aa HR _ bW).1.1 (aa HR _ bW).2.1 (by omega)).mono ?_;rintro r w1 ⟨rfl,aK⟩;have b1:=ai bW aK;replace k0:=af k0 aK;replace k1:=af k1 aK;replace k2:=af k2 aK;replace k3:=af k3 aK;replace k4:=af k4 aK;replace k5:=af k5 aK;replace k6:=af k6 aK;replace k7:=af k7 aK;replace j0:=af j0 aK;replace j1:=af j1 aK;replace j2:=af j2 aK;replace j3:=af j3 aK;replace j4:=af j4 aK;replace j5:=af j5 aK;replace j6:=af j6 aK;replace j7:=af j7 aK;go_wp2_with fail;refine (iM pv qv a2 d2 n2 V e2 _ (aa HR _ b1).1.2.1 (aa HR _ b1).2.2.1 (by omega)).mono ?_;rintro r w2 ⟨rfl,aG⟩;have b2:=ai b1 aG;replace k0:=af k0 aG;replace k1:=af k1 aG;replace k2:=af k2 aG;replace k3:=af k3 aG;replace k4:=af k4 aG;replace k5:=af k5 aG;replace k6:=af k6 aG;replace k7:=af k7 aG;replace j0:=af j0 aG;replace j1:=af j1 aG;replace j2:=af j2 aG;replace j3:=af j3 aG;replace j4:=af j4 aG;replace j5:=af j5 aG;replace j6:=af j6 aG;replace j7:=af j7 aG;go_wp2_with fail;refine (sU ph qh a3 d3 n3 H e3 _ (aa HR _ b2).1.2.2.1 (aa HR _ b2).2.2.2.1 m3).mono ?_;rintro r w3 ⟨rfl,cX⟩;have b3:=ai b2 cX;replace k0:=af k0 cX;replace k1:=af k1 cX;replace k2:=af k2 cX;replace k3:=af k3 cX;replace k4:=af k4 cX;replace k5:=af k5 cX;replace k6:=af k6 cX;replace k7:=af k7 cX;replace j0:=af j0 cX;replace j1:=af j1 cX;replace j2:=af j2 cX;replace j3:=af j3 cX;replace j4:=af j4 cX;replace j5:=af j5 cX;replace j6:=af j6 cX;replace j7:=af j7 cX;go_wp2_with fail;refine (sU pu qu a4 d4 n4 U e4 _ (aa HR _ b3).1.2.2.2 (aa HR _ b3).2.2.2.2 m4).mono ?_;rintro r w4 ⟨rfl,fk⟩;have b4:=ai b3 fk;go_wp2;go_ret;exact ⟨rfl,b4⟩
theorem Io (p q:Option Addr) (c d n:Nat) (l:List aA) (en:Hid (l.length=n)) (w:World) (h1:jB w (.slice p n c) l) (h2:jB w (.slice q n d) l) (hn:n<=1048576) (ij:Hid (∀ y∈l,y.path.length<=1048576/\y.value.length<=1048576/\y.holders.length<=1048576/\y.watchers.length<=1048576)) :
  Calls prog 34 #[.slice p n c,.slice q n d] w fun r w'=>r=.returned (.bool true)/\Below w.heap.size w w':=by
 have HR:=ae fun (w':World) (hb:Below w.heap.size w w')=>ag (h1.below hb) (h2.below hb);have bm:((n:Int) != (n:Int))=false:=by simp
 go_enter func34,ntmps34;go_wp2_with fail
 go_loopw [5] (fun i wr=>∃ k:Nat,k<=n/\i=.int .i64 k/\Below w.heap.size w wr) (fun i _=>n-(intOf i).toNat)
 case atStart=>exact ⟨0,Nat.zero_le _,rfl,Below.refl _ _⟩
 case round =>(
 obtain ⟨k,hk,rfl,aE⟩:=hrel;by_cases aU:k<n;{
 have i1:(k:Int)<(n:Int):=by omega
 have bH:k<l.length:=by rw [aa en];exact aU
 obtain ⟨y,hy⟩:∃ y,l[k]?=some y:=⟨_,aH bH⟩;have du:=aa ij y (aL hy);obtain ⟨b1,o1,rfl,hA⟩:=(aa HR _ aE).1.at (by omega);obtain ⟨b2,o2,rfl,hB⟩:=(aa HR _ aE).2.at (by omega);obtain ⟨P1,V1,H1,U1,na⟩:=hA k y hy;obtain ⟨P2,V2,H2,U2,nb⟩:=hB k y hy;obtain ⟨pp,a1,n1,rfl,e1⟩:=na.r0.ed;obtain ⟨pv,a2,n2,rfl,e2⟩:=na.r1.ed;obtain ⟨ph,a3,n3,rfl,e3⟩:=na.r4.ed;obtain ⟨pu,a4,n4,rfl,e4⟩:=na.r7.ed;obtain ⟨qp,d1,n1',rfl,e1'⟩:=nb.r0.ed;obtain ⟨qv,d2,n2',rfl,e2'⟩:=nb.r1.ed;obtain ⟨qh,d3,n3',rfl,e3'⟩:=nb.r4.ed;obtain ⟨qu,d4,n4',rfl,e4'⟩:=nb.r7.ed;obtain rfl:n1=n1':=e1.symm.trans e1';obtain rfl:n2=n2':=e2.symm.trans e2';obtain rfl:n3=n3':=e3.symm.trans e3';obtain rfl:n4=n4':=e4.symm.trans e4';have m1:n1<=1048576:=by rw [<-aa e1];exact du.1
 have m2:n2<=1048576:=by rw [<-aa e2];exact du.2.1
 have m3:n3<=1048576:=by rw [<-aa e3];exact du.2.2.1
 have m4:n4<=1048576:=by rw [<-aa e4];exact du.2.2.2
 have HA:=ae (ag na.r0 (ag na.r1 (ag na.r4 na.r7)));have HB:=ae (ag nb.r0 (ag nb.r1 (ag nb.r4 nb.r7)));obtain ⟨z0,z1,z2,z3,z4,z5,z6,z7,-,-,-,-,-⟩:=na;obtain ⟨x0,x1,x2,x3,x4,x5,x6,x7,-,-,-,-,-⟩:=nb;obtain ⟨ow,mo,ep,ge,g1,g2,g3,g4⟩:∃ a b c d,y.owner=a/\y.mode=b/\y.aC=c/\y.gen=d:=⟨_,_,_,_,rfl,rfl,rfl,rfl⟩;rw [g1] at z2 x2;rw [g2] at z3 x3;rw [g3] at z5 x5;rw [g4] at z6 x6;have K0:=ae (ag z0 (ag z1 (ag z2 (ag z3 (ag z4 (ag z5 (ag z6 (ag z7 (ag x0 (ag x1 (ag x2 (ag x3 (ag x4 (ag x5 (ag x6 x7)))))))))))))));go_wp2_with fail;refine wp_region_noPanic ?_;refine wp_region_held_drew (S:=fun w'=>w'.cell? ⟨b1,o1+k*8,none⟩=some (.slice pp n1 a1)/\w'.cell? ⟨b1,o1+k*8+1,none⟩=some (.slice pv n2 a2)/\w'.cell? ⟨b1,o1+k*8+2,none⟩=some (.int .u64 ow)/\w'.cell? ⟨b1,o1+k*8+3,none⟩=some (.int .i64 mo)/\w'.cell? ⟨b1,o1+k*8+4,none⟩=some (.slice ph n3 a3)/\w'.cell? ⟨b1,o1+k*8+5,none⟩=some (.int .u64 ep)/\w'.cell? ⟨b1,o1+k*8+6,none⟩=some (.int .u64 ge)/\w'.cell? ⟨b1,o1+k*8+7,none⟩=some (.slice pu n4 a4)/\w'.cell? ⟨b2,o2+k*8,none⟩=some (.slice qp n1 d1)/\w'.cell? ⟨b2,o2+k*8+1,none⟩=some (.slice qv n2 d2)/\w'.cell? ⟨b2,o2+k*8+2,none⟩=some (.int .u64 ow)/\w'.cell? ⟨b2,o2+k*8+3,none⟩=some (.int .i64 mo)/\w'.cell? ⟨b2,o2+k*8+4,none⟩=some (.slice qh n3 d3)/\w'.cell? ⟨b2,o2+k*8+5,none⟩=some (.int .u64 ep)/\w'.cell? ⟨b2,o2+k*8+6,none⟩=some (.int .u64 ge)/\w'.cell? ⟨b2,o2+k*8+7,none⟩=some (.slice qu n4 d4)) (by kernel_rfl) (by exact K0) (fun hS=>?_);refine fL 0 1 2 3 4 5 6 7 hS ?_;refine bR 8 fun KK hK=>?_;refine oy (LY ow mo ep ge pp pv ph pu qp qv qh qu a1 a2 a3 a4 d1 d2 d3 d4 n1 n2 n3 n4 y.path y.value y.holders y.watchers e1 e2 e3 e4 _ ⟨HA.1.below ar.drew,HA.2.1.below ar.drew,HA.2.2.1.below ar.drew,HA.2.2.2.below ar.drew⟩ ⟨HB.1.below ar.drew,HB.2.1.below ar.drew,HB.2.2.1.below ar.drew,HB.2.2.2.below ar.drew⟩ m1 m2 m3 m4) ?_;rintro r w2 ⟨rfl,aG⟩;refine ⟨_,rfl,?_⟩;have bu:Below wr.heap.size wr w2:=ai (Below.refl wr.heap.size wr).drew aG;refine bM hK (by obtain ⟨k0,k1,k2,k3,k4,k5,k6,k7,k8,k9,k10,k11,k12,k13,k14,k15⟩:=aa K0;exact ⟨af k0 bu,af k1 bu,af k2 bu,af k3 bu,af k4 bu,af k5 bu,af k6 bu,af k7 bu,af k8 bu,af k9 bu,af k10 bu,af k11 bu,af k12 bu,af k13 bu,af k14 bu,af k15 bu⟩) fun hS=>?_;refine tn 9 hS ?_;refine wpAnyH_done (by kernel_rfl) ?_ _;refine bc ?_;have b2:=ai aE bu;go_wp2;go_roundw
 case rel=>exact ⟨k+1,by omega,by go_num,b2⟩
 case measure=>simp [intOf];omega}
 {
 have bH:¬ (k:Int)<(n:Int):=by omega
 go_wp2;go_ret;exact ⟨rfl,aE⟩})
theorem sB (e g x t:Int) (p q p' q':Option Addr) (c n d m c' d':Nat) (ss:List aR) (ns:List aA) (en:Hid (ss.length=n)) (em:Hid (ns.length=m)) (w:World) (h:nR w (.slice p n c) ss) (hN:jB w (.slice q m d) ns) (h':nR w (.slice p' n c') ss) (C5:jB w (.slice q' m d') ns) (hn:n<=1048576) (hm:m<=1048576)
  (NH:Hid (∀ y∈ss,y.2.2.length<=1048576/\∀ e∈y.2.2,e.2.length<=1048576)) (NF:Hid (∀ y∈ns,y.path.length<=1048576/\y.value.length<=1048576/\y.holders.length<=1048576/\y.watchers.length<=1048576)) :
  Calls prog 10 #[cL e g x t (.slice p n c) (.slice q m d),cL e g x t (.slice p' n c') (.slice q' m d')] w fun r w'=>r=.returned (.bool true)/\Below w.heap.size w w':=by
 obtain ⟨W,hW⟩:=ax ((w.alloc (.cells #[.int .u64 e,.int .u64 g,.int .u64 x,.int .i64 t,.slice p n c,.slice q m d] 35)).alloc (.cells #[.int .u64 e,.int .u64 g,.int .u64 x,.int .i64 t,.slice p' n c',.slice q' m d'] 35));have bW:Below w.heap.size w W:=by rw [hW];exact (ar.alloc ay _).alloc (by simp) _
 have HR:=ae fun (w':World) (hb:Below w.heap.size w w')=>ag (ag (h.below hb) (hN.below hb)) (ag (h'.below hb) (C5.below hb));have k5:W.cell? ⟨w.heap.size,5,none⟩=some (.slice q m d):=by rw [hW];simp
 have j5:W.cell? ⟨w.heap.size+1,5,none⟩=some (.slice q' m d'):=by rw [hW];simp
 have q1:(e != e)=false:=by simp
 have q2:(g != g)=false:=by simp
 have q3:(x != x)=false:=by simp
 have q4:(t != t)=false:=by simp
 go_enter func10,ntmps10;go_wp2_with fail;rw [<-hW];refine (Ao p p' c c' n ss en _ (aa HR _ bW).1.1 (aa HR _ bW).2.1 hn NH).mono ?_;rintro r w1 ⟨rfl,aK⟩;have b1:=ai bW aK;replace k5:=af k5 aK;replace j5:=af j5 aK;go_wp2_with fail;refine (Io q q' d d' m ns em _ (aa HR _ b1).1.2 (aa HR _ b1).2.2 hm NF).mono ?_;rintro r w2 ⟨rfl,aG⟩;have b2:=ai b1 aG;go_wp2;go_ret;exact ⟨rfl,b2⟩
def IS (w:World) (x:List Int) (b a:Nat) (l:List Lf):Prop:=∃ p c,w.cell? ⟨b,a,none⟩=some (.slice p x.length c)/\qs (.slice p x.length c) x l
abbrev rS (w:World) (v:Value) (xs:List (List Int)) (A:List Lf):Prop:=tI (IS w) 1 v xs A
theorem IS.mk {x:List Int} (h:IS w x b a l) (hm:Mk w w' A k) (hA:aP w A):IS w' x b a l:=by
 obtain ⟨p,c,h1,h2⟩:=h;exact ⟨p,c,hm.head hA h1,h2⟩
theorem rS.mk (h:rS w v xs l) (hm:Mk w w' A k) (hA:aP w A):rS w' v xs l:=h.imp fun x b a l _ _ hP=>hP.mk hm hA
theorem rS.below (h:rS w v xs l) (hb:Below w.heap.size w w'):rS w' v xs l:=rS.mk h (Mk.fG hb 0) (aP.nil _)
def yA (w:World) (v:Value) (xs:List (List Int)):Prop:=∃ (p:Option Addr) (c:Nat),v=.slice p xs.length c/\(xs=[]\/∃ b o,p=some ⟨b,o,none⟩/\∀ (i:Nat) (x:List Int),xs[i]?=some x->∃ u,w.cell? ⟨b,o+i,none⟩=some u/\Rd w u x)
theorem yA.below (h:yA w v xs) (hb:Below w.heap.size w w'):yA w' v xs:=by
 obtain ⟨p,c,rfl,h⟩:=h;refine ⟨p,c,rfl,?_⟩;rcases h with h | ⟨b,o,rfl,h⟩;{exact .inl h};{refine .inr ⟨b,o,rfl,fun i x hx=>?_⟩;obtain ⟨u,h1,h2⟩:=h i x hx;exact ⟨u,af h1 hb,h2.below hb⟩}
theorem zh (p:Option Addr) (c n:Nat) (xs:List (List Int)) (A:List Lf) (k:Int) (w:World) (h:rS w (.slice p n c) xs A) (hA:aP w A) (k0:0<=k) (k1:k+A.length<=100000000) (hn:n<=100000000) :
  Calls prog 41 #[.slice p n c,.int .i64 k] w fun e w'=>e=.returned (.int .i64 (k+A.length))/\Mk w w' A k:=by
 obtain ⟨Ls,en,lL,eA,dE⟩:=h.at;have lG:=ae dE;have HA:=ae hA;have EA:=ae eA;have K1:k+(Ls.flatten.length:Int)<=100000000:=by rw [<-eA];exact k1
 have LL:=ae lL;clear h dE hA eA en lL;go_enter func41,ntmps41;go_wp2
 go_loopw [1,5] (fun kk i wr=>∃ j:Nat,j<=n/\i=.int .i64 j/\kk=.int .i64 (k+(((Ls.take j).flatten.length:Nat):Int))/\Hid (Mk w wr (Ls.take j).flatten k)) (fun _ i _=>n-(intOf i).toNat)
 case atStart=>exact ⟨0,Nat.zero_le _,rfl,by simp,Mk.refl _ _⟩
 case round =>(
 obtain ⟨j,hj,rfl,rfl,hM⟩:=hrel;have hle:=aJ Ls j;by_cases aU:j<n;{
 have aV:(j:Int)<(n:Int):=by omega
 obtain ⟨b,o,x,l,rfl,hx,hl,hP,gO,dD⟩:=aa lG j aU;have gx:aP w (Ls.take j).flatten:=HA.sub (fun a ha=>by rw [aa EA];exact cM ha);have tX:aP w l:=HA.sub dD;have fP:aP wr l:=tX.mk hM gx;obtain ⟨q,d,hd,CH⟩:=IS.mk hP hM gx;rw [Nat.mul_one] at hd;have re:(Ls.take (j+1)).flatten.length=(Ls.take j).flatten.length+l.length:=by rw [gO,List.length_append]
 have iK:k+((Ls.take j).flatten.length:Int)+(l.length:Int)<=100000000:=by have:=aJ Ls (j+1);omega
 have HT:=ae re;have Wq:Hid (∀ w',Mk wr w' l (k+((Ls.take j).flatten.length:Int))->Mk w w' (Ls.take (j+1)).flatten k):=by intro w' Ur;rw [gO];exact hM.trans Ur gx tX
 generalize hT:(Ls.take j).flatten.length=T at *;have vZ:=ae (ag CH fP);clear hT hx hl hP gO dD gx hM re tX CH fP;have Lg:0<=k+(T:Int):=by omega
 go_wp2_with fail;refine (fx q d x.length x l (k+(T:Int)) _ vZ.1 vZ.2 (by omega) (by omega)).mono ?_;rintro e v0 ⟨rfl,N0⟩;have G8:=ae (aa Wq _ N0);clear N0 hd;go_wp2;go_roundw
 case rel=>exact ⟨j+1,by omega,by go_num,by rw [aa HT];first | (simp;omega) | (congr 1;simp;omega),G8⟩
 case measure=>simp [intOf];omega}
 {
 have e:j=n:=by omega
 subst e;have e2:(Ls.take j).flatten=A:=by rw [<-aa LL,List.take_length];exact EA.symm
 rw [e2] at hM ⊢;clear hle lG HA;go_wp2;go_ret;exact ⟨rfl,hM⟩})
theorem Ad (p:Option Addr) (c n:Nat) (xs:List (List Int)) (A:List Lf) (k:Int) (w:World) (h:rS w (.slice p n c) xs A) (hA:aY w A k) (k0:0<=k) (k1:k+A.length<=100000000) (hn:n<=100000000) :
  Calls prog 46 #[.slice p n c,.int .i64 k] w fun e w'=>e=.returned (.int .i64 (k+A.length))/\Below w.heap.size w w':=by
 obtain ⟨Ls,en,lL,eA,dE⟩:=h.at;have lG:=ae dE;have HA:=ae (show aY w Ls.flatten k by rw [<-eA];exact hA);have EA:=ae eA;have K1:k+(Ls.flatten.length:Int)<=100000000:=by rw [<-eA];exact k1
 have LL:=ae lL;clear h dE hA eA en lL;go_enter func46,ntmps46;go_wp2
 go_loopw [1,5] (fun kk i wr=>∃ j:Nat,j<=n/\i=.int .i64 j/\kk=.int .i64 (k+(((Ls.take j).flatten.length:Nat):Int))/\Hid (Below w.heap.size w wr)) (fun _ i _=>n-(intOf i).toNat)
 case atStart=>exact ⟨0,Nat.zero_le _,rfl,by simp,Below.refl _ _⟩
 case round =>(
 obtain ⟨j,hj,rfl,rfl,aE⟩:=hrel;have hle:=aJ Ls j;by_cases aU:j<n;{
 have aV:(j:Int)<(n:Int):=by omega
 obtain ⟨b,o,x,l,rfl,hx,hl,hP,gO,dD⟩:=aa lG j aU;have hh:=(HA.flat gO).below aE;obtain ⟨q,d,hd,CH⟩:=IS.mk hP (Mk.fG aE 0) (aP.nil _);rw [Nat.mul_one] at hd;have re:(Ls.take (j+1)).flatten.length=(Ls.take j).flatten.length+l.length:=by rw [gO,List.length_append]
 have iK:k+((Ls.take j).flatten.length:Int)+(l.length:Int)<=100000000:=by have:=aJ Ls (j+1);omega
 have HT:=ae re;generalize hT:(Ls.take j).flatten.length=T at *;have vZ:=ae (ag CH hh);clear hT hx hl hP gO dD re CH hh;have Lg:0<=k+(T:Int):=by omega
 have Zk:¬ k+(T:Int)+(l.length:Int)<0:=by omega
 go_wp2_with fail;refine (ig q d x.length x l (k+(T:Int)) _ vZ.1 vZ.2 (by omega) (by omega)).mono ?_;rintro e v0 ⟨rfl,N0⟩;have G8:=ae (ai aE N0);clear N0 hd;go_wp2;go_roundw
 case rel=>exact ⟨j+1,by omega,by go_num,by rw [aa HT];first | (simp;omega) | (congr 1;simp;omega),G8⟩
 case measure=>simp [intOf];omega}
 {
 have e:j=n:=by omega
 subst e;have e2:(Ls.take j).flatten=A:=by rw [<-aa LL,List.take_length];exact EA.symm
 rw [e2];clear hle lG HA;go_wp2;go_ret;exact ⟨rfl,aE⟩})
theorem Ip (p q:Option Addr) (c d n:Nat) (l:List (List Int)) (en:Hid (l.length=n)) (w:World) (h1:yA w (.slice p n c) l) (h2:yA w (.slice q n d) l) (hn:n<=1048576) (ij:Hid (∀ y∈l,y.length<=1048576)) :
  Calls prog 36 #[.slice p n c,.slice q n d] w fun r w'=>r=.returned (.bool true)/\Below w.heap.size w w':=by
 have HR:=ae fun (w':World) (hb:Below w.heap.size w w')=>ag (h1.below hb) (h2.below hb);have bm:((n:Int) != (n:Int))=false:=by simp
 go_enter func36,ntmps36;go_wp2_with fail
 go_loopw [5] (fun i wr=>∃ k:Nat,k<=n/\i=.int .i64 k/\Below w.heap.size w wr) (fun i _=>n-(intOf i).toNat)
 case atStart=>exact ⟨0,Nat.zero_le _,rfl,Below.refl _ _⟩
 case round =>(
 obtain ⟨k,hk,rfl,aE⟩:=hrel;by_cases aU:k<n;{
 have i1:(k:Int)<(n:Int):=by omega
 have bH:k<l.length:=by rw [aa en];exact aU
 obtain ⟨P,hy⟩:∃ y,l[k]?=some y:=⟨_,aH bH⟩;have du:=aa ij P (aL hy);have key:∀ (p:Option Addr) (c:Nat),yA wr (.slice p n c) l->∃ b o,p=some ⟨b,o,none⟩/\∃ u,wr.cell? ⟨b,o+k,none⟩=some u/\Rd wr u P:=fun p c h=>by obtain ⟨p',c',ev,hd⟩:=h;simp only [Value.slice.injEq] at ev;obtain ⟨rfl,-,-⟩:=ev;rcases hd with h0 | ⟨b,o,h1,h2⟩;{rw [h0] at bH;simp at bH};{exact ⟨b,o,h1,h2 k _ hy⟩}
 obtain ⟨b1,o1,rfl,u1,z2,r1⟩:=key p c (aa HR _ aE).1;obtain ⟨b2,o2,rfl,u2,x2,r2⟩:=key q d (aa HR _ aE).2;obtain ⟨p1,c1,rfl,-⟩:=id r1;obtain ⟨p2,c2,rfl,-⟩:=id r2;obtain ⟨m,em⟩:=aZ P.length;rw [em] at r1 r2 z2 x2;have hm:m<=1048576:=by rw [<-em];exact du
 have EM:=ae em;have qt:=ae (ag r1 r2);have K0:=ae (ag z2 x2);go_wp2_with fail;refine wp_region_noPanic ?_;refine wp_region_held_drew (S:=fun w'=>w'.cell? ⟨b1,o1+k,none⟩=some (.slice p1 m c1)/\w'.cell? ⟨b2,o2+k,none⟩=some (.slice p2 m c2)) (by kernel_rfl) (by exact K0) (fun hS=>?_);refine fL 0 1 2 3 4 5 6 7 hS ?_;refine bR 8 fun KK hK=>?_;refine oy (iM p1 p2 c1 c2 m P EM _ (qt.1.below ar.drew) (qt.2.below ar.drew) (by omega)) ?_;rintro r w2 ⟨rfl,aG⟩;refine ⟨_,rfl,?_⟩;have bu:Below wr.heap.size wr w2:=ai (Below.refl wr.heap.size wr).drew aG;refine bM hK (by obtain ⟨k0,k1⟩:=aa K0;exact ⟨af k0 bu,af k1 bu⟩) fun hS=>?_;refine tn 9 hS ?_;refine wpAnyH_done (by kernel_rfl) ?_ _;refine bc ?_;have b2:=ai aE bu;go_wp2;go_roundw
 case rel=>exact ⟨k+1,by omega,by go_num,b2⟩
 case measure=>simp [intOf];omega}
 {
 have bH:¬ (k:Int)<(n:Int):=by omega
 go_wp2;go_ret;exact ⟨rfl,aE⟩})
theorem bN (n:Nat) (left:Int):(di n left=-1/\left<n)\/(∃ R:Int,di n left=R/\0<=R/\R=left-n):=by
 by_cases h:left<n;{exact .inl ⟨dP h,h⟩};{exact .inr ⟨_,iE (by omega),by omega,rfl⟩}
def cg {α:Type} (F:α->Nat) (l:List α):Nat:=(l.map F).sum
theorem nY {α:Type} (F:α->Nat) {l:List α} {k:Nat} {y:α} (h:l[k]?=some y):cg F (l.take (k+1))=cg F (l.take k)+F y:=by
 rw [List.take_add_one,h];simp [cg]
theorem yM {α:Type} (F:α->Nat) (l:List α) (k:Nat):cg F (l.take k)<=cg F l:=by
 have:cg F l=cg F (l.take k)+cg F (l.drop k):=by rw [cg,cg,cg,List.map_take,List.map_drop,<-List.sum_append,List.take_append_drop]
 omega
theorem sa {α:Type} (F:α->Nat) (l:List α):cg F (l.take 0)=0:=by simp [cg]
theorem oL (p:Option Addr) (n cap:Nat) (left:Int) (w:World) (hn:n<=maxLen) (h0:0<=left) (h1:left<=1048576) :
  Calls prog 90 #[.slice p n cap,.int .i64 left] w fun e w'=>e=.returned (.int .i64 (di n left))/\w'=w:=by
 unfold maxLen at hn;by_cases h:left-n<0;{
 have e:di n left=-1:=by unfold di;rw [if_pos h]
 rw [e];go_enter func90,ntmps90;go_wp2;go_ret;exact ⟨rfl,rfl⟩};{
 have e:di n left=left-n:=by unfold di;rw [if_neg h]
 rw [e];go_enter func90,ntmps90;go_wp2;go_ret;exact ⟨rfl,rfl⟩}
theorem Bx (K:Int) (p:Option Addr) (n c:Nat) (left:Int) (w:World) (hn:n<=maxLen) (h0:0<=left) (h1:left<=1048576) :
  Calls prog 135 #[.agg #[.int .i64 K,.slice p n c],.int .i64 left] w fun e w'=>e=.returned (.int .i64 (di n left))/\Below w.heap.size w w':=by
 have hc:=iV p n c left;go_enter func135,ntmps135;go_wp2_with fail;refine (hc _ hn h0 h1).mono ?_;rintro e w' ⟨rfl,rfl⟩;clear hc;rcases bN n left with ⟨e,he⟩ | ⟨R,e,hR,-⟩;{rw [e];have E:=ae e;clear e;go_wp2;go_ret;exact ⟨by rw [aa E];rfl,ar.alloc ay _⟩};{
 rw [e];have E:=ae e;clear e;have hR':¬ R<0:=by omega
 go_wp2;go_ret;exact ⟨by rw [aa E];rfl,ar.alloc ay _⟩}
theorem yL (p:Option Addr) (c n:Nat) (l:List Ev) (en:Hid (l.length=n)) (left:Int) (w:World) (h:nS w (.slice p n c) l) (hn:n<=maxLen) (ij:Hid (∀ y∈l,y.2.length<=maxLen)) (h0:0<=left) (h1:left<=1048576) :
  Calls prog 89 #[.slice p n c,.int .i64 left] w fun r w'=>r=.returned (.int .i64 (di (n+cg (fun e:Ev=>e.2.length) l) left))/\Below w.heap.size w w':=by
 obtain ⟨R,eR⟩:∃ R,di (n+cg (fun e:Ev=>e.2.length) l) left=R:=⟨_,rfl⟩;rw [eR];have ER:=ae eR;clear eR;unfold maxLen at hn;have HR:=ae fun (w':World) (hb:Below w.heap.size w w')=>h.below hb;clear h;by_cases Nx:left-n<0;{
 have e:R=-1:=by rw [<-aa ER];exact dP (by omega)
 subst e;go_enter func89,ntmps89;go_wp2;go_ret;exact ⟨rfl,Below.refl _ _⟩};{
 obtain ⟨L0,Mc⟩:∃ L0:Int,left-n=L0:=⟨_,rfl⟩;have Ss:¬ L0<0:=by omega
 have Zx:L0<=1048576:=by omega
 have Fb:n<=1048576:=by omega
 have wL:IntKind.i64.wrap L0=L0:=IntWalk.i64_in _ (by omega);have EL:=ae Mc;clear Nx hn;go_enter func89,ntmps89;go_wp2_with fail;clear Mc
 go_loopw [1,5] (fun lv iv wr=>∃ (k:Nat) (L:Int),k<=n/\iv=.int .i64 k/\lv=.int .i64 L/\0<=L/\L<=1048576/\Hid (L=left-n-cg (fun e:Ev=>e.2.length) (l.take k))/\Below w.heap.size w wr) (fun _ iv _=>n-(intOf iv).toNat)
 case atStart=>exact ⟨0,L0,Nat.zero_le _,rfl,rfl,by omega,Zx,(by show _=_;rw [sa];have:=aa EL;omega),Below.refl _ _⟩
 case round =>(
 obtain ⟨k,L,hk,rfl,rfl,hL,Zv,vg,aE⟩:=hrel;by_cases aU:k<n;{
 have aV:(k:Int)<(n:Int):=by omega
 have bH:k<l.length:=by rw [aa en];exact aU
 obtain ⟨y,hy⟩:∃ y,l[k]?=some y:=⟨_,aH bH⟩;have cF:=nY (fun e:Ev=>e.2.length) hy;have hle:=yM (fun e:Ev=>e.2.length) l (k+1);have jl:=ae (ag cF hle);have du:=aa ij y (aL hy);obtain ⟨K,P⟩:=y;obtain ⟨b,o,rfl,Qd,u,Lb,vk⟩:∃ b o,p=some ⟨b,o,none⟩/\wr.cell? ⟨b,o+k*2,none⟩=some (.int .i64 K)/\∃ u,wr.cell? ⟨b,o+k*2+1,none⟩=some u/\Rd wr u P:=by obtain ⟨p',c',ev,hd⟩:=aa HR _ aE;simp only [Value.slice.injEq] at ev;obtain ⟨rfl,-,-⟩:=ev;rcases hd with h0 | ⟨b,o,h1,h2⟩;{rw [h0] at bH;simp at bH};{exact ⟨b,o,h1,h2 k _ hy⟩}
 obtain ⟨pp,pc,m,rfl,em⟩:=vk.ed;have hm:m<=maxLen:=by rw [<-aa em];exact du
 have HY:=ae hy;clear vk du hy;clear cF hle bH;go_wp2_with fail;refine (Bx K pp m pc L _ hm hL Zv).mono ?_;rintro r w2 ⟨rfl,aG⟩;have b2:=ai aE aG;clear aG Qd Lb;rcases bN (m) L with ⟨e,he⟩ | ⟨R',e,hR,Ic⟩;{
 have eR:R=-1:=by rw [<-aa ER];have h1:=aa vg;have h2:=aa jl;have h3:(K,P).2.length=m:=aa em;simp only at h2 h3;exact dP (by omega)
 subst eR;rw [e];clear e he;go_wp2;go_ret;exact ⟨rfl,b2⟩};{
 have xV:Hid (R'=left-n-cg (fun e:Ev=>e.2.length) (l.take (k+1))):=by show _=_;have h1:=aa vg;have h2:=aa jl;have h3:(K,P).2.length=m:=aa em;simp only at h2 h3;omega
 have Fj:¬ R'<0:=by omega
 have Vd:R'<=1048576:=by omega
 rw [e];clear e Ic;go_wp2;go_roundw
 case rel=>exact ⟨k+1,R',by omega,by go_num,rfl,hR,Vd,xV,b2⟩
 case measure=>simp [intOf];omega}}
 {
 have aV:¬ (k:Int)<(n:Int):=by omega
 have eR:R=L:=by rw [<-aa ER];have h1:=aa vg;rw [List.take_of_length_le (by rw [aa en];omega)] at h1;rw [iE (by omega)];omega
 subst eR;go_wp2;go_ret;exact ⟨rfl,aE⟩})}
theorem wX (I D:Int) (p:Option Addr) (c n:Nat) (Q:List Ev) (en:Hid (Q.length=n)) (left:Int) (w:World) (h:nS w (.slice p n c) Q) (hn:n<=maxLen) (ij:Hid (∀ y∈Q,y.2.length<=maxLen)) (h0:0<=left) (h1:left<=1048576) :
  Calls prog 48 #[.agg #[.int .u64 I,.int .i64 D,.slice p n c],.int .i64 left] w fun e w'=>e=.returned (.int .i64 (di (n+cg (fun e:Ev=>e.2.length) Q) left))/\Below w.heap.size w w':=by
 have b1:Below w.heap.size w (w.alloc (.cells #[.int .u64 I,.int .i64 D,.slice p n c] 84)):=ar.alloc ay _;have HR:=ae (h.below b1);clear h;obtain ⟨N,eN⟩:∃ N,n+cg (fun e:Ev=>e.2.length) Q=N:=⟨_,rfl⟩;have hc:=fun w hw=>yL p c n Q en left w hw hn ij h0 h1;rw [eN] at hc ⊢;have HC:=ae hc;clear hc eN;go_enter func48,ntmps48;go_wp2_with fail;refine (aa HC _ (by exact HR)).mono ?_;rintro e w' ⟨rfl,hb⟩;have b2:=ai b1 hb;clear hb;rcases bN N left with ⟨e,he⟩ | ⟨R,e,hR,-⟩;{rw [e];have E:=ae e;clear e;go_wp2;go_ret;exact ⟨by rw [aa E];rfl,b2⟩};{
 rw [e];have E:=ae e;clear e;have hR':¬ R<0:=by omega
 go_wp2;go_ret;exact ⟨by rw [aa E];rfl,b2⟩}
def jE (s:aR):Nat:=s.2.2.length+cg (fun e:Ev=>e.2.length) s.2.2
def iU (nd:aA):Nat:=nd.path.length+nd.value.length+nd.holders.length+nd.watchers.length
theorem uA (p:Option Addr) (c n:Nat) (l:List aR) (en:Hid (l.length=n)) (left:Int) (w:World) (h:nR w (.slice p n c) l) (hn:n<=maxLen) (ij:Hid (∀ y∈l,y.2.2.length<=maxLen/\∀ e∈y.2.2,e.2.length<=maxLen)) (h0:0<=left) (h1:left<=1048576) :
  Calls prog 18 #[.slice p n c,.int .i64 left] w fun r w'=>r=.returned (.int .i64 (di (n+cg jE l) left))/\Below w.heap.size w w':=by
 obtain ⟨R,eR⟩:=aZ (di (n+cg jE l) left);rw [eR];have ER:=ae eR;clear eR;unfold maxLen at hn;have HR:=ae fun (w':World) (hb:Below w.heap.size w w')=>h.below hb;clear h;by_cases Nx:left-n<0;{
 have e:R=-1:=by rw [<-aa ER];exact dP (by omega)
 subst e;go_enter func18,ntmps18;go_wp2;go_ret;exact ⟨rfl,Below.refl _ _⟩};{
 obtain ⟨L0,Mc⟩:∃ L0:Int,left-n=L0:=⟨_,rfl⟩;have Ss:¬ L0<0:=by omega
 have Zx:L0<=1048576:=by omega
 have Fb:n<=1048576:=by omega
 have wL:IntKind.i64.wrap L0=L0:=IntWalk.i64_in _ (by omega);have EL:=ae Mc;clear Nx hn;go_enter func18,ntmps18;go_wp2_with fail;clear Mc
 go_loopw [1,5] (fun lv iv wr=>∃ (k:Nat) (L:Int),k<=n/\iv=.int .i64 k/\lv=.int .i64 L/\0<=L/\L<=1048576/\Hid (L=left-n-cg jE (l.take k))/\Below w.heap.size w wr) (fun _ iv _=>n-(intOf iv).toNat)
 case atStart=>exact ⟨0,L0,Nat.zero_le _,rfl,rfl,by omega,Zx,(by show _=_;rw [sa];have:=aa EL;omega),Below.refl _ _⟩
 case round =>(
 obtain ⟨k,L,hk,rfl,rfl,hL,Zv,vg,aE⟩:=hrel;by_cases aU:k<n;{
 have aV:(k:Int)<(n:Int):=by omega
 have bH:k<l.length:=by rw [aa en];exact aU
 obtain ⟨y,hy⟩:∃ y,l[k]?=some y:=⟨_,aH bH⟩;have cF:=nY jE hy;have hle:=yM jE l (k+1);have jl:=ae (ag cF hle);have du:=aa ij y (aL hy);obtain ⟨I,D,Q⟩:=y;obtain ⟨b,o,rfl,Sh,Si,u,Jk,zL⟩:∃ b o,p=some ⟨b,o,none⟩/\wr.cell? ⟨b,o+k*3,none⟩=some (.int .u64 I)/\wr.cell? ⟨b,o+k*3+1,none⟩=some (.int .i64 D)/\∃ u,wr.cell? ⟨b,o+k*3+2,none⟩=some u/\nS wr u Q:=by obtain ⟨p',c',ev,hd⟩:=aa HR _ aE;simp only [Value.slice.injEq] at ev;obtain ⟨rfl,-,-⟩:=ev;rcases hd with h0 | ⟨b,o,h1,h2⟩;{rw [h0] at bH;simp at bH};{exact ⟨b,o,h1,h2 k _ hy⟩}
 obtain ⟨pq,cq,rfl,-⟩:=id zL;obtain ⟨m,em⟩:=aZ Q.length;rw [em] at zL Jk;have hm:m<=maxLen:=by rw [<-em];exact du.1
 have EM:=ae em;have HEL:Hid (∀ y∈Q,y.2.length<=maxLen):=du.2;have Oe:=ae zL;obtain ⟨N,eN⟩:=aZ (jE (I,D,Q));have SL:m+cg (fun e:Ev=>e.2.length) Q=N:=by rw [<-eN,jE,em]
 have hc:=fun w hw=>wX I D pq cq m Q EM L w hw hm HEL hL Zv;rw [SL] at hc;have HC:=ae hc;have EN:=ae eN;clear zL du hy em eN SL hc;clear cF hle bH;go_wp2_with fail;refine (aa HC _ Oe).mono ?_;rintro r w2 ⟨rfl,aG⟩;have b2:=ai aE aG;clear aG Sh Si Jk;rcases bN (N) L with ⟨e,he⟩ | ⟨R',e,hR,Ic⟩;{
 have eR:R=-1:=by rw [<-aa ER];have h1:=aa vg;have h2:=aa jl;have h3:=aa EN;rw [h3] at h2;exact dP (by omega)
 subst eR;rw [e];clear e he;go_wp2;go_ret;exact ⟨rfl,b2⟩};{
 have xV:Hid (R'=left-n-cg jE (l.take (k+1))):=by show _=_;have h1:=aa vg;have h2:=aa jl;have h3:=aa EN;rw [h3] at h2;omega
 have Fj:¬ R'<0:=by omega
 have Vd:R'<=1048576:=by omega
 rw [e];clear e Ic;go_wp2;go_roundw
 case rel=>exact ⟨k+1,R',by omega,by go_num,rfl,hR,Vd,xV,b2⟩
 case measure=>simp [intOf];omega}}
 {
 have aV:¬ (k:Int)<(n:Int):=by omega
 have eR:R=L:=by rw [<-aa ER];have h1:=aa vg;rw [List.take_of_length_le (by rw [aa en];omega)] at h1;rw [iE (by omega)];omega
 subst eR;go_wp2;go_ret;exact ⟨rfl,aE⟩})}
theorem Ee (nd:aA) (pp vq hp up:Option Addr) (pc pn vc vn hc hh uc un:Nat) (uj:Hid (nd.path.length=pn)) (Ir:Hid (nd.value.length=vn)) (yr:Hid (nd.holders.length=hh)) (AZ:Hid (nd.watchers.length=un)) (ow mo ep ge:Int) (left:Int) (w:World)
  (m1:pn<=maxLen) (m2:vn<=maxLen) (m3:hh<=maxLen) (m4:un<=maxLen) (h0:0<=left) (h1:left<=1048576) (N:Nat) (eN:Hid (iU nd=N)) :
  Calls prog 49 #[Ey (.slice pp pn pc) (.slice vq vn vc) ow mo (.slice hp hh hc) ep ge (.slice up un uc),.int .i64 left] w fun e w'=>e=.returned (.int .i64 (di N left))/\Below w.heap.size w w':=by
 have b1:Below w.heap.size w (w.alloc (.cells #[.slice pp pn pc,.slice vq vn vc,.int .u64 ow,.int .i64 mo,.slice hp hh hc,.int .u64 ep,.int .u64 ge,.slice up un uc] 88)):=ar.alloc ay _;have SL:pn+vn+hh+un=N:=by rw [<-aa eN,iU,aa uj,aa Ir,aa yr,aa AZ]
 obtain ⟨R,eR⟩:=aZ (di N left);rw [eR];have ER:=ae eR;clear eR;have Ro:=ae SL;clear SL;go_enter func49,ntmps49;go_wp2_with fail;refine (iV pp pn pc left _ m1 h0 h1).mono ?_;rintro e w1 ⟨rfl,rfl⟩;rcases bN pn left with ⟨e,he⟩ | ⟨R1,e,g1,g2⟩;{
 have eR:R=-1:=by rw [<-aa ER];have:=aa Ro;exact dP (by omega)
 subst eR;rw [e];clear e;go_wp2;go_ret;exact ⟨rfl,b1⟩};{
 rw [e];have G2:=ae g2;have n1:¬ R1<0:=by omega
 have k1:R1<=1048576:=by omega
 clear e g2;go_wp2_with fail;refine (iV vq vn vc R1 _ m2 g1 k1).mono ?_;rintro e w1 ⟨rfl,rfl⟩;rcases bN vn R1 with ⟨e,he⟩ | ⟨R2,e,g3,g4⟩;{
 have eR:R=-1:=by rw [<-aa ER];have:=aa Ro;have:=aa G2;exact dP (by omega)
 subst eR;rw [e];clear e;go_wp2;go_ret;exact ⟨rfl,b1⟩};{
 rw [e];have G4:=ae g4;have n2:¬ R2<0:=by omega
 have k2:R2<=1048576:=by omega
 clear e g4;go_wp2_with fail;refine (oL hp hh hc R2 _ m3 g3 k2).mono ?_;rintro e w1 ⟨rfl,rfl⟩;rcases bN hh R2 with ⟨e,he⟩ | ⟨R3,e,g5,g6⟩;{
 have eR:R=-1:=by rw [<-aa ER];have:=aa Ro;have:=aa G2;have:=aa G4;exact dP (by omega)
 subst eR;rw [e];clear e;go_wp2;go_ret;exact ⟨rfl,b1⟩};{
 rw [e];have G6:=ae g6;have n3:¬ R3<0:=by omega
 have k3:R3<=1048576:=by omega
 clear e g6;go_wp2_with fail;refine (oL up un uc R3 _ m4 g5 k3).mono ?_;rintro e w1 ⟨rfl,rfl⟩;rcases bN un R3 with ⟨e,he⟩ | ⟨R4,e,g7,g8⟩;{
 have eR:R=-1:=by rw [<-aa ER];have:=aa Ro;have:=aa G2;have:=aa G4;have:=aa G6;exact dP (by omega)
 subst eR;rw [e];clear e;go_wp2;go_ret;exact ⟨rfl,b1⟩};{
 have eR:R=R4:=by rw [<-aa ER];have:=aa Ro;have:=aa G2;have:=aa G4;have:=aa G6;rw [iE (by omega)];omega
 subst eR;rw [e];have n4:¬ R<0:=by omega
 clear e g8;go_wp2;go_ret;exact ⟨rfl,b1⟩}}}}
theorem Bw (p:Option Addr) (c n:Nat) (l:List aA) (en:Hid (l.length=n)) (left:Int) (w:World) (h:jB w (.slice p n c) l) (hn:n<=maxLen) (ij:Hid (∀ y∈l,y.path.length<=maxLen/\y.value.length<=maxLen/\y.holders.length<=maxLen/\y.watchers.length<=maxLen)) (h0:0<=left) (h1:left<=1048576) :
  Calls prog 19 #[.slice p n c,.int .i64 left] w fun r w'=>r=.returned (.int .i64 (di (n+cg iU l) left))/\Below w.heap.size w w':=by
 obtain ⟨R,eR⟩:=aZ (di (n+cg iU l) left);rw [eR];have ER:=ae eR;clear eR;unfold maxLen at hn;have HR:=ae fun (w':World) (hb:Below w.heap.size w w')=>h.below hb;clear h;by_cases Nx:left-n<0;{
 have e:R=-1:=by rw [<-aa ER];exact dP (by omega)
 subst e;go_enter func19,ntmps19;go_wp2;go_ret;exact ⟨rfl,Below.refl _ _⟩};{
 obtain ⟨L0,Mc⟩:∃ L0:Int,left-n=L0:=⟨_,rfl⟩;have Ss:¬ L0<0:=by omega
 have Zx:L0<=1048576:=by omega
 have Fb:n<=1048576:=by omega
 have wL:IntKind.i64.wrap L0=L0:=IntWalk.i64_in _ (by omega);have EL:=ae Mc;clear Nx hn;go_enter func19,ntmps19;go_wp2_with fail;clear Mc
 go_loopw [1,5] (fun lv iv wr=>∃ (k:Nat) (L:Int),k<=n/\iv=.int .i64 k/\lv=.int .i64 L/\0<=L/\L<=1048576/\Hid (L=left-n-cg iU (l.take k))/\Below w.heap.size w wr) (fun _ iv _=>n-(intOf iv).toNat)
 case atStart=>exact ⟨0,L0,Nat.zero_le _,rfl,rfl,by omega,Zx,(by show _=_;rw [sa];have:=aa EL;omega),Below.refl _ _⟩
 case round =>(
 obtain ⟨k,L,hk,rfl,rfl,hL,Zv,vg,aE⟩:=hrel;by_cases aU:k<n;{
 have aV:(k:Int)<(n:Int):=by omega
 have bH:k<l.length:=by rw [aa en];exact aU
 obtain ⟨y,hy⟩:∃ y,l[k]?=some y:=⟨_,aH bH⟩;have cF:=nY iU hy;have hle:=yM iU l (k+1);have jl:=ae (ag cF hle);have du:=aa ij y (aL hy);obtain ⟨b,o,rfl,hA⟩:=(aa HR _ aE).at (by omega);obtain ⟨P,V,H,U,bf⟩:=hA k y hy;obtain ⟨pp,pc,pn,rfl,uj⟩:=bf.r0.ed;obtain ⟨vq,vc,vn,rfl,Ir⟩:=bf.r1.ed;obtain ⟨hp,hc,hh,rfl,yr⟩:=bf.r4.ed;obtain ⟨up,uc,un,rfl,AZ⟩:=bf.r7.ed;obtain ⟨c0,c1,c2,c3,c4,c5,c6,c7,-,-,-,-,-⟩:=bf;obtain ⟨q1,q2,q3,q4⟩:=du;have m1:pn<=maxLen:=by rw [<-aa uj];exact q1
 have m2:vn<=maxLen:=by rw [<-aa Ir];exact q2
 have m3:hh<=maxLen:=by rw [<-aa yr];exact q3
 have m4:un<=maxLen:=by rw [<-aa AZ];exact q4
 obtain ⟨N,eN⟩:=aZ (iU y);have EN:=ae eN;clear hA hy q1 q2 q3 q4 eN;clear cF hle bH;go_wp2_with fail;refine (Ee y pp vq hp up pc pn vc vn hc hh uc un uj Ir yr AZ _ _ _ _ L _ m1 m2 m3 m4 hL Zv N EN).mono ?_;rintro r w2 ⟨rfl,aG⟩;have b2:=ai aE aG;clear aG c0 c1 c2 c3 c4 c5 c6 c7;rcases bN (N) L with ⟨e,he⟩ | ⟨R',e,hR,Ic⟩;{
 have eR:R=-1:=by rw [<-aa ER];have h1:=aa vg;have h2:=aa jl;have h3:=aa EN;rw [h3] at h2;exact dP (by omega)
 subst eR;rw [e];clear e he;go_wp2;go_ret;exact ⟨rfl,b2⟩};{
 have xV:Hid (R'=left-n-cg iU (l.take (k+1))):=by show _=_;have h1:=aa vg;have h2:=aa jl;have h3:=aa EN;rw [h3] at h2;omega
 have Fj:¬ R'<0:=by omega
 have Vd:R'<=1048576:=by omega
 rw [e];clear e Ic;go_wp2;go_roundw
 case rel=>exact ⟨k+1,R',by omega,by go_num,rfl,hR,Vd,xV,b2⟩
 case measure=>simp [intOf];omega}}
 {
 have aV:¬ (k:Int)<(n:Int):=by omega
 have eR:R=L:=by rw [<-aa ER];have h1:=aa vg;rw [List.take_of_length_le (by rw [aa en];omega)] at h1;rw [iE (by omega)];omega
 subst eR;go_wp2;go_ret;exact ⟨rfl,aE⟩})}
def uz (ss:List aR) (ns:List aA):Nat:=ss.length+cg jE ss+(ns.length+cg iU ns)
theorem Bv (e g x t:Int) (p q:Option Addr) (c n d m:Nat) (ss:List aR) (ns:List aA) (en:Hid (ss.length=n)) (em:Hid (ns.length=m)) (w:World) (h:nR w (.slice p n c) ss) (hN:jB w (.slice q m d) ns) (hn:n<=maxLen) (hm:m<=maxLen)
  (NH:Hid (∀ y∈ss,y.2.2.length<=maxLen/\∀ e∈y.2.2,e.2.length<=maxLen)) (NF:Hid (∀ y∈ns,y.path.length<=maxLen/\y.value.length<=maxLen/\y.holders.length<=maxLen/\y.watchers.length<=maxLen)) (N:Nat) (eN:Hid (uz ss ns=N)) :
  Calls prog 4 #[cL e g x t (.slice p n c) (.slice q m d),.int .i64 1048576] w fun r w'=>r=.returned (.int .i64 (di N 1048576))/\Below w.heap.size w w':=by
 have HR:=ae fun (w':World) (hb:Below w.heap.size w w')=>ag (h.below hb) (hN.below hb);clear h hN;have b1:Below w.heap.size w (w.alloc (.cells #[.int .u64 e,.int .u64 g,.int .u64 x,.int .i64 t,.slice p n c,.slice q m d] 26)):=ar.alloc ay _;obtain ⟨A1,eA1⟩:=aZ (n+cg jE ss);obtain ⟨A2,eA2⟩:=aZ (m+cg iU ns);have SL:A1+A2=N:=by rw [<-aa eN,uz,aa en,aa em,eA1,eA2]
 have Ro:=ae SL;obtain ⟨R,eR⟩:=aZ (di N 1048576);rw [eR];have ER:=ae eR;have jg:=fun w hw=>uA p c n ss en 1048576 w hw hn NH (by omega) (by omega);rw [eA1] at jg;have jf:=fun R1 Ve Ic w hw=>Bw q d m ns em R1 w hw hm NF Ve Ic;rw [eA2] at jf;have kP:=ae jg;have IV:=ae jf;clear eR SL eA1 eA2 jg jf;go_enter func4,ntmps4;go_wp2_with fail;obtain ⟨W,hW⟩:=ax (w.alloc (.cells #[.int .u64 e,.int .u64 g,.int .u64 x,.int .i64 t,.slice p n c,.slice q m d] 26));have vw:W.cell? ⟨w.heap.size,5,none⟩=some (.slice q m d):=by rw [hW];simp
 rw [<-hW] at b1 ⊢;clear hW;refine (aa kP _ (aa HR _ b1).1).mono ?_;rintro r w1 ⟨rfl,aK⟩;have b2:=ai b1 aK;have j5:=af vw aK;clear vw aK;rcases bN A1 1048576 with ⟨e,he⟩ | ⟨R1,e,g1,g2⟩;{
 have eR:R=-1:=by rw [<-aa ER];have:=aa Ro;exact dP (by omega)
 subst eR;rw [e];clear e j5;go_wp2;go_ret;exact ⟨rfl,b2⟩};{
 rw [e];have G2:=ae g2;have n1:¬ R1<0:=by omega
 have k1:R1<=1048576:=by omega
 clear e g2;go_wp2_with fail;refine (aa IV R1 g1 k1 _ (aa HR _ b2).2).mono ?_;rintro r w2 ⟨rfl,aG⟩;have b3:=ai b2 aG;clear aG j5;rcases bN A2 R1 with ⟨e,he⟩ | ⟨R2,e,g3,g4⟩;{
 have eR:R=-1:=by rw [<-aa ER];have:=aa Ro;have:=aa G2;exact dP (by omega)
 subst eR;rw [e];clear e;go_wp2;go_ret;exact ⟨rfl,b3⟩};{
 have eR:R=R2:=by rw [<-aa ER];have:=aa Ro;have:=aa G2;rw [iE (by omega)];omega
 subst eR;rw [e];have n2:¬ R<0:=by omega
 clear e g4;go_wp2;go_ret;exact ⟨rfl,b3⟩}}
theorem iA.news {a:Addr} {c:Nat} {l:List Int} (h:iA w (.slice (some a) l.length c) l):(l.map (Value.int .u64)).length=l.length*1/\(∀ j u,(l.map (Value.int .u64))[j]?=some u->w.cell? (a.add j)=some u)/\(∀ u∈l.map (Value.int .u64),u.oneCell'=true):=by
 refine ⟨by simp,fun j u hu=>?_,fun u hu=>by obtain ⟨n,-,rfl⟩:=List.mem_map.1 hu;rfl⟩;have hj:j<l.length:=by have:=(aM.1 hu).1;simpa using this
 obtain ⟨p,c',e,hd⟩:=h;simp only [Value.slice.injEq] at e;obtain ⟨rfl,-,-⟩:=e;rcases hd with h0 | ⟨b,o,e1,hc⟩;{rw [h0] at hj;simp at hj};{simp only [Option.some.injEq] at e1;subst e1;rw [Addr.add_lit,hc j hj,<-hu];simp [List.getD_eq_getElem?_getD,hj]}
theorem xO (p:Option Addr) (c n:Nat) (l:List Int) (en:Hid (l.length=n)) (w:World) (h:iA w (.slice p n c) l) (hl:n<=1048576) :
  Calls prog 109 #[.slice p n c] w fun e w'=>∃ p' c',e=.returned (.slice p' n c')/\ga w.heap.size w' (.slice p' n c') l/\Below w.heap.size w w':=by
 have e:=aa en;subst e;obtain ⟨i,hi,jG,gi,gP⟩:=info_parts Tryz.infoU64;go_enter func109,ntmps109;have vr:w.ownsRow w.heap.size 22 1 (.slice none 0 0) 0 []:=World.ownsRow_nil w _ _ 1;cases p with
 | none=>
  have e0:l=[]:=by obtain ⟨p,c',e,hd⟩:=h;simp only [Value.slice.injEq] at e;rcases hd with h0 | ⟨b,o,e1,hc⟩;{exact h0};{rw [e1] at e;simp at e}
  subst e0;have W6:=dJ (P:=prog) w w.heap.size 86 86 22 i 1 underlying86 hi _ _ _ c vr;go_wp2_with (at_builtin;refine Lib.wpList_append_run w rfl _ _ 86 86 rfl _ _ rfl rfl _ _ W6 ?_);go_ret;exact ⟨_,_,rfl,(by simpa [ga] using vr),Below.refl _ _⟩
 | some ad=>
  obtain ⟨n1,n2,n3⟩:=h.news;go_wp2_with (at_builtin;refine wpList_append_own w rfl _ _ 86 rfl w.heap.size 22 i (.int .u64 0) 1 8 underlying86 hi jG gi gP rfl (by decide) _ _ _ rfl vr ad _ c (l.map (Value.int .u64)) rfl n1 n2 n3 (by unfold maxLen;omega) (by omega) ay ?_);intro v' w' h1 h2 _;have ho:ga w.heap.size w' v' l:=by simpa [ga] using h1
  obtain ⟨p',c',rfl⟩:=ho.form;have hb:Below w.heap.size w w':=⟨h2.os,h2.tape,h2.output,h2.size,fun k hk=>h2.block k hk (by simp [Value.ownBlock])⟩;clear h1 h2 n1 n2 n3 h;go_wp2;go_ret;exact ⟨_,_,rfl,ho,hb⟩
theorem Ac (p:Option Addr) (c n:Nat) (xs:List aA) (A:List Lf) (k:Int) (w:World) (h:mJ w (.slice p n c) xs A) (hA:aY w A k) (k0:0<=k) (k1:k+A.length<=100000000) :
  Calls prog 44 #[.slice p n c,.int .i64 k] w fun e w'=>e=.returned (.int .i64 (k+A.length))/\Below w.heap.size w w':=by
 have zO:=h.len (fun x b a l hl=>hl.pos);obtain ⟨Ls,en,lL,eA,dE⟩:=h.at;have lG:=ae dE;have HA:=ae (show aY w Ls.flatten k by rw [<-eA];exact hA);have EA:=ae eA;have K1:k+(Ls.flatten.length:Int)<=100000000:=by rw [<-eA];exact k1
 have hn:n<=100000000:=by omega
 have LL:=ae lL;clear h dE hA eA en lL zO;go_enter func44,ntmps44;go_wp2
 go_loopw [1,5] (fun kk i wr=>∃ j:Nat,j<=n/\i=.int .i64 j/\kk=.int .i64 (k+(((Ls.take j).flatten.length:Nat):Int))/\Below w.heap.size w wr) (fun _ i _=>n-(intOf i).toNat)
 case atStart=>exact ⟨0,Nat.zero_le _,rfl,by simp,Below.refl _ _⟩
 case round =>(
 obtain ⟨j,hj,rfl,rfl,aE⟩:=hrel;have hle:=aJ Ls j;by_cases aU:j<n;{
 have aV:(j:Int)<(n:Int):=by omega
 obtain ⟨b,o,x,l,rfl,hx,hl,hP,gO,dD⟩:=aa lG j aU;have hh:=(HA.flat gO).below aE;have re:(Ls.take (j+1)).flatten.length=(Ls.take j).flatten.length+l.length:=by rw [gO,List.length_append]
 have iK:k+((Ls.take j).flatten.length:Int)+(l.length:Int)<=100000000:=by have:=aJ Ls (j+1);omega
 have HT:=ae re;generalize hT:(Ls.take j).flatten.length=T at *;clear hT hx hl gO dD re;have Lg:0<=k+(T:Int):=by omega
 have Ie:=hP.below aE;obtain ⟨p0,c0,p1,c1,p4,c4,p7,c7,l0,l1,l4,l7,rfl,⟨h1,h2⟩,⟨h3,h4⟩,⟨h5,h6⟩,⟨h7,h8⟩⟩:=Ie;have HD:=ae (ag h1 (ag h3 (ag h5 h7)));have vZ:=ae (ag h2 (ag h4 (ag h6 h8)));clear h1 h2 h3 h4 h5 h6 h7 h8;have hlen:k+(T:Int)+(4+(l0.length:Int)+(l1.length:Int)+(l4.length:Int)+(l7.length:Int))<=100000000:=by simp only [List.length_append,List.length_cons] at iK;omega
 clear iK hP;have s0:aY wr l0 (k+(T:Int)):=(aY.app hh).1;have t0:=(aY.app hh).2;have s1:aY wr l1 (k+(T:Int)+(l0.length:Int)):=(aY.app t0).1;have t1:=(aY.app t0).2;have jf:wr.cell? ⟨b,o+j*8+2,none⟩=some (.int .u64 (k+(T:Int)+(l0.length:Int)+(l1.length:Int))):=(aY.cons t1).1;have t2:=(aY.cons t1).2;have Ag:wr.cell? ⟨b,o+j*8+3,none⟩=some (.int .i64 (k+(T:Int)+(l0.length:Int)+(l1.length:Int)+1)):=(aY.cons t2).1;have t3:=(aY.cons t2).2;have s4:aY wr l4 (k+(T:Int)+(l0.length:Int)+(l1.length:Int)+1+1):=(aY.app t3).1;have t4:=(aY.app t3).2;have vw:wr.cell? ⟨b,o+j*8+5,none⟩=some (.int .u64 (k+(T:Int)+(l0.length:Int)+(l1.length:Int)+1+1+(l4.length:Int))):=(aY.cons t4).1;have t5:=(aY.cons t4).2;have sw:wr.cell? ⟨b,o+j*8+6,none⟩=some (.int .u64 (k+(T:Int)+(l0.length:Int)+(l1.length:Int)+1+1+(l4.length:Int)+1)):=(aY.cons t5).1;have t6:=(aY.cons t5).2;have s7:aY wr l7 (k+(T:Int)+(l0.length:Int)+(l1.length:Int)+1+1+(l4.length:Int)+1+1):=t6;have HS:=ae (ag s0 (ag s1 (ag s4 (s7))));have tK:=ae (ag jf (ag Ag (ag vw (sw))));have W0:=ae (Below.refl wr.heap.size wr);clear hh t2 t3 t5 t6 t0 t1 t4 s0 s1 s4 s7 jf Ag vw sw;have hd0:=af HD.1 W0;go_wp2_with fail;clear hd0;refine (ig p0 c0 x.path.length (x.path) l0 (k+(T:Int)) _ vZ.1 (HS.1.below W0) (by omega) (by omega)).mono ?_;rintro e v0 ⟨rfl,N0⟩;have WH:=ae (ai W0 N0);have RI:¬ k+(T:Int)+(l0.length:Int)<0:=by omega
 clear N0;have hd1:=af HD.2.1 WH;go_wp2_with fail;clear hd1;refine (ig p1 c1 x.value.length (x.value) l1 (k+(T:Int)+(l0.length:Int)) _ vZ.2.1 (HS.2.1.below WH) (by omega) (by omega)).mono ?_;rintro e v1 ⟨rfl,N1⟩;have BV1:=ae (ai WH N1);have bc1:¬ k+(T:Int)+(l0.length:Int)+(l1.length:Int)<0:=by omega
 clear N1;have jf:=af tK.1 BV1;have aC1:((k+(T:Int)+(l0.length:Int)+(l1.length:Int)) != (k+(T:Int)+(l0.length:Int)+(l1.length:Int)))=false:=by simp
 have Ag:=af tK.2.1 BV1;have aC0:((k+(T:Int)+(l0.length:Int)+(l1.length:Int)+1) != (k+(T:Int)+(l0.length:Int)+(l1.length:Int)+1))=false:=by simp
 have hd4:=af HD.2.2.1 BV1;go_wp2_with fail;clear jf aC1 Ag aC0 hd4;refine (nJ p4 c4 x.holders.length (x.holders) l4 (k+(T:Int)+(l0.length:Int)+(l1.length:Int)+1+1) _ vZ.2.2.1 (HS.2.2.1.below BV1) (by omega) (by omega)).mono ?_;rintro e v2 ⟨rfl,N2⟩;have BV2:=ae (ai BV1 N2);have bb9:¬ k+(T:Int)+(l0.length:Int)+(l1.length:Int)+1+1+(l4.length:Int)<0:=by omega
 clear N2;have vw:=af tK.2.2.1 BV2;have aB9:((k+(T:Int)+(l0.length:Int)+(l1.length:Int)+1+1+(l4.length:Int)) != (k+(T:Int)+(l0.length:Int)+(l1.length:Int)+1+1+(l4.length:Int)))=false:=by simp
 have sw:=af tK.2.2.2 BV2;have aB8:((k+(T:Int)+(l0.length:Int)+(l1.length:Int)+1+1+(l4.length:Int)+1) != (k+(T:Int)+(l0.length:Int)+(l1.length:Int)+1+1+(l4.length:Int)+1))=false:=by simp
 have hd7:=af HD.2.2.2 BV2;go_wp2_with fail;clear vw aB9 sw aB8 hd7;refine (nJ p7 c7 x.watchers.length (x.watchers) l7 (k+(T:Int)+(l0.length:Int)+(l1.length:Int)+1+1+(l4.length:Int)+1+1) _ vZ.2.2.2 (HS.2.2.2.below BV2) (by omega) (by omega)).mono ?_;rintro e v3 ⟨rfl,N3⟩;have BV3:=ae (ai BV2 N3);have bb8:¬ k+(T:Int)+(l0.length:Int)+(l1.length:Int)+1+1+(l4.length:Int)+1+1+(l7.length:Int)<0:=by omega
 clear N3;have b1:=ai aE BV3;clear aE;go_wp2;go_roundw
 case rel=>exact ⟨j+1,by omega,by go_num,by rw [aa HT];first | go_num | (simp;omega) | (congr 1;simp;omega),by first | exact b1 | exact below_drewN b1 _⟩
 case measure=>simp [intOf];omega}
 {
 have e:j=n:=by omega
 subst e;have e2:(Ls.take j).flatten=A:=by rw [<-aa LL,List.take_length];exact EA.symm
 rw [e2];clear hle lG HA;go_wp2;go_ret;exact ⟨rfl,aE⟩})
theorem yI (I D:Int) (p:Option Addr) (c n:Nat) (Q:List Ev) (en:Hid (Q.length=n)) (w:World) (BZ:Nat) (hB:BZ<=w.heap.size) (h:nS w (.slice p n c) Q) (hn:n<=1048576) (ij:Hid (∀ y∈Q,y.2.length<=1048576)) :
  Calls prog 66 #[.agg #[.int .u64 I,.int .i64 D,.slice p n c]] w fun r w'=>∃ p2 d2,r=.returned (.agg #[.int .u64 I,.int .i64 D,.slice p2 n d2])/\Ab w.heap.size w' (fun u=>xv BZ u (.slice p2 n d2) Q)/\Below w.heap.size w w':=by
 have R2:=ae fun (w':World) (hb:Below w.heap.size w w')=>h.below hb;clear h;go_enter func66,ntmps66;go_wp2_with fail;obtain ⟨W1,fN⟩:=ax (w.alloc (.cells #[.int .u64 I,.int .i64 D,.slice p n c] 84));obtain ⟨W2,gr⟩:=ax (W1.alloc (.cells #[.int .u64 0,.int .i64 0,.slice none 0 0] 95));obtain ⟨W,hW⟩:=ax (W2.alloc (.cells #[.int .u64 I,.int .i64 D,.slice none 0 0] 95));have z1:W1.heap.size=w.heap.size+1:=by rw [fN];simp
 have z2:W2.heap.size=w.heap.size+2:=by rw [gr];simp;omega
 have zW:W.heap.size=w.heap.size+3:=by rw [hW];simp;omega
 have b1:Below w.heap.size w W1:=by rw [fN];exact ar.alloc ay _
 have b2:Below W1.heap.size W1 W2:=by rw [gr];exact ar.alloc ay _
 have b3:Below W2.heap.size W2 W:=by rw [hW];exact ar.alloc ay _
 have bW:Below w.heap.size w W:=ai (ai b1 b2) b3;obtain ⟨A,eA⟩:=ax w.heap.size;obtain ⟨R,eR⟩:=ax (A+1);obtain ⟨C,eC⟩:=ax (R+1);have hA:ah W A [.int .u64 I,.int .i64 D,.slice p n c]:=by
  have h0:ah W1 A [.int .u64 I,.int .i64 D,.slice p n c]:=by rw [fN,eA];exact ah.alloc w #[.int .u64 I,.int .i64 D,.slice p n c] _
  exact (h0.below (by omega) b2).below (by omega) b3
 have hR:ah W R [.int .u64 0,.int .i64 0,.slice none 0 0]:=by
  have h0:ah W2 R [.int .u64 0,.int .i64 0,.slice none 0 0]:=by rw [gr,show R=W1.heap.size by omega];exact ah.alloc W1 #[.int .u64 0,.int .i64 0,.slice none 0 0] _
  exact h0.below (by omega) b3
 have hC:ah W C [.int .u64 I,.int .i64 D,.slice none 0 0]:=by rw [hW,show C=W2.heap.size by omega];exact ah.alloc W2 #[.int .u64 I,.int .i64 D,.slice none 0 0] _
 rw [<-fN,<-gr,<-hW,<-eA,<-eR,<-eC];have HE:=ae (ag eA (ag eR (ag eC zW)));have BW:=ae bW;have HA:=ae hA;have qt:=ae hR;have HC:=ae hC;clear hW fN gr eA eR eC zW bW z1 z2 b1 b2 b3 hA hR hC;refine (Bt p c n Q en _ BZ (Nat.le_trans hB BW.size) (aa R2 _ BW) hn ij).mono ?_;rintro r w2 ⟨p2,d2,rfl,ab2,aG⟩;have ZS2:Hid (W.heap.size<=W.heap.size/\W.heap.size<=w2.heap.size):=⟨Nat.le_refl _,aG.size⟩;have WB:=ae (HA.below (by obtain ⟨eA,eR,eC,zW⟩:=aa HE;have:=aa ZS2;omega) aG);have GY:=ae (qt.below (by obtain ⟨eA,eR,eC,zW⟩:=aa HE;have:=aa ZS2;omega) aG);have Rn:=ae (HC.below (by obtain ⟨eA,eR,eC,zW⟩:=aa HE;have:=aa ZS2;omega) aG);have B2:=ae (ai BW aG);have aj8:=ae (Ab.mono (B:=W.heap.size) ab2 ZS2.1);clear ab2 aG;have MG:=WB.1 0 _ rfl;have MF:=WB.1 1 _ rfl;have N8:=WB.1 2 _ rfl;have FG:=Rn.1 0 _ rfl;have FE:=Rn.1 1 _ rfl;have IG:=Rn.1 2 _ rfl;have fC:=Rn.2;have yi:¬ C=A:=by obtain ⟨eA,eR,eC,zW⟩:=aa HE;omega
 have VT:=GY.1 0 _ rfl;have VS:=GY.1 1 _ rfl;have cr2:=GY.1 2 _ rfl;have fR:=GY.2;have Qt:¬ R=A:=by obtain ⟨eA,eR,eC,zW⟩:=aa HE;omega
 have CQ:¬ R=C:=by obtain ⟨eA,eR,eC,zW⟩:=aa HE;omega
 have Qr:¬ C=R:=by obtain ⟨eA,eR,eC,zW⟩:=aa HE;omega
 go_wp2;obtain ⟨eA,eR,eC,zW⟩:=aa HE;have zz:=aa ZS2;refine bodyPost_ret (v:=.agg #[.int .u64 I,.int .i64 D,.slice p2 n d2]) (by simp [results,results66,go_sem,FG,FE,IG,VT,VS,cr2,yi,Qt,CQ,Qr]) rfl ⟨p2,d2,rfl,Ab.mono (B:=w.heap.size) (B':=W.heap.size) ?_ (by omega),?_⟩;{
 iterate 4 (refine Ab.set ?_ (by simp;omega) _)
 exact aj8};{
 iterate 4 (refine Below.setCell ?_ (by simp;omega) _)
 exact B2}
theorem wW (p:Option Addr) (c n:Nat) (l:List aR) (en:Hid (l.length=n)) (w:World) (BZ:Nat) (hB:BZ<=w.heap.size) (h:nR w (.slice p n c) l) (hn:n<=1048576) (ij:Hid (∀ y∈l,y.2.2.length<=1048576/\∀ e∈y.2.2,e.2.length<=1048576)) :
  Calls prog 25 #[.slice p n c] w fun e w'=>∃ p' c',e=.returned (.slice p' n c')/\Ab w.heap.size w' (fun u=>AI BZ u (.slice p' n c') l)/\Below w.heap.size w w':=by
 obtain ⟨i,hi,jG,gi,gP⟩:=info_parts Tryz.infoSes;have HR:=ae fun (w':World) (hb:Below w.heap.size w w')=>h.below hb;clear h;go_enter func25,ntmps25;go_wp2_with (first | (at_make;refine wpList_make_full _ rfl _ _ 32 rfl w.heap.size 95 i _ 3 underlying32 hi jG gi _ _ _ _ n rfl rfl rfl rfl ?b2 ?b3 ?b4 ?_))
 case b2=>rw [gP];omega
 case b3=>unfold maxLen;omega
 case b4=>exact Nat.le_refl _
 intro w1 aS hg;have hb:=fu hg;obtain ⟨G,eG⟩:=ax w.heap.size;rw [<-eG] at aS ⊢;have zG:G<w1.heap.size:=(World.ownsRow.lt aS G rfl).2;have ri:w.heap.size<=G:=by omega
 have Ln:G<=w.heap.size:=by omega
 clear hg eG;go_wp2_with fail
 go_loopw [4] (fun iv wr=>∃ (k:Nat) (L:List Value),k<=n/\iv=.int .i64 k/\Hid (wr.ownsRow G 95 3 (.slice (some ⟨G,0,none⟩) n n) n L/\∀ (j:Nat) (y:aR),j<k->l[j]?=some y->L[j*3]?=some (.int .u64 y.1)/\L[j*3+1]?=some (.int .i64 y.2.1)/\∃ v,L[j*3+2]?=some v/\Ab (G+1) wr (fun u=>xv BZ u v y.2.2))/\Below w.heap.size w wr/\G<wr.heap.size) (fun iv _=>n-(intOf iv).toNat)
 case atStart=>exact ⟨0,_,Nat.zero_le _,rfl,⟨aS,fun j y hj=>by omega⟩,hb,zG⟩
 case round =>(
 obtain ⟨k,L,hk,rfl,fP,aE,pR⟩:=hrel;by_cases aU:k<n;{
 have aV:(k:Int)<(n:Int):=by omega
 have bH:k<l.length:=by rw [aa en];exact aU
 obtain ⟨y,hy⟩:∃ y,l[k]?=some y:=⟨_,aH bH⟩;have du:=aa ij y (aL hy);obtain ⟨I,D,Q⟩:=y;obtain ⟨b,o,rfl,Sh,Si,u,Jk,zL⟩:∃ b o,p=some ⟨b,o,none⟩/\wr.cell? ⟨b,o+k*3,none⟩=some (.int .u64 I)/\wr.cell? ⟨b,o+k*3+1,none⟩=some (.int .i64 D)/\∃ u,wr.cell? ⟨b,o+k*3+2,none⟩=some u/\nS wr u Q:=by obtain ⟨p',c',ev,hd⟩:=aa HR _ aE;simp only [Value.slice.injEq] at ev;obtain ⟨rfl,-,-⟩:=ev;rcases hd with h0 | ⟨b,o,h1,h2⟩;{rw [h0] at bH;simp at bH};{exact ⟨b,o,h1,h2 k _ hy⟩}
 obtain ⟨pq,cq,rfl,-⟩:=id zL;obtain ⟨m,em⟩:=aZ Q.length;rw [em] at zL Jk;have hm:m<=1048576:=by rw [<-em];exact du.1
 have EM:=ae em;have HEL:Hid (∀ y∈Q,y.2.length<=1048576):=du.2;have Oe:=ae zL;clear zL em;clear bH du;go_wp2_with fail;refine (yI I D pq cq m Q EM _ BZ (Nat.le_trans hB aE.size) Oe hm HEL).mono ?_;rintro r w2 ⟨p2,d2,rfl,wF,aG⟩;have b2:=ai aE aG;obtain ⟨ho,hL⟩:=aa fP;have iC:=ho.kept (lY aG) (by right;simp [Value.ownBlock]);have hlen:L.length=n*3:=ho.1;obtain ⟨u0,oF⟩:∃ u,w2.cell? ⟨G,k*3,none⟩=some u:=by rw [iC.cellAt (k*3) (by omega)];exact ⟨_,aH (by omega)⟩
 have xY:=iC.frozenAt (k*3);obtain ⟨u1,jg⟩:∃ u,w2.cell? ⟨G,k*3+1,none⟩=some u:=by rw [iC.cellAt (k*3+1) (by omega)];exact ⟨_,aH (by omega)⟩
 have vt:=iC.frozenAt (k*3+1);obtain ⟨u2,jf⟩:∃ u,w2.cell? ⟨G,k*3+2,none⟩=some u:=by rw [iC.cellAt (k*3+2) (by omega)];exact ⟨_,aH (by omega)⟩
 have CM:=iC.frozenAt (k*3+2);have Yf:G<w2.heap.size:=Nat.lt_of_lt_of_le pR aG.size;obtain ⟨w3,ve⟩:=ax (((w2.setCell ⟨G,k*3,none⟩ (.int .u64 I)).setCell ⟨G,k*3+1,none⟩ (.int .i64 D)).setCell ⟨G,k*3+2,none⟩ (.slice p2 m d2));have ir:Hid (w3.ownsRow G 95 3 (.slice (some ⟨G,0,none⟩) n n) n ((((L).set (k*3) (.int .u64 I)).set (k*3+1) (.int .i64 D)).set (k*3+2) (.slice p2 m d2))/\∀ (j:Nat) (y:aR),j<k+1->l[j]?=some y->((((L).set (k*3) (.int .u64 I)).set (k*3+1) (.int .i64 D)).set (k*3+2) (.slice p2 m d2))[j*3]?=some (.int .u64 y.1)/\((((L).set (k*3) (.int .u64 I)).set (k*3+1) (.int .i64 D)).set (k*3+2) (.slice p2 m d2))[j*3+1]?=some (.int .i64 y.2.1)/\∃ v,((((L).set (k*3) (.int .u64 I)).set (k*3+1) (.int .i64 D)).set (k*3+2) (.slice p2 m d2))[j*3+2]?=some v/\Ab (G+1) w3 (fun u=>xv BZ u v y.2.2)):=by refine ⟨by rw [ve];exact (World.ownsRow.stored ((World.ownsRow.stored ((World.ownsRow.stored (iC) (k*3) _).1) (k*3+1) _).1) (k*3+2) _).1,fun j z hj hz=>?_⟩;by_cases ej:j=k;{rw [ej] at hz ⊢;rw [hy] at hz;cases hz;refine ⟨by rw [aX (by omega)];rw [aX (by omega)];exact List.getElem?_set_self (by first | omega | (simp only [List.length_set];omega)),by rw [aX (by omega)];exact List.getElem?_set_self (by first | omega | (simp only [List.length_set];omega)),_,by  exact List.getElem?_set_self (by first | omega | (simp only [List.length_set];omega)),?_⟩;exact (by rw [ve];exact Ab.set (Ab.set (Ab.set (Ab.mono wF (by omega)) (a:=⟨G,k*3,none⟩) (by show G<_;omega) _) (a:=⟨G,k*3+1,none⟩) (by show G<_;omega) _) (a:=⟨G,k*3+2,none⟩) (by show G<_;omega) _)};{obtain ⟨q1,q2,v,q3,q4⟩:=hL j z (by omega) hz;refine ⟨(by rw [aX (by omega)];rw [aX (by omega)];rw [aX (by omega)];exact q1),(by rw [aX (by omega)];rw [aX (by omega)];rw [aX (by omega)];exact q2),v,(by rw [aX (by omega)];rw [aX (by omega)];rw [aX (by omega)];exact q3),?_⟩;exact (by rw [ve];exact Ab.set (Ab.set (Ab.set (q4.below aG) (a:=⟨G,k*3,none⟩) (by show G<_;omega) _) (a:=⟨G,k*3+1,none⟩) (by show G<_;omega) _) (a:=⟨G,k*3+2,none⟩) (by show G<_;omega) _)}
 have bb:Below w.heap.size w w3:=by rw [ve];exact Below.setCell (Below.setCell (Below.setCell (b2) (p:=⟨G,k*3,none⟩) ri _) (p:=⟨G,k*3+1,none⟩) ri _) (p:=⟨G,k*3+2,none⟩) ri _
 have Xx:G<w3.heap.size:=by rw [ve];simpa using Yf
 clear ho hL fP iC wF hlen aS hb b2 aG aE;go_wp2_with fail;rw [<-ve];clear ve oF jg jf xY vt CM Sh Si Jk;go_wp2;go_roundw
 case rel=>exact ⟨k+1,_,by omega,by go_num,ir,bb,Xx⟩
 case measure=>simp [intOf];omega}
 {
 have aV:¬ (k:Int)<(n:Int):=by omega
 have ui:k=n:=by omega
 subst ui;obtain ⟨ho,hL⟩:=aa fP;have pX:Ab w.heap.size wr (fun u=>AI BZ u (.slice (some ⟨G,0,none⟩) k k) l):=by
  intro u hu;refine ⟨some ⟨G,0,none⟩,k,by rw [aa en],Nf.row ho (by omega) (hu G (by omega) pR),?_⟩;refine .inr ⟨G,0,rfl,fun i y hy=>?_⟩;have ua:i<k:=by rw [<-aa en];exact (aM.1 hy).1
  have jA:∀ j,j<k*3->u.cell? ⟨G,0+j,none⟩=L[j]?:=fun j hj=>by rw [Nat.zero_add,aj (hu G (by omega) pR),ho.cellAt j hj]
  have zJ:∀ q,G+1<=q->q<wr.heap.size->u.heap[q]?=wr.heap[q]?:=fun q h1 h2=>hu q (by omega) h2;obtain ⟨q1,q2,v,q3,q4⟩:=hL i y ua hy;refine ⟨by rw [jA _ (by omega)];exact q1,by rw [Nat.add_assoc,jA _ (by omega)];exact q2,v,by rw [Nat.add_assoc,jA _ (by omega)];exact q3,q4 u zJ⟩
 clear ho hL fP aS hb;go_wp2;go_ret;exact ⟨_,_,rfl,pX,aE⟩})
theorem Hd (ow mo ep ge:Int) (pp pv ph pu:Option Addr) (a1 a2 a3 a4 n1 n2 n3 n4:Nat) (P V H U:List Int) (e1:Hid (P.length=n1)) (e2:Hid (V.length=n2)) (e3:Hid (H.length=n3)) (e4:Hid (U.length=n4)) (w:World) (BZ:Nat) (hB:BZ<=w.heap.size) (h1:Rd w (.slice pp n1 a1) P) (h2:Rd w (.slice pv n2 a2) V) (h3:iA w (.slice ph n3 a3) H) (h4:iA w (.slice pu n4 a4) U) (m1:n1<=1048576) (m2:n2<=1048576) (m3:n3<=1048576) (m4:n4<=1048576) :
  Calls prog 67 #[.agg #[.slice pp n1 a1,.slice pv n2 a2,.int .u64 ow,.int .i64 mo,.slice ph n3 a3,.int .u64 ep,.int .u64 ge,.slice pu n4 a4]] w fun r w'=>∃ p0 d0 p1 d1 p4 d4 p7 d7,r=.returned (.agg #[.slice p0 n1 d0,.slice p1 n2 d1,.int .u64 ow,.int .i64 mo,.slice p4 n3 d4,.int .u64 ep,.int .u64 ge,.slice p7 n4 d7])/\Ab w.heap.size w' (fun u=>(Rd u (.slice p0 n1 d0) P/\dh (.slice p0 n1 d0)/\Nf BZ u (.slice p0 n1 d0))/\(Rd u (.slice p1 n2 d1) V/\dh (.slice p1 n2 d1)/\Nf BZ u (.slice p1 n2 d1))/\(iA u (.slice p4 n3 d4) H/\Nf BZ u (.slice p4 n3 d4))/\(iA u (.slice p7 n4 d7) U/\Nf BZ u (.slice p7 n4 d7)))/\Below w.heap.size w w':=by
 have R0:=ae fun (w':World) (hb:Below w.heap.size w w')=>h1.below hb;have R1:=ae fun (w':World) (hb:Below w.heap.size w w')=>h2.below hb;have R4:=ae fun (w':World) (hb:Below w.heap.size w w')=>h3.below hb;have R7:=ae fun (w':World) (hb:Below w.heap.size w w')=>h4.below hb;clear h1 h2 h3 h4;go_enter func67,ntmps67;go_wp2_with fail;obtain ⟨W1,fN⟩:=ax (w.alloc (.cells #[.slice pp n1 a1,.slice pv n2 a2,.int .u64 ow,.int .i64 mo,.slice ph n3 a3,.int .u64 ep,.int .u64 ge,.slice pu n4 a4] 88));obtain ⟨W2,gr⟩:=ax (W1.alloc (.cells #[.slice none 0 0,.slice none 0 0,.int .u64 0,.int .i64 0,.slice none 0 0,.int .u64 0,.int .u64 0,.slice none 0 0] 103));obtain ⟨W,hW⟩:=ax (W2.alloc (.cells #[.slice none 0 0,.slice none 0 0,.int .u64 0,.int .i64 0,.slice none 0 0,.int .u64 0,.int .u64 0,.slice none 0 0] 103));have z1:W1.heap.size=w.heap.size+1:=by rw [fN];simp
 have z2:W2.heap.size=w.heap.size+2:=by rw [gr];simp;omega
 have zW:W.heap.size=w.heap.size+3:=by rw [hW];simp;omega
 have b1:Below w.heap.size w W1:=by rw [fN];exact ar.alloc ay _
 have b2:Below W1.heap.size W1 W2:=by rw [gr];exact ar.alloc ay _
 have b3:Below W2.heap.size W2 W:=by rw [hW];exact ar.alloc ay _
 have bW:Below w.heap.size w W:=ai (ai b1 b2) b3;obtain ⟨A,eA⟩:=ax w.heap.size;obtain ⟨R,eR⟩:=ax (A+1);obtain ⟨C,eC⟩:=ax (R+1);have hA:ah W A [.slice pp n1 a1,.slice pv n2 a2,.int .u64 ow,.int .i64 mo,.slice ph n3 a3,.int .u64 ep,.int .u64 ge,.slice pu n4 a4]:=by
  have h0:ah W1 A [.slice pp n1 a1,.slice pv n2 a2,.int .u64 ow,.int .i64 mo,.slice ph n3 a3,.int .u64 ep,.int .u64 ge,.slice pu n4 a4]:=by rw [fN,eA];exact ah.alloc w #[.slice pp n1 a1,.slice pv n2 a2,.int .u64 ow,.int .i64 mo,.slice ph n3 a3,.int .u64 ep,.int .u64 ge,.slice pu n4 a4] _
  exact (h0.below (by omega) b2).below (by omega) b3
 have hR:ah W R [.slice none 0 0,.slice none 0 0,.int .u64 0,.int .i64 0,.slice none 0 0,.int .u64 0,.int .u64 0,.slice none 0 0]:=by
  have h0:ah W2 R [.slice none 0 0,.slice none 0 0,.int .u64 0,.int .i64 0,.slice none 0 0,.int .u64 0,.int .u64 0,.slice none 0 0]:=by rw [gr,show R=W1.heap.size by omega];exact ah.alloc W1 #[.slice none 0 0,.slice none 0 0,.int .u64 0,.int .i64 0,.slice none 0 0,.int .u64 0,.int .u64 0,.slice none 0 0] _
  exact h0.below (by omega) b3
 have hC:ah W C [.slice none 0 0,.slice none 0 0,.int .u64 0,.int .i64 0,.slice none 0 0,.int .u64 0,.int .u64 0,.slice none 0 0]:=by rw [hW,show C=W2.heap.size by omega];exact ah.alloc W2 #[.slice none 0 0,.slice none 0 0,.int .u64 0,.int .i64 0,.slice none 0 0,.int .u64 0,.int .u64 0,.slice none 0 0] _
 rw [<-fN,<-gr,<-hW,<-eA,<-eR,<-eC];have HE:=ae (ag eA (ag eR (ag eC zW)));have BW:=ae bW;have HA:=ae hA;have qt:=ae hR;have HC:=ae hC;clear hW fN gr eA eR eC zW bW z1 z2 b1 b2 b3 hA hR hC;refine (pG pp a1 n1 P e1 _ BZ (Nat.le_trans hB BW.size) (aa R0 _ BW) m1).mono ?_;rintro r w0 ⟨p0,d0,rfl,ab0,WZ⟩;have ZS0:Hid (W.heap.size<=W.heap.size/\W.heap.size<=w0.heap.size):=⟨Nat.le_refl _,WZ.size⟩;have AR:=ae (HA.below (by obtain ⟨eA,eR,eC,zW⟩:=aa HE;have:=aa ZS0;omega) WZ);have af3:=ae (qt.below (by obtain ⟨eA,eR,eC,zW⟩:=aa HE;have:=aa ZS0;omega) WZ);have xx:=ae (HC.below (by obtain ⟨eA,eR,eC,zW⟩:=aa HE;have:=aa ZS0;omega) WZ);have B0:=ae (ai BW WZ);have ak4:=ae (Ab.mono (B:=W.heap.size) ab0 ZS0.1);clear ab0 WZ;have MG:=AR.1 0 _ rfl;have MF:=AR.1 1 _ rfl;have N8:=AR.1 2 _ rfl;have Q5:=AR.1 3 _ rfl;have QX:=AR.1 4 _ rfl;have QW:=AR.1 5 _ rfl;have Xi:=AR.1 6 _ rfl;have Xh:=AR.1 7 _ rfl;have FG:=xx.1 0 _ rfl;have FE:=xx.1 1 _ rfl;have IG:=xx.1 2 _ rfl;have My:=xx.1 3 _ rfl;have Mx:=xx.1 4 _ rfl;have Mw:=xx.1 5 _ rfl;have VV:=xx.1 6 _ rfl;have VU:=xx.1 7 _ rfl;have fC:=xx.2;have yi:¬ C=A:=by obtain ⟨eA,eR,eC,zW⟩:=aa HE;omega
 go_wp2_with fail;clear MG MF N8 Q5 QX QW Xi Xh FG FE IG My Mx Mw VV VU fC yi;obtain ⟨X0,Sl⟩:=ax (w0.setCell ⟨C,0,none⟩ (.slice p0 n1 d0));have aT7:Hid (ah X0 A [.slice pp n1 a1,.slice pv n2 a2,.int .u64 ow,.int .i64 mo,.slice ph n3 a3,.int .u64 ep,.int .u64 ge,.slice pu n4 a4]):=by show ah _ _ _;rw [Sl];exact ah.kO (aa AR) (a:=⟨C,0,none⟩) (by obtain ⟨eA,eR,eC,zW⟩:=aa HE;simp;omega) _
 have af2:Hid (ah X0 R [.slice none 0 0,.slice none 0 0,.int .u64 0,.int .i64 0,.slice none 0 0,.int .u64 0,.int .u64 0,.slice none 0 0]):=by show ah _ _ _;rw [Sl];exact ah.kO (aa af3) (a:=⟨C,0,none⟩) (by obtain ⟨eA,eR,eC,zW⟩:=aa HE;simp;omega) _
 have aT1:Hid (ah X0 C [.slice p0 n1 d0,.slice none 0 0,.int .u64 0,.int .i64 0,.slice none 0 0,.int .u64 0,.int .u64 0,.slice none 0 0]):=by show ah _ _ _;rw [Sl];exact ah.dC (aa xx) 0 (by simp) (.slice p0 n1 d0)
 have Xu:Hid (Below w.heap.size w X0):=by show Below _ _ _;rw [Sl];exact Below.setCell (aa B0) (p:=⟨C,0,none⟩) (by obtain ⟨eA,eR,eC,zW⟩:=aa HE;simp;omega) _
 have WN:Hid (Ab W.heap.size X0 (fun u=>(Rd u (.slice p0 n1 d0) P/\dh (.slice p0 n1 d0)/\Nf BZ u (.slice p0 n1 d0)))):=by show Ab _ _ _;rw [Sl];exact Ab.set (aa ak4) (a:=⟨C,0,none⟩) (by obtain ⟨eA,eR,eC,zW⟩:=aa HE;simp;omega) _
 have aO3:Hid (W.heap.size<=X0.heap.size):=by show _<=_;rw [Sl];simp;have:=aa ZS0;omega
 rw [<-Sl];clear Sl;refine (pG pv a2 n2 V e2 _ BZ (Nat.le_trans hB Xu.size) (aa R1 _ Xu) m2).mono ?_;rintro r w1 ⟨p1,d1,rfl,ab1,aK⟩;have MX:Hid (W.heap.size<=X0.heap.size/\X0.heap.size<=w1.heap.size):=⟨(aa aO3),aK.size⟩;have tL:=ae (aT7.below (by obtain ⟨eA,eR,eC,zW⟩:=aa HE;have:=aa MX;omega) aK);have DK:=ae (af2.below (by obtain ⟨eA,eR,eC,zW⟩:=aa HE;have:=aa MX;omega) aK);have rK:=ae (aT1.below (by obtain ⟨eA,eR,eC,zW⟩:=aa HE;have:=aa MX;omega) aK);have B1:=ae (ai Xu aK);have Nt:=ae (Ab.mono (B:=W.heap.size) ab1 MX.1);have ak3:=ae (WN.below aK);clear ab1 aK;have MG:=tL.1 0 _ rfl;have MF:=tL.1 1 _ rfl;have N8:=tL.1 2 _ rfl;have Q5:=tL.1 3 _ rfl;have QX:=tL.1 4 _ rfl;have QW:=tL.1 5 _ rfl;have Xi:=tL.1 6 _ rfl;have Xh:=tL.1 7 _ rfl;have FG:=rK.1 0 _ rfl;have FE:=rK.1 1 _ rfl;have IG:=rK.1 2 _ rfl;have My:=rK.1 3 _ rfl;have Mx:=rK.1 4 _ rfl;have Mw:=rK.1 5 _ rfl;have VV:=rK.1 6 _ rfl;have VU:=rK.1 7 _ rfl;have fC:=rK.2;have yi:¬ C=A:=by obtain ⟨eA,eR,eC,zW⟩:=aa HE;omega
 go_wp2_with fail;clear MG MF N8 Q5 QX QW Xi Xh FG FE IG My Mx Mw VV VU fC yi;obtain ⟨X1,Ql⟩:=ax (((w1.setCell ⟨C,1,none⟩ (.slice p1 n2 d1)).setCell ⟨C,2,none⟩ (.int .u64 ow)).setCell ⟨C,3,none⟩ (.int .i64 mo));have aT6:Hid (ah X1 A [.slice pp n1 a1,.slice pv n2 a2,.int .u64 ow,.int .i64 mo,.slice ph n3 a3,.int .u64 ep,.int .u64 ge,.slice pu n4 a4]):=by show ah _ _ _;rw [Ql];exact ah.kO (ah.kO (ah.kO (aa tL) (a:=⟨C,1,none⟩) (by obtain ⟨eA,eR,eC,zW⟩:=aa HE;simp;omega) _) (a:=⟨C,2,none⟩) (by obtain ⟨eA,eR,eC,zW⟩:=aa HE;simp;omega) _) (a:=⟨C,3,none⟩) (by obtain ⟨eA,eR,eC,zW⟩:=aa HE;simp;omega) _
 have af1:Hid (ah X1 R [.slice none 0 0,.slice none 0 0,.int .u64 0,.int .i64 0,.slice none 0 0,.int .u64 0,.int .u64 0,.slice none 0 0]):=by show ah _ _ _;rw [Ql];exact ah.kO (ah.kO (ah.kO (aa DK) (a:=⟨C,1,none⟩) (by obtain ⟨eA,eR,eC,zW⟩:=aa HE;simp;omega) _) (a:=⟨C,2,none⟩) (by obtain ⟨eA,eR,eC,zW⟩:=aa HE;simp;omega) _) (a:=⟨C,3,none⟩) (by obtain ⟨eA,eR,eC,zW⟩:=aa HE;simp;omega) _
 have aT0:Hid (ah X1 C [.slice p0 n1 d0,.slice p1 n2 d1,.int .u64 ow,.int .i64 mo,.slice none 0 0,.int .u64 0,.int .u64 0,.slice none 0 0]):=by show ah _ _ _;rw [Ql];exact ah.dC (ah.dC (ah.dC (aa rK) 1 (by simp) (.slice p1 n2 d1)) 2 (by simp) (.int .u64 ow)) 3 (by simp) (.int .i64 mo)
 have mQ:Hid (Below w.heap.size w X1):=by show Below _ _ _;rw [Ql];exact Below.setCell (Below.setCell (Below.setCell (aa B1) (p:=⟨C,1,none⟩) (by obtain ⟨eA,eR,eC,zW⟩:=aa HE;simp;omega) _) (p:=⟨C,2,none⟩) (by obtain ⟨eA,eR,eC,zW⟩:=aa HE;simp;omega) _) (p:=⟨C,3,none⟩) (by obtain ⟨eA,eR,eC,zW⟩:=aa HE;simp;omega) _
 have WM:Hid (Ab W.heap.size X1 (fun u=>(Rd u (.slice p0 n1 d0) P/\dh (.slice p0 n1 d0)/\Nf BZ u (.slice p0 n1 d0)))):=by show Ab _ _ _;rw [Ql];exact Ab.set (Ab.set (Ab.set (aa ak3) (a:=⟨C,1,none⟩) (by obtain ⟨eA,eR,eC,zW⟩:=aa HE;simp;omega) _) (a:=⟨C,2,none⟩) (by obtain ⟨eA,eR,eC,zW⟩:=aa HE;simp;omega) _) (a:=⟨C,3,none⟩) (by obtain ⟨eA,eR,eC,zW⟩:=aa HE;simp;omega) _
 have WK:Hid (Ab W.heap.size X1 (fun u=>(Rd u (.slice p1 n2 d1) V/\dh (.slice p1 n2 d1)/\Nf BZ u (.slice p1 n2 d1)))):=by show Ab _ _ _;rw [Ql];exact Ab.set (Ab.set (Ab.set (aa Nt) (a:=⟨C,1,none⟩) (by obtain ⟨eA,eR,eC,zW⟩:=aa HE;simp;omega) _) (a:=⟨C,2,none⟩) (by obtain ⟨eA,eR,eC,zW⟩:=aa HE;simp;omega) _) (a:=⟨C,3,none⟩) (by obtain ⟨eA,eR,eC,zW⟩:=aa HE;simp;omega) _
 have aO2:Hid (W.heap.size<=X1.heap.size):=by show _<=_;rw [Ql];simp;have:=aa MX;omega
 rw [<-Ql];clear Ql;refine (qM ph a3 n3 H e3 _ BZ (Nat.le_trans hB mQ.size) (aa R4 _ mQ) m3).mono ?_;rintro r w4 ⟨p4,d4,rfl,MV,fk⟩;have MW:Hid (W.heap.size<=X1.heap.size/\X1.heap.size<=w4.heap.size):=⟨(aa aO2),fk.size⟩;have nW:=ae (aT6.below (by obtain ⟨eA,eR,eC,zW⟩:=aa HE;have:=aa MW;omega) fk);have Nd:=ae (af1.below (by obtain ⟨eA,eR,eC,zW⟩:=aa HE;have:=aa MW;omega) fk);have me:=ae (aT0.below (by obtain ⟨eA,eR,eC,zW⟩:=aa HE;have:=aa MW;omega) fk);have B4:=ae (ai mQ fk);have Ns:=ae (Ab.mono (B:=W.heap.size) MV MW.1);have ak2:=ae (WM.below fk);have ak0:=ae (WK.below fk);clear MV fk;have MG:=nW.1 0 _ rfl;have MF:=nW.1 1 _ rfl;have N8:=nW.1 2 _ rfl;have Q5:=nW.1 3 _ rfl;have QX:=nW.1 4 _ rfl;have QW:=nW.1 5 _ rfl;have Xi:=nW.1 6 _ rfl;have Xh:=nW.1 7 _ rfl;have FG:=me.1 0 _ rfl;have FE:=me.1 1 _ rfl;have IG:=me.1 2 _ rfl;have My:=me.1 3 _ rfl;have Mx:=me.1 4 _ rfl;have Mw:=me.1 5 _ rfl;have VV:=me.1 6 _ rfl;have VU:=me.1 7 _ rfl;have fC:=me.2;have yi:¬ C=A:=by obtain ⟨eA,eR,eC,zW⟩:=aa HE;omega
 go_wp2_with fail;clear MG MF N8 Q5 QX QW Xi Xh FG FE IG My Mx Mw VV VU fC yi;obtain ⟨X4,Ai⟩:=ax (((w4.setCell ⟨C,4,none⟩ (.slice p4 n3 d4)).setCell ⟨C,5,none⟩ (.int .u64 ep)).setCell ⟨C,6,none⟩ (.int .u64 ge));have WA:Hid (ah X4 A [.slice pp n1 a1,.slice pv n2 a2,.int .u64 ow,.int .i64 mo,.slice ph n3 a3,.int .u64 ep,.int .u64 ge,.slice pu n4 a4]):=by show ah _ _ _;rw [Ai];exact ah.kO (ah.kO (ah.kO (aa nW) (a:=⟨C,4,none⟩) (by obtain ⟨eA,eR,eC,zW⟩:=aa HE;simp;omega) _) (a:=⟨C,5,none⟩) (by obtain ⟨eA,eR,eC,zW⟩:=aa HE;simp;omega) _) (a:=⟨C,6,none⟩) (by obtain ⟨eA,eR,eC,zW⟩:=aa HE;simp;omega) _
 have Nc:Hid (ah X4 R [.slice none 0 0,.slice none 0 0,.int .u64 0,.int .i64 0,.slice none 0 0,.int .u64 0,.int .u64 0,.slice none 0 0]):=by show ah _ _ _;rw [Ai];exact ah.kO (ah.kO (ah.kO (aa Nd) (a:=⟨C,4,none⟩) (by obtain ⟨eA,eR,eC,zW⟩:=aa HE;simp;omega) _) (a:=⟨C,5,none⟩) (by obtain ⟨eA,eR,eC,zW⟩:=aa HE;simp;omega) _) (a:=⟨C,6,none⟩) (by obtain ⟨eA,eR,eC,zW⟩:=aa HE;simp;omega) _
 have Wy:Hid (ah X4 C [.slice p0 n1 d0,.slice p1 n2 d1,.int .u64 ow,.int .i64 mo,.slice p4 n3 d4,.int .u64 ep,.int .u64 ge,.slice none 0 0]):=by show ah _ _ _;rw [Ai];exact ah.dC (ah.dC (ah.dC (aa me) 4 (by simp) (.slice p4 n3 d4)) 5 (by simp) (.int .u64 ep)) 6 (by simp) (.int .u64 ge)
 have WG:Hid (Below w.heap.size w X4):=by show Below _ _ _;rw [Ai];exact Below.setCell (Below.setCell (Below.setCell (aa B4) (p:=⟨C,4,none⟩) (by obtain ⟨eA,eR,eC,zW⟩:=aa HE;simp;omega) _) (p:=⟨C,5,none⟩) (by obtain ⟨eA,eR,eC,zW⟩:=aa HE;simp;omega) _) (p:=⟨C,6,none⟩) (by obtain ⟨eA,eR,eC,zW⟩:=aa HE;simp;omega) _
 have WL:Hid (Ab W.heap.size X4 (fun u=>(Rd u (.slice p0 n1 d0) P/\dh (.slice p0 n1 d0)/\Nf BZ u (.slice p0 n1 d0)))):=by show Ab _ _ _;rw [Ai];exact Ab.set (Ab.set (Ab.set (aa ak2) (a:=⟨C,4,none⟩) (by obtain ⟨eA,eR,eC,zW⟩:=aa HE;simp;omega) _) (a:=⟨C,5,none⟩) (by obtain ⟨eA,eR,eC,zW⟩:=aa HE;simp;omega) _) (a:=⟨C,6,none⟩) (by obtain ⟨eA,eR,eC,zW⟩:=aa HE;simp;omega) _
 have WJ:Hid (Ab W.heap.size X4 (fun u=>(Rd u (.slice p1 n2 d1) V/\dh (.slice p1 n2 d1)/\Nf BZ u (.slice p1 n2 d1)))):=by show Ab _ _ _;rw [Ai];exact Ab.set (Ab.set (Ab.set (aa ak0) (a:=⟨C,4,none⟩) (by obtain ⟨eA,eR,eC,zW⟩:=aa HE;simp;omega) _) (a:=⟨C,5,none⟩) (by obtain ⟨eA,eR,eC,zW⟩:=aa HE;simp;omega) _) (a:=⟨C,6,none⟩) (by obtain ⟨eA,eR,eC,zW⟩:=aa HE;simp;omega) _
 have Gb:Hid (Ab W.heap.size X4 (fun u=>(iA u (.slice p4 n3 d4) H/\Nf BZ u (.slice p4 n3 d4)))):=by show Ab _ _ _;rw [Ai];exact Ab.set (Ab.set (Ab.set (aa Ns) (a:=⟨C,4,none⟩) (by obtain ⟨eA,eR,eC,zW⟩:=aa HE;simp;omega) _) (a:=⟨C,5,none⟩) (by obtain ⟨eA,eR,eC,zW⟩:=aa HE;simp;omega) _) (a:=⟨C,6,none⟩) (by obtain ⟨eA,eR,eC,zW⟩:=aa HE;simp;omega) _
 have Wc:Hid (W.heap.size<=X4.heap.size):=by show _<=_;rw [Ai];simp;have:=aa MW;omega
 rw [<-Ai];clear Ai;refine (qM pu a4 n4 U e4 _ BZ (Nat.le_trans hB WG.size) (aa R7 _ WG) m4).mono ?_;rintro r w7 ⟨p7,d7,rfl,S7,x9⟩;have ZS7:Hid (W.heap.size<=X4.heap.size/\X4.heap.size<=w7.heap.size):=⟨(aa Wc),x9.size⟩;have DM:=ae (WA.below (by obtain ⟨eA,eR,eC,zW⟩:=aa HE;have:=aa ZS7;omega) x9);have rI:=ae (Nc.below (by obtain ⟨eA,eR,eC,zW⟩:=aa HE;have:=aa ZS7;omega) x9);have AM:=ae (Wy.below (by obtain ⟨eA,eR,eC,zW⟩:=aa HE;have:=aa ZS7;omega) x9);have B7:=ae (ai WG x9);have aj4:=ae (Ab.mono (B:=W.heap.size) S7 ZS7.1);have ak1:=ae (WL.below x9);have aj9:=ae (WJ.below x9);have aj6:=ae (Gb.below x9);clear S7 x9;have MG:=DM.1 0 _ rfl;have MF:=DM.1 1 _ rfl;have N8:=DM.1 2 _ rfl;have Q5:=DM.1 3 _ rfl;have QX:=DM.1 4 _ rfl;have QW:=DM.1 5 _ rfl;have Xi:=DM.1 6 _ rfl;have Xh:=DM.1 7 _ rfl;have FG:=AM.1 0 _ rfl;have FE:=AM.1 1 _ rfl;have IG:=AM.1 2 _ rfl;have My:=AM.1 3 _ rfl;have Mx:=AM.1 4 _ rfl;have Mw:=AM.1 5 _ rfl;have VV:=AM.1 6 _ rfl;have VU:=AM.1 7 _ rfl;have fC:=AM.2;have yi:¬ C=A:=by obtain ⟨eA,eR,eC,zW⟩:=aa HE;omega
 have VT:=rI.1 0 _ rfl;have VS:=rI.1 1 _ rfl;have cr2:=rI.1 2 _ rfl;have cr3:=rI.1 3 _ rfl;have cr4:=rI.1 4 _ rfl;have cr5:=rI.1 5 _ rfl;have cr6:=rI.1 6 _ rfl;have cr7:=rI.1 7 _ rfl;have fR:=rI.2;have Qt:¬ R=A:=by obtain ⟨eA,eR,eC,zW⟩:=aa HE;omega
 have CQ:¬ R=C:=by obtain ⟨eA,eR,eC,zW⟩:=aa HE;omega
 have Qr:¬ C=R:=by obtain ⟨eA,eR,eC,zW⟩:=aa HE;omega
 go_wp2;obtain ⟨eA,eR,eC,zW⟩:=aa HE;have zz:=aa ZS7;refine bodyPost_ret (v:=.agg #[.slice p0 n1 d0,.slice p1 n2 d1,.int .u64 ow,.int .i64 mo,.slice p4 n3 d4,.int .u64 ep,.int .u64 ge,.slice p7 n4 d7]) (by simp [results,results67,go_sem,FG,FE,IG,My,Mx,Mw,VV,VU,VT,VS,cr2,cr3,cr4,cr5,cr6,cr7,yi,Qt,CQ,Qr]) rfl ⟨p0,d0,p1,d1,p4,d4,p7,d7,rfl,Ab.mono (B:=w.heap.size) (B':=W.heap.size) ?_ (by omega),?_⟩;{
 iterate 9 (refine Ab.set ?_ (by simp;omega) _)
 exact ak1.and (aj9.and (aj6.and aj4))};{
 iterate 9 (refine Below.setCell ?_ (by simp;omega) _)
 exact B7}
theorem Ea (p:Option Addr) (c n:Nat) (l:List aA) (en:Hid (l.length=n)) (w:World) (BZ:Nat) (hB:BZ<=w.heap.size) (h:jB w (.slice p n c) l) (hn:n<=1048576) (ij:Hid (∀ y∈l,y.path.length<=1048576/\y.value.length<=1048576/\y.holders.length<=1048576/\y.watchers.length<=1048576)) :
  Calls prog 26 #[.slice p n c] w fun e w'=>∃ p' c',e=.returned (.slice p' n c')/\Ab w.heap.size w' (fun u=>DJ BZ u (.slice p' n c') l)/\Below w.heap.size w w':=by
 obtain ⟨i,hi,jG,gi,gP⟩:=info_parts Tryz.infoNod;have HR:=ae fun (w':World) (hb:Below w.heap.size w w')=>h.below hb;clear h;go_enter func26,ntmps26;go_wp2_with (first | (at_make;refine wpList_make_full _ rfl _ _ 33 rfl w.heap.size 103 i _ 8 underlying33 hi jG gi _ _ _ _ n rfl rfl rfl rfl ?b2 ?b3 ?b4 ?_))
 case b2=>rw [gP];omega
 case b3=>unfold maxLen;omega
 case b4=>exact Nat.le_refl _
 intro w1 aS hg;have hb:=fu hg;obtain ⟨G,eG⟩:=ax w.heap.size;rw [<-eG] at aS ⊢;have zG:G<w1.heap.size:=(World.ownsRow.lt aS G rfl).2;have ri:w.heap.size<=G:=by omega
 have Ln:G<=w.heap.size:=by omega
 clear hg eG;go_wp2_with fail
 go_loopw [4] (fun iv wr=>∃ (k:Nat) (L:List Value),k<=n/\iv=.int .i64 k/\Hid (wr.ownsRow G 103 8 (.slice (some ⟨G,0,none⟩) n n) n L/\∀ (j:Nat) (y:aA),j<k->l[j]?=some y->∃ P V H U,L[j*8]?=some (P)/\L[j*8+1]?=some (V)/\L[j*8+2]?=some (.int .u64 y.owner)/\L[j*8+3]?=some (.int .i64 y.mode)/\L[j*8+4]?=some (H)/\L[j*8+5]?=some (.int .u64 y.aC)/\L[j*8+6]?=some (.int .u64 y.gen)/\L[j*8+7]?=some (U)/\Ab (G+1) wr (fun u=>(Rd u P y.path/\dh P/\Nf BZ u P)/\(Rd u V y.value/\dh V/\Nf BZ u V)/\(iA u H y.holders/\Nf BZ u H)/\(iA u U y.watchers/\Nf BZ u U)))/\Below w.heap.size w wr/\G<wr.heap.size) (fun iv _=>n-(intOf iv).toNat)
 case atStart=>exact ⟨0,_,Nat.zero_le _,rfl,⟨aS,fun j y hj=>by omega⟩,hb,zG⟩
 case round =>(
 obtain ⟨k,L,hk,rfl,fP,aE,pR⟩:=hrel;by_cases aU:k<n;{
 have aV:(k:Int)<(n:Int):=by omega
 have bH:k<l.length:=by rw [aa en];exact aU
 obtain ⟨y,hy⟩:∃ y,l[k]?=some y:=⟨_,aH bH⟩;have du:=aa ij y (aL hy);obtain ⟨b,o,rfl,hA⟩:=(aa HR _ aE).at (by omega);obtain ⟨P1,V1,H1,U1,na⟩:=hA k y hy;obtain ⟨pp,a1,n1,rfl,e1⟩:=na.r0.ed;obtain ⟨pv,a2,n2,rfl,e2⟩:=na.r1.ed;obtain ⟨ph,a3,n3,rfl,e3⟩:=na.r4.ed;obtain ⟨pu,a4,n4,rfl,e4⟩:=na.r7.ed;have m1:n1<=1048576:=by rw [<-aa e1];exact du.1
 have m2:n2<=1048576:=by rw [<-aa e2];exact du.2.1
 have m3:n3<=1048576:=by rw [<-aa e3];exact du.2.2.1
 have m4:n4<=1048576:=by rw [<-aa e4];exact du.2.2.2
 have HA:=ae (ag na.r0 (ag na.r1 (ag na.r4 na.r7)));obtain ⟨z0,z1,z2,z3,z4,z5,z6,z7,-,-,-,-,-⟩:=na;obtain ⟨ow,mo,ep,ge,g1,g2,g3,g4⟩:∃ a b c d,y.owner=a/\y.mode=b/\y.aC=c/\y.gen=d:=⟨_,_,_,_,rfl,rfl,rfl,rfl⟩;rw [g1] at z2;rw [g2] at z3;rw [g3] at z5;rw [g4] at z6;clear hA;clear bH du;go_wp2_with fail;refine (Hd ow mo ep ge pp pv ph pu a1 a2 a3 a4 n1 n2 n3 n4 y.path y.value y.holders y.watchers e1 e2 e3 e4 _ BZ (Nat.le_trans hB aE.size) HA.1 HA.2.1 HA.2.2.1 HA.2.2.2 m1 m2 m3 m4).mono ?_;rintro r w2 ⟨p0,d0,p1,d1,p4,d4,p7,d7,rfl,wF,aG⟩;have b2:=ai aE aG;obtain ⟨ho,hL⟩:=aa fP;have iC:=ho.kept (lY aG) (by right;simp [Value.ownBlock]);have hlen:L.length=n*8:=ho.1;obtain ⟨u0,oF⟩:∃ u,w2.cell? ⟨G,k*8,none⟩=some u:=by rw [iC.cellAt (k*8) (by omega)];exact ⟨_,aH (by omega)⟩
 have xY:=iC.frozenAt (k*8);obtain ⟨u1,jg⟩:∃ u,w2.cell? ⟨G,k*8+1,none⟩=some u:=by rw [iC.cellAt (k*8+1) (by omega)];exact ⟨_,aH (by omega)⟩
 have vt:=iC.frozenAt (k*8+1);obtain ⟨u2,jf⟩:∃ u,w2.cell? ⟨G,k*8+2,none⟩=some u:=by rw [iC.cellAt (k*8+2) (by omega)];exact ⟨_,aH (by omega)⟩
 have CM:=iC.frozenAt (k*8+2);obtain ⟨u3,Ag⟩:∃ u,w2.cell? ⟨G,k*8+3,none⟩=some u:=by rw [iC.cellAt (k*8+3) (by omega)];exact ⟨_,aH (by omega)⟩
 have qB:=iC.frozenAt (k*8+3);obtain ⟨u4,Af⟩:∃ u,w2.cell? ⟨G,k*8+4,none⟩=some u:=by rw [iC.cellAt (k*8+4) (by omega)];exact ⟨_,aH (by omega)⟩
 have hf4:=iC.frozenAt (k*8+4);obtain ⟨u5,vw⟩:∃ u,w2.cell? ⟨G,k*8+5,none⟩=some u:=by rw [iC.cellAt (k*8+5) (by omega)];exact ⟨_,aH (by omega)⟩
 have hf5:=iC.frozenAt (k*8+5);obtain ⟨u6,sw⟩:∃ u,w2.cell? ⟨G,k*8+6,none⟩=some u:=by rw [iC.cellAt (k*8+6) (by omega)];exact ⟨_,aH (by omega)⟩
 have hf6:=iC.frozenAt (k*8+6);obtain ⟨u7,hc7⟩:∃ u,w2.cell? ⟨G,k*8+7,none⟩=some u:=by rw [iC.cellAt (k*8+7) (by omega)];exact ⟨_,aH (by omega)⟩
 have hf7:=iC.frozenAt (k*8+7);have Yf:G<w2.heap.size:=Nat.lt_of_lt_of_le pR aG.size;obtain ⟨w3,ve⟩:=ax ((((((((w2.setCell ⟨G,k*8,none⟩ (.slice p0 n1 d0)).setCell ⟨G,k*8+1,none⟩ (.slice p1 n2 d1)).setCell ⟨G,k*8+2,none⟩ (.int .u64 ow)).setCell ⟨G,k*8+3,none⟩ (.int .i64 mo)).setCell ⟨G,k*8+4,none⟩ (.slice p4 n3 d4)).setCell ⟨G,k*8+5,none⟩ (.int .u64 ep)).setCell ⟨G,k*8+6,none⟩ (.int .u64 ge)).setCell ⟨G,k*8+7,none⟩ (.slice p7 n4 d7));have ir:Hid (w3.ownsRow G 103 8 (.slice (some ⟨G,0,none⟩) n n) n (((((((((L).set (k*8) (.slice p0 n1 d0)).set (k*8+1) (.slice p1 n2 d1)).set (k*8+2) (.int .u64 ow)).set (k*8+3) (.int .i64 mo)).set (k*8+4) (.slice p4 n3 d4)).set (k*8+5) (.int .u64 ep)).set (k*8+6) (.int .u64 ge)).set (k*8+7) (.slice p7 n4 d7))/\∀ (j:Nat) (y:aA),j<k+1->l[j]?=some y->∃ P V H U,(((((((((L).set (k*8) (.slice p0 n1 d0)).set (k*8+1) (.slice p1 n2 d1)).set (k*8+2) (.int .u64 ow)).set (k*8+3) (.int .i64 mo)).set (k*8+4) (.slice p4 n3 d4)).set (k*8+5) (.int .u64 ep)).set (k*8+6) (.int .u64 ge)).set (k*8+7) (.slice p7 n4 d7))[j*8]?=some (P)/\(((((((((L).set (k*8) (.slice p0 n1 d0)).set (k*8+1) (.slice p1 n2 d1)).set (k*8+2) (.int .u64 ow)).set (k*8+3) (.int .i64 mo)).set (k*8+4) (.slice p4 n3 d4)).set (k*8+5) (.int .u64 ep)).set (k*8+6) (.int .u64 ge)).set (k*8+7) (.slice p7 n4 d7))[j*8+1]?=some (V)/\(((((((((L).set (k*8) (.slice p0 n1 d0)).set (k*8+1) (.slice p1 n2 d1)).set (k*8+2) (.int .u64 ow)).set (k*8+3) (.int .i64 mo)).set (k*8+4) (.slice p4 n3 d4)).set (k*8+5) (.int .u64 ep)).set (k*8+6) (.int .u64 ge)).set (k*8+7) (.slice p7 n4 d7))[j*8+2]?=some (.int .u64 y.owner)/\(((((((((L).set (k*8) (.slice p0 n1 d0)).set (k*8+1) (.slice p1 n2 d1)).set (k*8+2) (.int .u64 ow)).set (k*8+3) (.int .i64 mo)).set (k*8+4) (.slice p4 n3 d4)).set (k*8+5) (.int .u64 ep)).set (k*8+6) (.int .u64 ge)).set (k*8+7) (.slice p7 n4 d7))[j*8+3]?=some (.int .i64 y.mode)/\(((((((((L).set (k*8) (.slice p0 n1 d0)).set (k*8+1) (.slice p1 n2 d1)).set (k*8+2) (.int .u64 ow)).set (k*8+3) (.int .i64 mo)).set (k*8+4) (.slice p4 n3 d4)).set (k*8+5) (.int .u64 ep)).set (k*8+6) (.int .u64 ge)).set (k*8+7) (.slice p7 n4 d7))[j*8+4]?=some (H)/\(((((((((L).set (k*8) (.slice p0 n1 d0)).set (k*8+1) (.slice p1 n2 d1)).set (k*8+2) (.int .u64 ow)).set (k*8+3) (.int .i64 mo)).set (k*8+4) (.slice p4 n3 d4)).set (k*8+5) (.int .u64 ep)).set (k*8+6) (.int .u64 ge)).set (k*8+7) (.slice p7 n4 d7))[j*8+5]?=some (.int .u64 y.aC)/\(((((((((L).set (k*8) (.slice p0 n1 d0)).set (k*8+1) (.slice p1 n2 d1)).set (k*8+2) (.int .u64 ow)).set (k*8+3) (.int .i64 mo)).set (k*8+4) (.slice p4 n3 d4)).set (k*8+5) (.int .u64 ep)).set (k*8+6) (.int .u64 ge)).set (k*8+7) (.slice p7 n4 d7))[j*8+6]?=some (.int .u64 y.gen)/\(((((((((L).set (k*8) (.slice p0 n1 d0)).set (k*8+1) (.slice p1 n2 d1)).set (k*8+2) (.int .u64 ow)).set (k*8+3) (.int .i64 mo)).set (k*8+4) (.slice p4 n3 d4)).set (k*8+5) (.int .u64 ep)).set (k*8+6) (.int .u64 ge)).set (k*8+7) (.slice p7 n4 d7))[j*8+7]?=some (U)/\Ab (G+1) w3 (fun u=>(Rd u P y.path/\dh P/\Nf BZ u P)/\(Rd u V y.value/\dh V/\Nf BZ u V)/\(iA u H y.holders/\Nf BZ u H)/\(iA u U y.watchers/\Nf BZ u U))):=by refine ⟨by rw [ve];exact (World.ownsRow.stored ((World.ownsRow.stored ((World.ownsRow.stored ((World.ownsRow.stored ((World.ownsRow.stored ((World.ownsRow.stored ((World.ownsRow.stored ((World.ownsRow.stored (iC) (k*8) _).1) (k*8+1) _).1) (k*8+2) _).1) (k*8+3) _).1) (k*8+4) _).1) (k*8+5) _).1) (k*8+6) _).1) (k*8+7) _).1,fun j z hj hz=>?_⟩;by_cases ej:j=k;{rw [ej] at hz ⊢;rw [hy] at hz;cases hz;refine ⟨_,_,_,_,by rw [aX (by omega)];rw [aX (by omega)];rw [aX (by omega)];rw [aX (by omega)];rw [aX (by omega)];rw [aX (by omega)];rw [aX (by omega)];exact List.getElem?_set_self (by first | omega | (simp only [List.length_set];omega)),by rw [aX (by omega)];rw [aX (by omega)];rw [aX (by omega)];rw [aX (by omega)];rw [aX (by omega)];rw [aX (by omega)];exact List.getElem?_set_self (by first | omega | (simp only [List.length_set];omega)),by rw [aX (by omega)];rw [aX (by omega)];rw [aX (by omega)];rw [aX (by omega)];rw [aX (by omega)];rw [g1];exact List.getElem?_set_self (by first | omega | (simp only [List.length_set];omega)),by rw [aX (by omega)];rw [aX (by omega)];rw [aX (by omega)];rw [aX (by omega)];rw [g2];exact List.getElem?_set_self (by first | omega | (simp only [List.length_set];omega)),by rw [aX (by omega)];rw [aX (by omega)];rw [aX (by omega)];exact List.getElem?_set_self (by first | omega | (simp only [List.length_set];omega)),by rw [aX (by omega)];rw [aX (by omega)];rw [g3];exact List.getElem?_set_self (by first | omega | (simp only [List.length_set];omega)),by rw [aX (by omega)];rw [g4];exact List.getElem?_set_self (by first | omega | (simp only [List.length_set];omega)),by  exact List.getElem?_set_self (by first | omega | (simp only [List.length_set];omega)),?_⟩;exact (by rw [ve];exact Ab.set (Ab.set (Ab.set (Ab.set (Ab.set (Ab.set (Ab.set (Ab.set (Ab.mono wF (by omega)) (a:=⟨G,k*8,none⟩) (by show G<_;omega) _) (a:=⟨G,k*8+1,none⟩) (by show G<_;omega) _) (a:=⟨G,k*8+2,none⟩) (by show G<_;omega) _) (a:=⟨G,k*8+3,none⟩) (by show G<_;omega) _) (a:=⟨G,k*8+4,none⟩) (by show G<_;omega) _) (a:=⟨G,k*8+5,none⟩) (by show G<_;omega) _) (a:=⟨G,k*8+6,none⟩) (by show G<_;omega) _) (a:=⟨G,k*8+7,none⟩) (by show G<_;omega) _)};{obtain ⟨P,V,H,U,q0,q1,q2,q3,q4,q5,q6,q7,q8⟩:=hL j z (by omega) hz;refine ⟨P,V,H,U,(by rw [aX (by omega)];rw [aX (by omega)];rw [aX (by omega)];rw [aX (by omega)];rw [aX (by omega)];rw [aX (by omega)];rw [aX (by omega)];rw [aX (by omega)];exact q0),(by rw [aX (by omega)];rw [aX (by omega)];rw [aX (by omega)];rw [aX (by omega)];rw [aX (by omega)];rw [aX (by omega)];rw [aX (by omega)];rw [aX (by omega)];exact q1),(by rw [aX (by omega)];rw [aX (by omega)];rw [aX (by omega)];rw [aX (by omega)];rw [aX (by omega)];rw [aX (by omega)];rw [aX (by omega)];rw [aX (by omega)];exact q2),(by rw [aX (by omega)];rw [aX (by omega)];rw [aX (by omega)];rw [aX (by omega)];rw [aX (by omega)];rw [aX (by omega)];rw [aX (by omega)];rw [aX (by omega)];exact q3),(by rw [aX (by omega)];rw [aX (by omega)];rw [aX (by omega)];rw [aX (by omega)];rw [aX (by omega)];rw [aX (by omega)];rw [aX (by omega)];rw [aX (by omega)];exact q4),(by rw [aX (by omega)];rw [aX (by omega)];rw [aX (by omega)];rw [aX (by omega)];rw [aX (by omega)];rw [aX (by omega)];rw [aX (by omega)];rw [aX (by omega)];exact q5),(by rw [aX (by omega)];rw [aX (by omega)];rw [aX (by omega)];rw [aX (by omega)];rw [aX (by omega)];rw [aX (by omega)];rw [aX (by omega)];rw [aX (by omega)];exact q6),(by rw [aX (by omega)];rw [aX (by omega)];rw [aX (by omega)];rw [aX (by omega)];rw [aX (by omega)];rw [aX (by omega)];rw [aX (by omega)];rw [aX (by omega)];exact q7),?_⟩;exact (by rw [ve];exact Ab.set (Ab.set (Ab.set (Ab.set (Ab.set (Ab.set (Ab.set (Ab.set (q8.below aG) (a:=⟨G,k*8,none⟩) (by show G<_;omega) _) (a:=⟨G,k*8+1,none⟩) (by show G<_;omega) _) (a:=⟨G,k*8+2,none⟩) (by show G<_;omega) _) (a:=⟨G,k*8+3,none⟩) (by show G<_;omega) _) (a:=⟨G,k*8+4,none⟩) (by show G<_;omega) _) (a:=⟨G,k*8+5,none⟩) (by show G<_;omega) _) (a:=⟨G,k*8+6,none⟩) (by show G<_;omega) _) (a:=⟨G,k*8+7,none⟩) (by show G<_;omega) _)}
 have bb:Below w.heap.size w w3:=by rw [ve];exact Below.setCell (Below.setCell (Below.setCell (Below.setCell (Below.setCell (Below.setCell (Below.setCell (Below.setCell (b2) (p:=⟨G,k*8,none⟩) ri _) (p:=⟨G,k*8+1,none⟩) ri _) (p:=⟨G,k*8+2,none⟩) ri _) (p:=⟨G,k*8+3,none⟩) ri _) (p:=⟨G,k*8+4,none⟩) ri _) (p:=⟨G,k*8+5,none⟩) ri _) (p:=⟨G,k*8+6,none⟩) ri _) (p:=⟨G,k*8+7,none⟩) ri _
 have Xx:G<w3.heap.size:=by rw [ve];simpa using Yf
 clear ho hL fP iC wF hlen aS hb b2 aG aE;go_wp2_with fail;rw [<-ve];clear ve oF xY jg vt jf CM Ag qB Af hf4 vw hf5 sw hf6 hc7 hf7 z0 z1 z2 z3 z4 z5 z6 z7 g1 g2 g3 g4;go_wp2;go_roundw
 case rel=>exact ⟨k+1,_,by omega,by go_num,ir,bb,Xx⟩
 case measure=>simp [intOf];omega}
 {
 have aV:¬ (k:Int)<(n:Int):=by omega
 have ui:k=n:=by omega
 subst ui;obtain ⟨ho,hL⟩:=aa fP;have pX:Ab w.heap.size wr (fun u=>DJ BZ u (.slice (some ⟨G,0,none⟩) k k) l):=by
  intro u hu;refine ⟨some ⟨G,0,none⟩,k,by rw [aa en],Nf.row ho (by omega) (hu G (by omega) pR),?_⟩;refine .inr ⟨G,0,rfl,fun i y hy=>?_⟩;have ua:i<k:=by rw [<-aa en];exact (aM.1 hy).1
  have jA:∀ j,j<k*8->u.cell? ⟨G,0+j,none⟩=L[j]?:=fun j hj=>by rw [Nat.zero_add,aj (hu G (by omega) pR),ho.cellAt j hj]
  have zJ:∀ q,G+1<=q->q<wr.heap.size->u.heap[q]?=wr.heap[q]?:=fun q h1 h2=>hu q (by omega) h2;obtain ⟨P,V,H,U,q0,q1,q2,q3,q4,q5,q6,q7,q8⟩:=hL i y ua hy;obtain ⟨s1,s2,s3,s4⟩:=q8 u zJ;exact ⟨P,V,H,U,⟨by rw [jA _ (by omega)];exact q0,by rw [Nat.add_assoc,jA _ (by omega)];exact q1,by rw [Nat.add_assoc,jA _ (by omega)];exact q2,by rw [Nat.add_assoc,jA _ (by omega)];exact q3,by rw [Nat.add_assoc,jA _ (by omega)];exact q4,by rw [Nat.add_assoc,jA _ (by omega)];exact q5,by rw [Nat.add_assoc,jA _ (by omega)];exact q6,by rw [Nat.add_assoc,jA _ (by omega)];exact q7,s1.1,s2.1,s3.1,s4.1,s1.2.1⟩,s1.2.2,s2.2.2,s3.2,s4.2⟩
 clear ho hL fP aS hb;go_wp2;go_ret;exact ⟨_,_,rfl,pX,aE⟩})
theorem uw (e g x t:Int) (p q:Option Addr) (c n d m:Nat) (ss:List aR) (ns:List aA) (en:Hid (ss.length=n)) (em:Hid (ns.length=m)) (w:World) (BZ:Nat) (hB:BZ<=w.heap.size) (h:nR w (.slice p n c) ss) (hN:jB w (.slice q m d) ns) (hn:n<=1048576) (hm:m<=1048576) (NH:Hid (∀ y∈ss,y.2.2.length<=1048576/\∀ e∈y.2.2,e.2.length<=1048576)) (NF:Hid (∀ y∈ns,y.path.length<=1048576/\y.value.length<=1048576/\y.holders.length<=1048576/\y.watchers.length<=1048576)) :
  Calls prog 7 #[.agg #[.int .u64 e,.int .u64 g,.int .u64 x,.int .i64 t,.slice p n c,.slice q m d]] w fun r w'=>∃ p4 d4 p5 d5,r=.returned (.agg #[.int .u64 e,.int .u64 g,.int .u64 x,.int .i64 t,.slice p4 n d4,.slice p5 m d5])/\Ab w.heap.size w' (fun u=>AI BZ u (.slice p4 n d4) ss/\DJ BZ u (.slice p5 m d5) ns)/\Below w.heap.size w w':=by
 have R4:=ae fun (w':World) (hb:Below w.heap.size w w')=>h.below hb;have R5:=ae fun (w':World) (hb:Below w.heap.size w w')=>hN.below hb;clear h hN;go_enter func7,ntmps7;go_wp2_with fail;obtain ⟨W1,fN⟩:=ax (w.alloc (.cells #[.int .u64 e,.int .u64 g,.int .u64 x,.int .i64 t,.slice p n c,.slice q m d] 26));obtain ⟨W2,gr⟩:=ax (W1.alloc (.cells #[.int .u64 0,.int .u64 0,.int .u64 0,.int .i64 0,.slice none 0 0,.slice none 0 0] 35));obtain ⟨W,hW⟩:=ax (W2.alloc (.cells #[.int .u64 e,.int .u64 g,.int .u64 x,.int .i64 t,.slice none 0 0,.slice none 0 0] 35));have z1:W1.heap.size=w.heap.size+1:=by rw [fN];simp
 have z2:W2.heap.size=w.heap.size+2:=by rw [gr];simp;omega
 have zW:W.heap.size=w.heap.size+3:=by rw [hW];simp;omega
 have b1:Below w.heap.size w W1:=by rw [fN];exact ar.alloc ay _
 have b2:Below W1.heap.size W1 W2:=by rw [gr];exact ar.alloc ay _
 have b3:Below W2.heap.size W2 W:=by rw [hW];exact ar.alloc ay _
 have bW:Below w.heap.size w W:=ai (ai b1 b2) b3;obtain ⟨A,eA⟩:=ax w.heap.size;obtain ⟨R,eR⟩:=ax (A+1);obtain ⟨C,eC⟩:=ax (R+1);have hA:ah W A [.int .u64 e,.int .u64 g,.int .u64 x,.int .i64 t,.slice p n c,.slice q m d]:=by
  have h0:ah W1 A [.int .u64 e,.int .u64 g,.int .u64 x,.int .i64 t,.slice p n c,.slice q m d]:=by rw [fN,eA];exact ah.alloc w #[.int .u64 e,.int .u64 g,.int .u64 x,.int .i64 t,.slice p n c,.slice q m d] _
  exact (h0.below (by omega) b2).below (by omega) b3
 have hR:ah W R [.int .u64 0,.int .u64 0,.int .u64 0,.int .i64 0,.slice none 0 0,.slice none 0 0]:=by
  have h0:ah W2 R [.int .u64 0,.int .u64 0,.int .u64 0,.int .i64 0,.slice none 0 0,.slice none 0 0]:=by rw [gr,show R=W1.heap.size by omega];exact ah.alloc W1 #[.int .u64 0,.int .u64 0,.int .u64 0,.int .i64 0,.slice none 0 0,.slice none 0 0] _
  exact h0.below (by omega) b3
 have hC:ah W C [.int .u64 e,.int .u64 g,.int .u64 x,.int .i64 t,.slice none 0 0,.slice none 0 0]:=by rw [hW,show C=W2.heap.size by omega];exact ah.alloc W2 #[.int .u64 e,.int .u64 g,.int .u64 x,.int .i64 t,.slice none 0 0,.slice none 0 0] _
 rw [<-fN,<-gr,<-hW,<-eA,<-eR,<-eC];have HE:=ae (ag eA (ag eR (ag eC zW)));have BW:=ae bW;have HA:=ae hA;have qt:=ae hR;have HC:=ae hC;clear hW fN gr eA eR eC zW bW z1 z2 b1 b2 b3 hA hR hC;refine (wW p c n ss en _ BZ (Nat.le_trans hB BW.size) (aa R4 _ BW) hn NH).mono ?_;rintro r w4 ⟨p4,d4,rfl,MV,fk⟩;have MW:Hid (W.heap.size<=W.heap.size/\W.heap.size<=w4.heap.size):=⟨Nat.le_refl _,fk.size⟩;have nW:=ae (HA.below (by obtain ⟨eA,eR,eC,zW⟩:=aa HE;have:=aa MW;omega) fk);have Nd:=ae (qt.below (by obtain ⟨eA,eR,eC,zW⟩:=aa HE;have:=aa MW;omega) fk);have me:=ae (HC.below (by obtain ⟨eA,eR,eC,zW⟩:=aa HE;have:=aa MW;omega) fk);have B4:=ae (ai BW fk);have Ns:=ae (Ab.mono (B:=W.heap.size) MV MW.1);clear MV fk;have MG:=nW.1 0 _ rfl;have MF:=nW.1 1 _ rfl;have N8:=nW.1 2 _ rfl;have Q5:=nW.1 3 _ rfl;have QX:=nW.1 4 _ rfl;have QW:=nW.1 5 _ rfl;have FG:=me.1 0 _ rfl;have FE:=me.1 1 _ rfl;have IG:=me.1 2 _ rfl;have My:=me.1 3 _ rfl;have Mx:=me.1 4 _ rfl;have Mw:=me.1 5 _ rfl;have fC:=me.2;have yi:¬ C=A:=by obtain ⟨eA,eR,eC,zW⟩:=aa HE;omega
 go_wp2_with fail;clear MG MF N8 Q5 QX QW FG FE IG My Mx Mw fC yi;obtain ⟨X4,Ai⟩:=ax (w4.setCell ⟨C,4,none⟩ (.slice p4 n d4));have WA:Hid (ah X4 A [.int .u64 e,.int .u64 g,.int .u64 x,.int .i64 t,.slice p n c,.slice q m d]):=by show ah _ _ _;rw [Ai];exact ah.kO (aa nW) (a:=⟨C,4,none⟩) (by obtain ⟨eA,eR,eC,zW⟩:=aa HE;simp;omega) _
 have Nc:Hid (ah X4 R [.int .u64 0,.int .u64 0,.int .u64 0,.int .i64 0,.slice none 0 0,.slice none 0 0]):=by show ah _ _ _;rw [Ai];exact ah.kO (aa Nd) (a:=⟨C,4,none⟩) (by obtain ⟨eA,eR,eC,zW⟩:=aa HE;simp;omega) _
 have Wy:Hid (ah X4 C [.int .u64 e,.int .u64 g,.int .u64 x,.int .i64 t,.slice p4 n d4,.slice none 0 0]):=by show ah _ _ _;rw [Ai];exact ah.dC (aa me) 4 (by simp) (.slice p4 n d4)
 have WG:Hid (Below w.heap.size w X4):=by show Below _ _ _;rw [Ai];exact Below.setCell (aa B4) (p:=⟨C,4,none⟩) (by obtain ⟨eA,eR,eC,zW⟩:=aa HE;simp;omega) _
 have Gb:Hid (Ab W.heap.size X4 (fun u=>AI BZ u (.slice p4 n d4) ss)):=by show Ab _ _ _;rw [Ai];exact Ab.set (aa Ns) (a:=⟨C,4,none⟩) (by obtain ⟨eA,eR,eC,zW⟩:=aa HE;simp;omega) _
 have Wc:Hid (W.heap.size<=X4.heap.size):=by show _<=_;rw [Ai];simp;have:=aa MW;omega
 rw [<-Ai];clear Ai;refine (Ea q d m ns em _ BZ (Nat.le_trans hB WG.size) (aa R5 _ WG) hm NF).mono ?_;rintro r w5 ⟨p5,d5,rfl,ab5,dH⟩;have ZS5:Hid (W.heap.size<=X4.heap.size/\X4.heap.size<=w5.heap.size):=⟨(aa Wc),dH.size⟩;have IZ:=ae (WA.below (by obtain ⟨eA,eR,eC,zW⟩:=aa HE;have:=aa ZS5;omega) dH);have vY:=ae (Nc.below (by obtain ⟨eA,eR,eC,zW⟩:=aa HE;have:=aa ZS5;omega) dH);have FR:=ae (Wy.below (by obtain ⟨eA,eR,eC,zW⟩:=aa HE;have:=aa ZS5;omega) dH);have B5:=ae (ai WG dH);have aj5:=ae (Ab.mono (B:=W.heap.size) ab5 ZS5.1);have aj7:=ae (Gb.below dH);clear ab5 dH;have MG:=IZ.1 0 _ rfl;have MF:=IZ.1 1 _ rfl;have N8:=IZ.1 2 _ rfl;have Q5:=IZ.1 3 _ rfl;have QX:=IZ.1 4 _ rfl;have QW:=IZ.1 5 _ rfl;have FG:=FR.1 0 _ rfl;have FE:=FR.1 1 _ rfl;have IG:=FR.1 2 _ rfl;have My:=FR.1 3 _ rfl;have Mx:=FR.1 4 _ rfl;have Mw:=FR.1 5 _ rfl;have fC:=FR.2;have yi:¬ C=A:=by obtain ⟨eA,eR,eC,zW⟩:=aa HE;omega
 have VT:=vY.1 0 _ rfl;have VS:=vY.1 1 _ rfl;have cr2:=vY.1 2 _ rfl;have cr3:=vY.1 3 _ rfl;have cr4:=vY.1 4 _ rfl;have cr5:=vY.1 5 _ rfl;have fR:=vY.2;have Qt:¬ R=A:=by obtain ⟨eA,eR,eC,zW⟩:=aa HE;omega
 have CQ:¬ R=C:=by obtain ⟨eA,eR,eC,zW⟩:=aa HE;omega
 have Qr:¬ C=R:=by obtain ⟨eA,eR,eC,zW⟩:=aa HE;omega
 go_wp2;obtain ⟨eA,eR,eC,zW⟩:=aa HE;have zz:=aa ZS5;refine bodyPost_ret (v:=.agg #[.int .u64 e,.int .u64 g,.int .u64 x,.int .i64 t,.slice p4 n d4,.slice p5 m d5]) (by simp [results,results7,go_sem,FG,FE,IG,My,Mx,Mw,VT,VS,cr2,cr3,cr4,cr5,yi,Qt,CQ,Qr]) rfl ⟨p4,d4,p5,d5,rfl,Ab.mono (B:=w.heap.size) (B':=W.heap.size) ?_ (by omega),?_⟩;{
 iterate 7 (refine Ab.set ?_ (by simp;omega) _)
 exact aj7.and (aa aj5)};{
 iterate 7 (refine Below.setCell ?_ (by simp;omega) _)
 exact B5}
theorem D9 (e g x t:Int) (p q:Option Addr) (c n d m:Nat) (ss:List aR) (ns:List aA) (en:Hid (ss.length=n)) (em:Hid (ns.length=m)) (w:World) (h:nR w (.slice p n c) ss) (hN:jB w (.slice q m d) ns) (hn:n<=1048576) (hm:m<=1048576) (NH:Hid (∀ y∈ss,y.2.2.length<=1048576/\∀ e∈y.2.2,e.2.length<=1048576)) (NF:Hid (∀ y∈ns,y.path.length<=1048576/\y.value.length<=1048576/\y.holders.length<=1048576/\y.watchers.length<=1048576)) :
  Calls prog 7 #[.agg #[.int .u64 e,.int .u64 g,.int .u64 x,.int .i64 t,.slice p n c,.slice q m d]] w fun r w'=>∃ p4 d4 p5 d5,r=.returned (.agg #[.int .u64 e,.int .u64 g,.int .u64 x,.int .i64 t,.slice p4 n d4,.slice p5 m d5])/\Ab w.heap.size w' (fun u=>jP u (.slice p4 n d4) ss/\jB u (.slice p5 m d5) ns)/\Below w.heap.size w w':=by
 refine (uw e g x t p q c n d m ss ns en em w 0 (Nat.zero_le _) h hN hn hm NH NF).mono ?_;rintro r w' ⟨p4,d4,p5,d5,rfl,ab,hb⟩;exact ⟨p4,d4,p5,d5,rfl,ab.imp (fun u hu=>⟨hu.1.rd,hu.2.rd⟩),hb⟩
theorem uB {α:Type} (F:α->Nat) {l:List α} {y:α} (h:y∈l):F y<=cg F l:=by
 induction l with
 | nil=>cases h
 | cons z l ih=>
  have e:cg F (z::l)=F z+cg F l:=by simp [cg]
  rcases List.mem_cons.1 h with rfl | h;{omega};{have:=ih h;omega}
theorem Tz {ss:List aR} {ns:List aA} (h:uz ss ns<=1048576):ss.length<=1048576/\ns.length<=1048576/\(∀ s∈ss,s.2.2.length<=1048576/\∀ e∈s.2.2,e.2.length<=1048576)/\∀ nd∈ns,nd.path.length<=1048576/\nd.value.length<=1048576/\nd.holders.length<=1048576/\nd.watchers.length<=1048576:=by
 unfold uz at h;refine ⟨by omega,by omega,fun s hs=>?_,fun nd bf=>?_⟩;{have h1:=uB jE hs;have h0:jE s=s.2.2.length+cg (fun e:Ev=>e.2.length) s.2.2:=rfl;refine ⟨by omega,fun e he=>?_⟩;have h2:e.2.length<=cg (fun e:Ev=>e.2.length) s.2.2:=uB (fun e:Ev=>e.2.length) he;omega};{have h1:=uB iU bf;have h0:iU nd=nd.path.length+nd.value.length+nd.holders.length+nd.watchers.length:=rfl;omega}
end Go.Proofs.YtmfjiolopcbcmaaGreatDoor
