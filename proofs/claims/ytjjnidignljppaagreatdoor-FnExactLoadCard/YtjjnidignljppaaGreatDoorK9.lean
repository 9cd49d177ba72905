import Derived.Test.YtjjnidignljppaaGreatDoorK8
namespace Go.Proofs.YtjjnidignljppaaGreatDoor
set_option maxHeartbeats 3200000
set_option linter.all false
set_option maxRecDepth 100000
open Go.ChangeShapes Go.WideShapes Go.ChangeAt Go.RowKit Go.Proofs.Tryz
variable {A l:List Lf}{K k k0:Int}{V wr:World}{a b:Nat}{p:OA}{xs:LI}
theorem Iq.len{α:Type}{P:α->Nat->Nat->List Lf->Prop}{sz:Nat}{n c:Nat}{xs:List α}(h:Iq P sz (.S p n c) xs A)(cg:∀x b a l,P x b a l->1<=l.length):n<=A.length:=by
 obtain⟨Ls,en,lL,eA,fD⟩:=h.at;have key:∀k,k<=n->k<=(Ls.take k).flatten.length:=by
  intro k
  induction k with
  |zero=>intro _;exact gq _
  |succ k ih=>
   intro hk;obtain⟨b,o,x,l,-,-,-,hP,nE,-⟩:=fD k ae;rw[nE,ig];have:=ih ae;have:=cg _ _ _ _ hP;omega
 have:=key n ao;rw[<-lL,mF,lL]at this;rw[eA];exact this
def Ir.pos{w:World}{x:Ev}(h:Ir w x b a l):1<=l.length:=by
 obtain⟨p,c,lb,rfl,-⟩:=h;simp
def Gv.pos{w:World}{x:aR}(h:Gv w x b a l):1<=l.length:=by
 obtain⟨p,c,lb,rfl,-⟩:=h;simp
def Ip.pos{w:World}{x:aB}(h:Ip w x b a l):1<=l.length:=by
 obtain⟨p0,c0,p1,c1,p4,c4,p7,c7,l0,l1,l4,l7,rfl,-⟩:=h;simp;omega
def sj{c n:Nat}{w:World}(h:Qw (.S p n c) xs A)(hA:cQ w A)(k0:0<=k)(k1:k+A.length<=100000000):Cp 72 #[.S p n c,.I k] w fun e w'=>e=.returned (.I (k+A.length))/\Mk w w' A k:=by
 have OK:=h.len (fun x b a l hl=>by rw[show l=_ from hl];simp);obtain⟨Ls,en,lL,eA,fD⟩:=h.at;have vP:=af fD;have HA:=af hA;have EA:=af eA;have K1:k+(Ls.flatten.length:Int)<=100000000:=by rw[<-eA];exact k1
 have hn:n<=100000000:=ae;have LL:=af lL;clear h fD hA eA en lL OK;go_enter func72,ntmps72;go_wp2
 go_loopw[1,5](fun kk i wr=>∃j:Nat,j<=n/\i=.I j/\kk=.I (k+(((Ls.take j).flatten.length:Nat):Int))/\Hid (Mk w wr (Ls.take j).flatten k)) (fun _ i _=>n-(intOf i).toNat)
 exact⟨0,gq _,rfl,ai,Mk.refl _ _⟩;{
 obtain⟨j,hj,rfl,rfl,hM⟩:=hrel;have hle:=aZ Ls j;by_cases aX:j<n;{
 have bu:=aP j n;obtain⟨b,o,x,l,rfl,hx,hl,hP,nE,gG⟩:=aa vP j aX;obtain rfl:l=[⟨b,o+j,.u8⟩]:=by rw[show l=_ from hP,By]
 have lE:cQ w (Ls.take j).flatten:=HA.sub (fun a ha=>by rw[aa EA];exact e8 ha);obtain⟨⟨n0,qL⟩,hf0⟩:=HA.mk (aa hM) lE _ (gG ⟨b,o+j,.u8⟩ ai);dsimp only at qL hf0;have HT:Hid ((Ls.take (j+1)).flatten.length=(Ls.take j).flatten.length+1):=by show _=_;rw[nE];simp
 have oO:((Ls.take j).flatten.length:Int)+1<=100000000:=by have:=aZ Ls (j+1);have:=aa HT;omega
 have M1:Hid (Mk w (wr.setCell ⟨b,o+j,none⟩ (.int .u8 (mkV .u8 (k+((Ls.take j).flatten.length:Int))))) (Ls.take (j+1)).flatten k):=by show Mk _ _ _ _;rw[nE];exact hM.trans (Mk.one qL) lE (by intro a ha;exact HA a (gG a ha))
 generalize hT:(Ls.take j).flatten.length=T at*;clear hT hx hl hP nE gG lE hM;have hT0:0<=k+(T:Int):=ae;have hT1:k+(T:Int)<=100000000:=ae;go_wp2;go_roundw;exact⟨j+1,ae,by go_num,by rw[aa HT];go_num,M1⟩;exact bG};{
 have e:j=n:=ae;subst e;have e2:(Ls.take j).flatten=A:=by rw[<-aa LL,mF];exact EA.symm
 rw[e2]at hM⊢;clear hle vP HA;go_wp2;go_ret;exact⟨rfl,hM⟩}}
def uh{c n:Nat}{w:World}(h:WS (.S p n c) xs A)(hA:cQ w A)(k0:0<=k)(k1:k+A.length<=100000000):Cp 74 #[.S p n c,.I k] w fun e w'=>e=.returned (.I (k+A.length))/\Mk w w' A k:=by
 have OK:=h.len (fun x b a l hl=>by rw[show l=_ from hl];simp);obtain⟨Ls,en,lL,eA,fD⟩:=h.at;have vP:=af fD;have HA:=af hA;have EA:=af eA;have K1:k+(Ls.flatten.length:Int)<=100000000:=by rw[<-eA];exact k1
 have hn:n<=100000000:=ae;have LL:=af lL;clear h fD hA eA en lL OK;go_enter func74,ntmps74;go_wp2
 go_loopw[1,5](fun kk i wr=>∃j:Nat,j<=n/\i=.I j/\kk=.I (k+(((Ls.take j).flatten.length:Nat):Int))/\Hid (Mk w wr (Ls.take j).flatten k)) (fun _ i _=>n-(intOf i).toNat)
 exact⟨0,gq _,rfl,ai,Mk.refl _ _⟩;{
 obtain⟨j,hj,rfl,rfl,hM⟩:=hrel;have hle:=aZ Ls j;by_cases aX:j<n;{
 have bu:=aP j n;obtain⟨b,o,x,l,rfl,hx,hl,hP,nE,gG⟩:=aa vP j aX;obtain rfl:l=[⟨b,o+j,.u64⟩]:=by rw[show l=_ from hP,By]
 have lE:cQ w (Ls.take j).flatten:=HA.sub (fun a ha=>by rw[aa EA];exact e8 ha);obtain⟨⟨n0,qL⟩,hf0⟩:=HA.mk (aa hM) lE _ (gG ⟨b,o+j,.u64⟩ ai);dsimp only at qL hf0;have HT:Hid ((Ls.take (j+1)).flatten.length=(Ls.take j).flatten.length+1):=by show _=_;rw[nE];simp
 have oO:((Ls.take j).flatten.length:Int)+1<=100000000:=by have:=aZ Ls (j+1);have:=aa HT;omega
 have M1:Hid (Mk w (wr.setCell ⟨b,o+j,none⟩ (.U (mkV .u64 (k+((Ls.take j).flatten.length:Int))))) (Ls.take (j+1)).flatten k):=by show Mk _ _ _ _;rw[nE];exact hM.trans (Mk.one qL) lE (by intro a ha;exact HA a (gG a ha))
 generalize hT:(Ls.take j).flatten.length=T at*;clear hT hx hl hP nE gG lE hM;have hT0:0<=k+(T:Int):=ae;have hT1:k+(T:Int)<=100000000:=ae;go_wp2;go_roundw;exact⟨j+1,ae,by go_num,by rw[aa HT];go_num,M1⟩;exact bG};{
 have e:j=n:=ae;subst e;have e2:(Ls.take j).flatten=A:=by rw[<-aa LL,mF];exact EA.symm
 rw[e2]at hM⊢;clear hle vP HA;go_wp2;go_ret;exact⟨rfl,hM⟩}}
def Mk.trans'{w w1 w2:World}{A2:List Lf}(h:Mk w w1 A k)(h2:Mk w1 w2 A2 K)(e:K=k+A.length)(hA:cQ w A)(Ss:cQ w A2):Mk w w2 (A++A2) k:=by
 subst e;exact h.trans h2 hA Ss
def Mk.set{acc l:List Lf}{o:Nat}{kd:IntKind}(h:Mk wr V acc k0)(jr:cQ wr l)(av3:∀a∈acc,a∈l)(hm:Lf.mk b o kd∈l)(e:K=k0+acc.length):Mk wr (V.setCell ⟨b,o,none⟩ (.int kd (mkV kd K))) (acc++[⟨b,o,kd⟩]) k0:=by
 obtain⟨⟨n,hn⟩,hf⟩:=jr.mk h (jr.sub av3) _ hm;exact h.trans' (Mk.one hn) e (jr.sub av3) (fun a ha=>jr a (by simp at ha;rw[ha];exact hm))
def Mk.call{V':World}{acc lf l:List Lf}(h:Mk wr V acc k0)(h2:Mk V V' lf K)(jr:cQ wr l)(av3:∀a∈acc,a∈l)(hlf:∀a∈lf,a∈l)(e:K=k0+acc.length):Mk wr V' (acc++lf) k0:=
 h.trans' h2 e (jr.sub av3) (jr.sub hlf)
def Hh{c n:Nat}{xs:List Ev}{w:World}(h:Da w (.S p n c) xs A)(hA:cQ w A)(k0:0<=k)(k1:k+A.length<=100000000):Cp 73 #[.S p n c,.I k] w fun e w'=>e=.returned (.I (k+A.length))/\Mk w w' A k:=by
 have OK:=h.len (fun x b a l hl=>hl.pos);obtain⟨Ls,en,lL,eA,fD⟩:=h.at;have vP:=af fD;have HA:=af hA;have EA:=af eA;have K1:k+(Ls.flatten.length:Int)<=100000000:=by rw[<-eA];exact k1
 have hn:n<=100000000:=ae;have LL:=af lL;clear h fD hA eA en lL OK;go_enter func73,ntmps73;go_wp2
 go_loopw[1,5](fun kk i wr=>∃j:Nat,j<=n/\i=.I j/\kk=.I (k+(((Ls.take j).flatten.length:Nat):Int))/\Hid (Mk w wr (Ls.take j).flatten k)) (fun _ i _=>n-(intOf i).toNat)
 exact⟨0,gq _,rfl,ai,Mk.refl _ _⟩;{
 obtain⟨j,hj,rfl,rfl,hM⟩:=hrel;have hle:=aZ Ls j;by_cases aX:j<n;{
 have bu:=aP j n;obtain⟨b,o,x,l,rfl,hx,hl,hP,nE,gG⟩:=aa vP j aX;have lE:cQ w (Ls.take j).flatten:=HA.sub (fun a ha=>by rw[aa EA];exact e8 ha);have OM:cQ w l:=HA.sub gG;have jr:cQ wr l:=OM.mk hM lE;have Wi:=hP.mk hM lE;have Ie:(Ls.take (j+1)).flatten.length=(Ls.take j).flatten.length+l.length:=by rw[nE,ig]
 have oO:k+((Ls.take j).flatten.length:Int)+(l.length:Int)<=100000000:=by have:=aZ Ls (j+1);omega
 have HT:=af Ie;have HPW:Hid (∀w',Mk wr w' l (k+((Ls.take j).flatten.length:Int))->Mk w w' (Ls.take (j+1)).flatten k):=by intro w' hw';rw[nE];exact hM.trans hw' lE OM
 generalize hT:(Ls.take j).flatten.length=T at*;clear hT hx hl hP nE gG lE hM Ie OM;have hT0:0<=k+(T:Int):=ae;obtain⟨q,d,lb,rfl,hd,V8⟩:=Wi;have HD:=af hd;have Gx:=af V8;clear hd V8;have hlen:k+(T:Int)+(1+(lb.length:Int))<=100000000:=by simp only[ig,iU]at oO;omega
 clear oO;have mJ:=af jr;have AC0:Hid (Mk wr wr [] (k+(T:Int))):=Mk.refl _ _;clear jr;have IN0:cQ wr (⟨b,o+j*2,.i64⟩::lb):=mJ.mk (aa AC0) (mJ.sub jD);obtain⟨⟨m0,qL⟩,hf0⟩:=IN0 ⟨b,o+j*2,.i64⟩ ai;dsimp only at qL hf0;have xy:wr.cell? ⟨b,o+j*2+1,none⟩=some (.S q x.2.length d):=AC0.head (mJ.sub jD) (aa HD);have XC:Hid (Mk wr (wr.setCell ⟨b,o+j*2,none⟩ (.I (k+(T:Int)))) ([]++[⟨b,o+j*2,.i64⟩]) (k+(T:Int))):=(Mk.set (aa AC0) (aa mJ) jD (b:=b) (o:=o+j*2) (kd:=.i64) ai (K:=k+(T:Int)) ai);have HV0:Hid (cQ (wr.setCell ⟨b,o+j*2,none⟩ (.I (k+(T:Int)))) lb):=(mJ.sub (by intro a ha;simp[ha])).mk (aa XC) (mJ.sub jD);clear IN0;go_wp2_with fail;clear qL hf0 xy;refine(sj Gx HV0 ae ae).mono ?_;rintro e v0⟨rfl,N0⟩;have AC1:Hid (Mk wr v0 (([]++[⟨b,o+j*2,.i64⟩])++lb) (k+(T:Int))):=Mk.call (aa XC) N0 (aa mJ) jD (by intro a ha;simp[ha]) (by simp;try omega);clear N0 XC HV0;have FIN:=af (aa HPW _ (by simpa using aa AC1));go_wp2;go_roundw;exact⟨j+1,ae,by go_num,by rw[aa HT];first|(simp;omega)|(congr 1;simp;omega),FIN⟩;exact bG};{
 have e:j=n:=ae;subst e;have e2:(Ls.take j).flatten=A:=by rw[<-aa LL,mF];exact EA.symm
 rw[e2]at hM⊢;clear hle vP HA;go_wp2;go_ret;exact⟨rfl,hM⟩}}
def Cw{c n:Nat}{xs:List aR}{w:World}(h:xt w (.S p n c) xs A)(hA:cQ w A)(k0:0<=k)(k1:k+A.length<=100000000):Cp 33 #[.S p n c,.I k] w fun e w'=>e=.returned (.I (k+A.length))/\Mk w w' A k:=by
 have OK:=h.len (fun x b a l hl=>hl.pos);obtain⟨Ls,en,lL,eA,fD⟩:=h.at;have vP:=af fD;have HA:=af hA;have EA:=af eA;have K1:k+(Ls.flatten.length:Int)<=100000000:=by rw[<-eA];exact k1
 have hn:n<=100000000:=ae;have LL:=af lL;clear h fD hA eA en lL OK;go_enter func33,ntmps33;go_wp2
 go_loopw[1,5](fun kk i wr=>∃j:Nat,j<=n/\i=.I j/\kk=.I (k+(((Ls.take j).flatten.length:Nat):Int))/\Hid (Mk w wr (Ls.take j).flatten k)) (fun _ i _=>n-(intOf i).toNat)
 exact⟨0,gq _,rfl,ai,Mk.refl _ _⟩;{
 obtain⟨j,hj,rfl,rfl,hM⟩:=hrel;have hle:=aZ Ls j;by_cases aX:j<n;{
 have bu:=aP j n;obtain⟨b,o,x,l,rfl,hx,hl,hP,nE,gG⟩:=aa vP j aX;have lE:cQ w (Ls.take j).flatten:=HA.sub (fun a ha=>by rw[aa EA];exact e8 ha);have OM:cQ w l:=HA.sub gG;have jr:cQ wr l:=OM.mk hM lE;have Wi:=hP.mk hM lE;have Ie:(Ls.take (j+1)).flatten.length=(Ls.take j).flatten.length+l.length:=by rw[nE,ig]
 have oO:k+((Ls.take j).flatten.length:Int)+(l.length:Int)<=100000000:=by have:=aZ Ls (j+1);omega
 have HT:=af Ie;have HPW:Hid (∀w',Mk wr w' l (k+((Ls.take j).flatten.length:Int))->Mk w w' (Ls.take (j+1)).flatten k):=by intro w' hw';rw[nE];exact hM.trans hw' lE OM
 generalize hT:(Ls.take j).flatten.length=T at*;clear hT hx hl hP nE gG lE hM Ie OM;have hT0:0<=k+(T:Int):=ae;obtain⟨q,d,lb,rfl,hd,V8⟩:=Wi;have HD:=af hd;have Gx:=af V8;clear hd V8;have hlen:k+(T:Int)+(2+(lb.length:Int))<=100000000:=by simp only[ig,iU]at oO;omega
 clear oO;have mJ:=af jr;have AC0:Hid (Mk wr wr [] (k+(T:Int))):=Mk.refl _ _;clear jr;have IN0:cQ wr (⟨b,o+j*3,.u64⟩::⟨b,o+j*3+1,.i64⟩::lb):=mJ.mk (aa AC0) (mJ.sub jD);obtain⟨⟨m0,qL⟩,hf0⟩:=IN0 ⟨b,o+j*3,.u64⟩ ai;obtain⟨⟨m1,iD⟩,FE⟩:=IN0 ⟨b,o+j*3+1,.i64⟩ ai;dsimp only at qL hf0 iD FE;have hh2:wr.cell? ⟨b,o+j*3+2,none⟩=some (.S q x.2.2.length d):=AC0.head (mJ.sub jD) (aa HD);have XC:Hid (Mk wr ((wr.setCell ⟨b,o+j*3,none⟩ (.U (k+(T:Int)))).setCell ⟨b,o+j*3+1,none⟩ (.I (k+(T:Int)+1))) (([]++[⟨b,o+j*3,.u64⟩])++[⟨b,o+j*3+1,.i64⟩]) (k+(T:Int))):=(Mk.set (Mk.set (aa AC0) (aa mJ) jD (b:=b) (o:=o+j*3) (kd:=.u64) ai (K:=k+(T:Int)) ai) (aa mJ) jD (b:=b) (o:=o+j*3+1) (kd:=.i64) ai (K:=k+(T:Int)+1) (by simp;try omega));have HV0:Hid (cQ ((wr.setCell ⟨b,o+j*3,none⟩ (.U (k+(T:Int)))).setCell ⟨b,o+j*3+1,none⟩ (.I (k+(T:Int)+1))) lb):=(mJ.sub (by intro a ha;simp[ha])).mk (aa XC) (mJ.sub jD);clear IN0;go_wp2_with fail;clear qL hf0 iD FE hh2;refine(Hh (Gx.mk (aa XC) (mJ.sub jD)) (aa HV0) ae ae).mono ?_;rintro e v0⟨rfl,N0⟩;have AC1:Hid (Mk wr v0 ((([]++[⟨b,o+j*3,.u64⟩])++[⟨b,o+j*3+1,.i64⟩])++lb) (k+(T:Int))):=Mk.call (aa XC) N0 (aa mJ) jD (by intro a ha;simp[ha]) (by simp;try omega);clear N0 XC HV0;have FIN:=af (aa HPW _ (by simpa using aa AC1));go_wp2;go_roundw;exact⟨j+1,ae,by go_num,by rw[aa HT];first|(simp;omega)|(congr 1;simp;omega),FIN⟩;exact bG};{
 have e:j=n:=ae;subst e;have e2:(Ls.take j).flatten=A:=by rw[<-aa LL,mF];exact EA.symm
 rw[e2]at hM⊢;clear hle vP HA;go_wp2;go_ret;exact⟨rfl,hM⟩}}
end Go.Proofs.YtjjnidignljppaaGreatDoor
