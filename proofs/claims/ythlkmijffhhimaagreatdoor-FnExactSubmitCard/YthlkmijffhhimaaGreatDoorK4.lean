import Derived.Test.YthlkmijffhhimaaGreatDoorK2
import Derived.Test.YthlkmijffhhimaaGreatDoorQTs
import Derived.Lib.BitFns
import Derived.Lib.Walk
import Derived.Lib.Small
import Derived.Lib.Strings
import Derived.Lib.Slices
import Derived.Laws.Bits64
import Derived.Laws.Bits64b
import Derived.RangeFuncGives
import Derived.RangeFuncSeq
import Derived.Sort.MapsRangeIn
import Derived.OwnWalkIn
import Derived.TacticsInMore
import Derived.RegionIn
import Derived.LoopNIn
import Derived.LoopIn
import Derived.Maps.AppendAt
import Derived.RangeFuncKeeps
import Derived.RangeFuncFrom
import Derived.RangeFuncNested
import Derived.RangeFuncBound
import Derived.RangeFuncCalls
import Derived.RangeFuncLeaves
import Derived.Sort.KeysCollected
open Array renaming size->U
open Bool renaming false->dF,true->dY
open Decidable renaming decide->dD
open Go renaming Calls->dQ,Value->dV,World->G
open Go.Ending renaming returned->dR
open Go.IntKind renaming u64->jU,i64->jV,wrap->jY
open Go.Obj renaming cells->dO
open Go.Proofs.Tryz renaming prog->dG
open Go.RowKit renaming Hid->O
open Go.Value renaming ownBlock->jB,string->jJ,int->jK,bool->jO,agg->jP,I->dI,T->dK,S->dS,tuple->dT,U->dU
open Go.World renaming alloc->jA,frozen?->jF,grownBy->jG,heap->Q,ownsMap->jM,setCell->jS,cell?->I
open Int renaming toNat->jN
open List renaming drop->jD,flatten->jL,range->jR,take->jT,eraseIdx->jX,length->J
open Option renaming none->dN,some->Y
namespace Go.Proofs.YthlkmijffhhimaaGreatDoor
set_option maxHeartbeats 6400000
set_option linter.all false
set_option maxRecDepth 100000
open Go.ChangeShapes Go.WideShapes Go.ChangeAt Go.RowKit Go.Proofs.Tryz
variable {sz b a B B' M i j m base B0 b' d:Nat}{p q:OA}{A l A2 A':List Lf}{w w1 w2 wr V w':G}{k K k0 y x:Int}{kd k1 k2:IntKind}{xs ids:LI}{ty e:TypeId}{v u v0 v1 v2 v3 v4 v5:dV}{Ls:List (List Lf)}{c news Qs vs:List dV}{cs:List (List dV)}{es q':List Ev}{o:Oper}{ops:iQ}{rest:List Oper}{cur:iA}{r:Option Nat}{ns:List au}{ss:List aB}{nd:au}{s:aB}
theorem uC.len{α:Type}{P:α->Nat->Nat->List Lf->Prop}{n c:Nat}{xs:List α}(h:uC P sz (.S p n c) xs A)(s:∀x b a l,P x b a l->1<=J l):n<=J A:=by
  let ⟨u,B,i,r,q⟩:=h.at;have key:∀k,k<=n->k<=(jT k u).flatten.length:=by
    intro k
    induction k with
    |zero=>intro _;exact de _
    | succ k ih=>
      intro y;obtain⟨b,o,x,l,-,-,-,m,j,-⟩:=q k af;rw[j,fe];have:=ih af;have:=s _ _ _ _ m;omega
  have:=key n aU;rw[<-i,wS,i]at this;rw[r];exact this
theorem Ha.pos{x:Ev}(h:Ha w x b a l):1<=J l:=by
  obtain⟨p,c,i,rfl,-⟩:=h;simp
theorem Fv.pos{x:aB}(h:Fv w x b a l):1<=J l:=by
  obtain⟨p,c,i,rfl,-⟩:=h;simp
theorem G9.pos{x:au}(h:G9 w x b a l):1<=J l:=by
  obtain⟨o,E,m,D,j,B,i,y,u,s,r,q,rfl,-⟩:=h;simp;omega
theorem Mk.trans'(h:Mk w w1 A k)(m:Mk w1 w2 A2 K)(e:K=k+J A)(j:fk w A)(i:fk w A2):Mk w w2 (A++A2) k:=by
  subst e;exact h.Z m j i
theorem Mk.set{acc l:List Lf}{o:Nat}(h:Mk wr V acc k0)(j:fk wr l)(i:∀a∈acc,a∈l)(hm:Lf.mk b o kd∈l)(e:K=k0+J acc):Mk wr (jS V (Ad b o) (jK kd (Re kd K))) (acc++[⟨b,o,kd⟩]) k0:=by
  let⟨⟨n,q⟩,hf⟩:=j.mk h (j.sub i) _ hm;exact h.trans' (Mk.one q) e (j.sub i) (λa m=>j a (by simp at m;rw[m];exact hm))
theorem Mk.call{q:G}{acc i l:List Lf}(h:Mk wr V acc k0)(r:Mk V q i K)(o:fk wr l)(m:∀a∈acc,a∈l)(j:∀a∈i,a∈l)(e:K=k0+J acc):Mk wr q (acc++i) k0:=
  h.trans' r e (o.sub m) (o.sub j)
theorem oG{B:List Lf}(h:∀a∈A,a∈B:=by(intro a ha;first|(simp at ha;done)|(simp only[jl,gD,Rn,Eh,JM]at ha⊢;grind))):∀a∈A,a∈B:=h
theorem Y8{q:Prop}(h':q:=by
    have hnA:=h.len (λx b a l hl=>by first|exact hl.pos|(rw[show l=_ from hl];simp));let⟨Ls,en,lL,eA,fL⟩:=h.at;have AV:=ai fL;have HA:=ai hA;have EA:=ai eA;have K1:k+(J Ls.flatten:Int)<=100000000:=eA▸k1;have hn:n<=100000000:=af;have LL:=ai lL;clear h fL hA eA en lL hnA;show dQ _ _ _ _ _;go_in;go_wp2
    go_loopw[1,5](λkk i wr=>∃j:Nat,j<=n/\i=.I j/\kk=.I (k+(((Ls.take j).flatten.length:Nat):Int))/\O (Mk w wr (Ls.take j).flatten k)) (λ_ i _=>n-(intOf i).toNat)
    exact⟨0,de _,rfl,al,Mk.refl _ _⟩;{
 obtain⟨j,hj,rfl,rfl,hM⟩:=hrel;have hle:=Py Ls j;by_cases aH:j<n;{
 have dm:=cM j n;obtain⟨b,o,x,l,rfl,hx,hl,hP,rG,qA⟩:=ae AV j aH;have vJ:fk w (Ls.take j).flatten:=HA.sub (λa ha=>by rw[ae EA];exact at6 ha);have vL:fk w l:=HA.sub qA;have gi:fk wr l:=vL.mk hM vJ;have Ix:(Ls.take (j+1)).flatten.length=(Ls.take j).flatten.length+J l:=by rw[rG,fe]
 have vr:k+((Ls.take j).flatten.length:Int)+(J l:Int)<=100000000:=by have:=Py Ls (j+1);omega
 have HT:=ai Ix;have UD:O (∀w',Mk wr w' l (k+((Ls.take j).flatten.length:Int))->Mk w w' (Ls.take (j+1)).flatten k):=by intro w' hw';rw[rG];exact hM.Z hw' vJ vL
 generalize hT:(Ls.take j).flatten.length=T at*;clear hT hx hl rG qA Ix;have hT0:0<=k+(T:Int):=af
 first
   | (have e1:l=[⟨b,o+j*1,.u8⟩]:=hP
      rw[El]at e1;subst e1;let⟨⟨n0,mu⟩,EH⟩:=gi ⟨b,o+j,.u8⟩ al;dsimp only at mu EH;have FE:=ai (ae UD _ (Mk.one mu));have Mq:k+(T:Int)<=100000000:=by simp at vr;omega
      clear hP vJ hM vL gi)
   | (have e1:l=[⟨b,o+j*1,.u64⟩]:=hP
      rw[El]at e1;subst e1;let⟨⟨n0,mu⟩,EH⟩:=gi ⟨b,o+j,.u64⟩ al;dsimp only at mu EH;have FE:=ai (ae UD _ (Mk.one mu));have Mq:k+(T:Int)<=100000000:=by simp at vr;omega
      clear hP vJ hM vL gi)
   | (have Fa:Ha wr x b _ l:=hP.mk hM vJ
      obtain⟨q,d,lb,rfl,hd,uP⟩:=Fa;have HD:=ai hd;have uE:=ai uP;clear hd uP;clear hP vJ hM vL;have hlen:k+(T:Int)+(1+(J lb:Int))<=100000000:=by simp only[fe,mO]at vr;omega
      clear vr;have jw:=ai gi;have Jk:O (Mk wr wr [] (k+(T:Int))):=Mk.refl _ _;clear gi;have Qq:fk wr (⟨b,o+j*2,.i64⟩::lb):=jw.mk Jk (jw.sub oG);let⟨⟨m0,mu⟩,EH⟩:=Qq ⟨b,o+j*2,.i64⟩ al;dsimp only at mu EH;have qj:I wr (Ad b (o+j*2+1))=dS q (J x.2) d:=Jk.head (jw.sub oG) HD;have Hg:O (Mk wr (wr.setCell (Ad b (o+j*2)) (.I (k+(T:Int)))) ([]++[⟨b,o+j*2,.i64⟩]) (k+(T:Int))):=(Mk.set Jk jw oG (b:=b) (o:=o+j*2) (kd:=.i64) al (K:=k+(T:Int)) al);have Qw:O (fk (wr.setCell (Ad b (o+j*2)) (.I (k+(T:Int)))) lb):=(jw.sub (by intro a ha;simp[ha])).mk Hg (jw.sub oG);clear Qq
      go_wp21
      clear mu EH qj;refine cL (Rf uE Qw af af) λv0 N0=>?_;have UT:O (Mk wr v0 (([]++[⟨b,o+j*2,.i64⟩])++lb) (k+(T:Int))):=Mk.call Hg N0 jw oG (by intro a ha;simp[ha]) (by simp;try omega);clear N0 Hg Qw;have FE:=ai (ae UD _ (by simpa using ae UT)))
   | (have Fa:Fv wr x b _ l:=hP.mk hM vJ
      obtain⟨q,d,lb,rfl,hd,uP⟩:=Fa;have HD:=ai hd;have uE:=ai uP;clear hd uP;clear hP vJ hM vL;have hlen:k+(T:Int)+(2+(J lb:Int))<=100000000:=by simp only[fe,mO]at vr;omega
      clear vr;have jw:=ai gi;have Jk:O (Mk wr wr [] (k+(T:Int))):=Mk.refl _ _;clear gi;have Qq:fk wr (⟨b,o+j*3,.u64⟩::⟨b,o+j*3+1,.i64⟩::lb):=jw.mk Jk (jw.sub oG);let⟨⟨m0,mu⟩,EH⟩:=Qq ⟨b,o+j*3,.u64⟩ al;let⟨⟨m1,gm⟩,uR⟩:=Qq ⟨b,o+j*3+1,.i64⟩ al;dsimp only at mu EH gm uR;have hh2:I wr (Ad b (o+j*3+2))=dS q (J x.2.2) d:=Jk.head (jw.sub oG) HD;have Hg:O (Mk wr ((wr.setCell (Ad b (o+j*3)) (.U (k+(T:Int)))).setCell (Ad b (o+j*3+1)) (.I (k+(T:Int)+1))) (([]++[⟨b,o+j*3,.u64⟩])++[⟨b,o+j*3+1,.i64⟩]) (k+(T:Int))):=(Mk.set (Mk.set Jk jw oG (b:=b) (o:=o+j*3) (kd:=.u64) al (K:=k+(T:Int)) al) jw oG (b:=b) (o:=o+j*3+1) (kd:=.i64) al (K:=k+(T:Int)+1) (by simp;try omega));have Qw:O (fk ((wr.setCell (Ad b (o+j*3)) (.U (k+(T:Int)))).setCell (Ad b (o+j*3+1)) (.I (k+(T:Int)+1))) lb):=(jw.sub (by intro a ha;simp[ha])).mk Hg (jw.sub oG);clear Qq
      go_wp21
      clear mu EH gm uR hh2;refine cL (ch2 (uE.mk Hg (jw.sub oG)) Qw af af) λv0 N0=>?_;have UT:O (Mk wr v0 ((([]++[⟨b,o+j*3,.u64⟩])++[⟨b,o+j*3+1,.i64⟩])++lb) (k+(T:Int))):=Mk.call Hg N0 jw oG (by intro a ha;simp[ha]) (by simp;try omega);clear N0 Hg Qw;have FE:=ai (ae UD _ (by simpa using ae UT)))
   | (have Fa:G9 wr x b _ l:=hP.mk hM vJ
      obtain⟨p0,c0,p1,c1,p4,c4,p7,c7,l0,l1,l4,l7,rfl,⟨h1,h2⟩,⟨h3,h4⟩,⟨h5,h6⟩,⟨h7,h8⟩⟩:=Fa;have HD:=gJ h1 h3 h5 h7;have uE:=gJ h2 h4 h6 h8;clear h1 h2 h3 h4 h5 h6 h7 h8;clear hP vJ hM vL;have hlen:k+(T:Int)+(4+(J l0:Int)+(J l1:Int)+(J l4:Int)+(J l7:Int))<=100000000:=by simp only[fe,mO]at vr;omega
      clear vr;have jw:=ai gi;have Jk:O (Mk wr wr [] (k+(T:Int))):=Mk.refl _ _;clear gi;have Qq:fk wr (l0++(l1++(⟨b,o+j*8+2,.u64⟩::⟨b,o+j*8+3,.i64⟩::(l4++(⟨b,o+j*8+5,.u64⟩::⟨b,o+j*8+6,.u64⟩::l7))))):=jw.mk Jk (jw.sub oG);have hh0:I wr (Ad b (o+j*8))=dS p0 (J x.A) c0:=Jk.head (jw.sub oG) HD.1;have Hg:O (Mk wr wr [] (k+(T:Int))):=(ae Jk);have Qw:O (fk wr l0):=(jw.sub (by intro a ha;simp[ha])).mk Hg (jw.sub oG);clear Qq
      go_wp21
      clear hh0;refine cL (Rf uE.1 Qw af af) λv0 N0=>?_;have UT:O (Mk wr v0 ([]++l0) (k+(T:Int))):=Mk.call Hg N0 jw oG (by intro a ha;simp[ha]) (by simp;try omega);clear N0 Hg Qw;have IN1:fk v0 (l0++(l1++(⟨b,o+j*8+2,.u64⟩::⟨b,o+j*8+3,.i64⟩::(l4++(⟨b,o+j*8+5,.u64⟩::⟨b,o+j*8+6,.u64⟩::l7))))):=jw.mk UT (jw.sub oG);have qj:I v0 (Ad b (o+j*8+1))=dS p1 (J x.V) c1:=UT.head (jw.sub oG) HD.2.1;have AX1:O (Mk wr v0 ([]++l0) (k+(T:Int))):=(ae UT);have AR:O (fk v0 l1):=(jw.sub (by intro a ha;simp[ha])).mk AX1 (jw.sub oG);clear IN1
      go_wp21
      clear qj;refine cL (Rf uE.2.1 AR af af) λv1 N1=>?_;have AC2:O (Mk wr v1 (([]++l0)++l1) (k+(T:Int))):=Mk.call AX1 N1 jw oG (by intro a ha;simp[ha]) (by simp;try omega);clear N1 AX1 AR;have IN2:fk v1 (l0++(l1++(⟨b,o+j*8+2,.u64⟩::⟨b,o+j*8+3,.i64⟩::(l4++(⟨b,o+j*8+5,.u64⟩::⟨b,o+j*8+6,.u64⟩::l7))))):=jw.mk AC2 (jw.sub oG);let⟨⟨m2,im⟩,Dx⟩:=IN2 ⟨b,o+j*8+2,.u64⟩ al;let⟨⟨m3,vu⟩,sj⟩:=IN2 ⟨b,o+j*8+3,.i64⟩ al;dsimp only at im Dx vu sj;have hh4:I v1 (Ad b (o+j*8+4))=dS p4 (J x.y) c4:=AC2.head (jw.sub oG) HD.2.2.1;have AX2:O (Mk wr ((v1.setCell (Ad b (o+j*8+2)) (.U (k+(T:Int)+(J l0:Int)+(J l1:Int)))).setCell (Ad b (o+j*8+3)) (.I (k+(T:Int)+(J l0:Int)+(J l1:Int)+1))) (((([]++l0)++l1)++[⟨b,o+j*8+2,.u64⟩])++[⟨b,o+j*8+3,.i64⟩]) (k+(T:Int))):=(Mk.set (Mk.set AC2 jw oG (b:=b) (o:=o+j*8+2) (kd:=.u64) al (K:=k+(T:Int)+(J l0:Int)+(J l1:Int)) (by simp;try omega)) jw oG (b:=b) (o:=o+j*8+3) (kd:=.i64) al (K:=k+(T:Int)+(J l0:Int)+(J l1:Int)+1) (by simp;try omega));have HV2:O (fk ((v1.setCell (Ad b (o+j*8+2)) (.U (k+(T:Int)+(J l0:Int)+(J l1:Int)))).setCell (Ad b (o+j*8+3)) (.I (k+(T:Int)+(J l0:Int)+(J l1:Int)+1))) l4):=(jw.sub (by intro a ha;simp[ha])).mk AX2 (jw.sub oG);clear IN2
      go_wp21
      clear im Dx vu sj hh4;refine cL (ch0 p4 c4 (J x.y) (x.y) l4 (k+(T:Int)+(J l0:Int)+(J l1:Int)+1+1) _ uE.2.2.1 HV2 af af) λv2 N2=>?_;have AC3:O (Mk wr v2 ((((([]++l0)++l1)++[⟨b,o+j*8+2,.u64⟩])++[⟨b,o+j*8+3,.i64⟩])++l4) (k+(T:Int))):=Mk.call AX2 N2 jw oG (by intro a ha;simp[ha]) (by simp;try omega);clear N2 AX2 HV2;have IN3:fk v2 (l0++(l1++(⟨b,o+j*8+2,.u64⟩::⟨b,o+j*8+3,.i64⟩::(l4++(⟨b,o+j*8+5,.u64⟩::⟨b,o+j*8+6,.u64⟩::l7))))):=jw.mk AC3 (jw.sub oG);let⟨⟨m5,uq⟩,hf5⟩:=IN3 ⟨b,o+j*8+5,.u64⟩ al;let⟨⟨m6,rH⟩,hf6⟩:=IN3 ⟨b,o+j*8+6,.u64⟩ al;dsimp only at uq hf5 rH hf6;have hh7:I v2 (Ad b (o+j*8+7))=dS p7 (J x.X) c7:=AC3.head (jw.sub oG) HD.2.2.2;have AX3:O (Mk wr ((v2.setCell (Ad b (o+j*8+5)) (.U (k+(T:Int)+(J l0:Int)+(J l1:Int)+1+1+(J l4:Int)))).setCell (Ad b (o+j*8+6)) (.U (k+(T:Int)+(J l0:Int)+(J l1:Int)+1+1+(J l4:Int)+1))) ((((((([]++l0)++l1)++[⟨b,o+j*8+2,.u64⟩])++[⟨b,o+j*8+3,.i64⟩])++l4)++[⟨b,o+j*8+5,.u64⟩])++[⟨b,o+j*8+6,.u64⟩]) (k+(T:Int))):=(Mk.set (Mk.set AC3 jw oG (b:=b) (o:=o+j*8+5) (kd:=.u64) al (K:=k+(T:Int)+(J l0:Int)+(J l1:Int)+1+1+(J l4:Int)) (by simp;try omega)) jw oG (b:=b) (o:=o+j*8+6) (kd:=.u64) al (K:=k+(T:Int)+(J l0:Int)+(J l1:Int)+1+1+(J l4:Int)+1) (by simp;try omega));have HV3:O (fk ((v2.setCell (Ad b (o+j*8+5)) (.U (k+(T:Int)+(J l0:Int)+(J l1:Int)+1+1+(J l4:Int)))).setCell (Ad b (o+j*8+6)) (.U (k+(T:Int)+(J l0:Int)+(J l1:Int)+1+1+(J l4:Int)+1))) l7):=(jw.sub (by intro a ha;simp[ha])).mk AX3 (jw.sub oG);clear IN3
      go_wp21
      clear uq hf5 rH hf6 hh7;refine cL (ch0 p7 c7 (J x.X) (x.X) l7 (k+(T:Int)+(J l0:Int)+(J l1:Int)+1+1+(J l4:Int)+1+1) _ uE.2.2.2 HV3 af af) λv3 N3=>?_;have AC4:O (Mk wr v3 (((((((([]++l0)++l1)++[⟨b,o+j*8+2,.u64⟩])++[⟨b,o+j*8+3,.i64⟩])++l4)++[⟨b,o+j*8+5,.u64⟩])++[⟨b,o+j*8+6,.u64⟩])++l7) (k+(T:Int))):=Mk.call AX3 N3 jw oG (by intro a ha;simp[ha]) (by simp;try omega);clear N3 AX3 HV3;have FE:=ai (ae UD _ (by simpa using ae AC4)))
 go_wp2;go_roundw;exact⟨j+1,af,by go_num,by rw[ae HT];first|go_num|(simp;omega)|(congr 1;simp;omega),FE⟩;exact dy};{
 obtain rfl:j=n:=af;have e2:(Ls.take j).flatten=A:=by rw[<-ae LL,wS];exact EA.C
 rw[e2]at hM⊢;clear hle AV HA;go_wp2;go_ret;exact⟨rfl,hM⟩}}):q:=h'
theorem Rf{c n:Nat}(h:oz (.S p n c) xs A)(hA:fk w A)(m:0<=k)(k1:k+J A<=10^8):Cp 37 #[.S p n c,.I k] w λe w'=>e=dR (.I (k+J A))/\Mk w w' A k:=Y8
theorem ch0(p:OA)(c n:Nat)(xs:LI)(A:List Lf)(k:Int)(w:G)(h:Fu (.S p n c) xs A)(hA:fk w A)(m:0<=k)(k1:k+J A<=10^8):Cp 148 #[.S p n c,.I k] w λe w'=>e=dR (.I (k+J A))/\Mk w w' A k:=Y8
theorem ch2{c n:Nat}{xs:List Ev}(h:lI w (.S p n c) xs A)(hA:fk w A)(m:0<=k)(k1:k+J A<=10^8):Cp 39 #[.S p n c,.I k] w λe w'=>e=dR (.I (k+J A))/\Mk w w' A k:=Y8
theorem dL0(p:OA)(c n:Nat)(xs:List aB)(A:List Lf)(k:Int)(w:G)(h:mF w (.S p n c) xs A)(hA:fk w A)(m:0<=k)(k1:k+J A<=10^8):Cp 81 #[.S p n c,.I k] w λe w'=>e=dR (.I (k+J A))/\Mk w w' A k:=Y8
theorem dL3(p:OA)(c n:Nat)(xs:List au)(A:List Lf)(k:Int)(w:G)(h:nG w (.S p n c) xs A)(hA:fk w A)(m:0<=k)(k1:k+J A<=10^8):Cp 82 #[.S p n c,.I k] w λe w'=>e=dR (.I (k+J A))/\Mk w w' A k:=Y8
theorem Tryz.infoU64:(Tryz.prog.info? 27).map (λi=>(i.zero,i.size,i.bytes))=Y (Y (.U 0),1,8):=by kernel_rfl
theorem Tryz.infoEv:(Tryz.prog.info? 125).map (λi=>(i.zero,i.size,i.bytes))=Y (Y (jP #[.I 0,ay]),2,32):=by kernel_rfl
theorem Tryz.infoSes:(Tryz.prog.info? 148).map (λi=>(i.zero,i.size,i.bytes))=Y (Y (jP #[.U 0,.I 0,ay]),3,40):=by kernel_rfl
theorem Tryz.infoNod:(Tryz.prog.info? 149).map (λi=>(i.zero,i.size,i.bytes))=Y (Y (jP #[ay,ay,.U 0,.I 0,ay,.U 0,.U 0,ay]),8,128):=by kernel_rfl
theorem et3(h:Bw w w'):jG w w' dN:=⟨h.os,h.tape,h.output,h.size,λi j _=>h.block i j⟩
structure gp(B:Nat)(w:G)(A:List Lf):Prop where
 nd:(A.map λa=>(a.b,a.o)).Nodup
 lo:∀a∈A,B<=a.b
 ke:fk w A
theorem gp.nil(B:Nat)(w:G):gp B w []:=⟨by simp,λa ha=>by simp at ha,fk.nil w⟩
theorem gp.h(h:gp B w A)(j:B'<=B):gp B' w A:=⟨h.nd,λa i=>gq j (h.lo a i),h.ke⟩
theorem gp.app(h:gp B w A)(j:gp M w A2)(s:B<=M)(r:∀a∈A,a.b<M):gp B w (A++A2):=by
 refine⟨?_,λa i=>?_,fk.app.2 ⟨h.ke,j.ke⟩⟩;{rw[uk,Gm];refine⟨h.nd,j.nd,λx q y o=>?_⟩;obtain⟨a,i,rfl⟩:=fM.1 q;obtain⟨u,m,rfl⟩:=fM.1 o;intro e;have:=r a i;have:=j.lo u m;simp only[lE]at e;omega};{obtain i|i:=jl.1 i;{exact h.lo a i};{exact gq s (j.lo a i)}}
theorem fk.W(h:fk w A)(j:∀a∈A,w'.heap[a.b]?=w.heap[a.b]?):fk w' A:=λa i=>by
 let⟨⟨n,m⟩,hf⟩:=h a i;exact⟨⟨n,(JH (w:=w) (a:=(Ad a.b a.o)) (j a i)).Z m⟩,(Dg (w:=w) (a:=(Ad a.b a.o)) (j a i)).Z hf⟩
theorem gp.W(h:gp B w A)(i:∀a∈A,w'.heap[a.b]?=w.heap[a.b]?):gp B w' A:=⟨h.nd,h.lo,h.ke.W i⟩
def fG{α:Type}(el:G->α->List dV->List Lf->Prop)(ty:TypeId)(m B:Nat)(w:G)(v:dV)(xs:List α)(j:List (List Lf)):Prop:=
 ∃cs:List (List dV),J cs=J xs/\J j=J xs/\(∀c∈cs,J c=m)/\w.ownsRow B ty m v (J xs) (jL cs)∧
  (∀(i:Nat)(x:α)(c:List dV)(l:List Lf),xs[i]?=x->cs[i]?=Y c->j[i]?=l->el w x c l)/\gp B w (jL j)/\∀a∈jL j,jB v≠Y a.b
theorem fG.nil{α:Type}(el:G->α->List dV->List Lf->Prop)(ty:TypeId)(sz B:Nat)(w:G):fG el ty sz B w ay [] []:=
 ⟨[],rfl,rfl,λc hc=>by simp at hc,by simpa using qe w B ty sz,λi x c l hx=>by simp at hx,by simpa using gp.nil B w,λa ha=>by simp at ha⟩
theorem fG.W{α:Type}{el:G->α->List dV->List Lf->Prop}{xs:List α}(h:fG el ty sz B w v xs Ls)(Z:∀x c l,el w x c l->(∀a∈l,w'.heap[a.b]?=w.heap[a.b]?)->el w' x c l)(hz:U (Q w)<=U (Q w'))(hr:∀b,jB v=Y b->w'.heap[b]?=w.heap[b]?)(r:∀a∈jL Ls,w'.heap[a.b]?=w.heap[a.b]?):fG el ty sz B w' v xs Ls:=by
 obtain⟨cs,X,W,V,s,S,R,N⟩:=h;refine⟨cs,X,W,V,?_,λi x c l u hc q=>Z _ _ _ (S i x c l u hc q) (λa M=>r a (Eg.2 ⟨l,bq q,M⟩)),R.W r,N⟩;refine⟨s.1,?_⟩;obtain y|⟨g,o,m,rfl,E,D,j⟩:=s.2;{exact .L y};{exact .R ⟨g,o,m,rfl,E,(hr g rfl).Z D,j⟩}
theorem fG.H{α:Type}{el:G->α->List dV->List Lf->Prop}{xs:List α}(h:fG el ty sz B w v xs Ls)(s:∀w w' x c l,el w x c l->(∀a∈l,w'.heap[a.b]?=w.heap[a.b]?)->el w' x c l)(i:Bw w w'):fG el ty sz B w' v xs Ls:=by
 have r:=h;obtain⟨cs,M,E,D,q,y,o,u⟩:=r;exact h.W (s w w') i.size (λb j=>i.block b (q.lt b j).2) (λa m=>i.block _ (o.ke.lt m))
theorem fG.snoc{α:Type}{el:G->α->List dV->List Lf->Prop}{v':dV}{xs:List α}{x:α} (Z:J cs=J xs)(X:J Ls=J xs)(h3:∀c∈cs,J c=sz)(h5:∀(i:Nat)(x:α)(c:List dV)(l:List Lf),xs[i]?=Y x->cs[i]?=Y c->Ls[i]?=Y l->el w x c l)(E:gp B w (jL Ls))(W:∀a∈jL Ls,jB v≠Y a.b)(cK:∀w w' x c l,el w x c l->(∀a∈l,w'.heap[a.b]?=w.heap[a.b]?)->el w' x c l)(hx:el w x c l)(hc:J c=sz)(s:gp M w l)(D:B<=M)(hM:∀a∈jL Ls,a.b<M)(r:∀b,jB v=Y b->b<M)(gF:w'.ownsRow B ty sz v' (J xs+1) (jL cs++c))(V:jG w w' (jB v))(il:∀g,jB v'=Y g->jB v=Y g\/U (Q w)<=g):fG el ty sz B w' v' (xs++[x]) (Ls++[l]):=by
 have u:∀a∈jL Ls++l,w'.heap[a.b]?=w.heap[a.b]?:=λa j=>by obtain j|j:=jl.1 j;{exact V.block _ (E.ke.lt j) (λe=>W a j e.C)};{exact V.block _ (s.ke.lt j) (λe=>by have:=r a.b e.C;have:=s.lo a j;omega)}
 refine⟨cs++[c],by simp[Z],by simp[X],λR m=>?_,?_,λi y R S q m o=>?_,?_,λa j=>?_⟩;{obtain m|m:=jl.1 m;{exact h3 R m};{simp at m;subst m;exact hc}};{simpa using gF};{
 by_cases hi:i<J xs;{rw[oI hi]at q;rw[oI af]at m o;exact cK w w' _ _ _ (h5 i y R S q m o) (λa j=>u a (Of _ (Eg.2 ⟨S,bq o,j⟩)))};{
 have ei:i=J xs:=by have:=(bH.1 q).1;simp at this;omega
 subst ei;simp at q;rw[<-Z]at m;simp at m;rw[<-X]at o;simp at o;subst q m o;exact cK w w' _ _ _ hx (λa j=>u a (H7 _ j))}};{
 have:jL (Ls++[l])=jL Ls++l:=by simp
 rw[this];exact(E.app s D hM).W u};{
 have:jL (Ls++[l])=jL Ls++l:=by simp
 rw[this]at j;intro e;obtain N|N:=il _ e;{obtain j|j:=jl.1 j;{exact W a j N};{have:=r a.b N;have:=s.lo a j;omega}};{
 have:a.b<U (Q w):=by obtain j|j:=jl.1 j;{exact E.ke.lt j};{exact s.ke.lt j}
 omega}}
theorem fG.lt{α:Type}{el:G->α->List dV->List Lf->Prop}{xs:List α}(h:fG el ty sz B w v xs Ls):(∀b,jB v=Y b->B<=b/\b<U (Q w))/\∀a∈jL Ls,B<=a.b/\a.b<U (Q w):=by
 obtain⟨cs,x,u,s,o,r,j,q⟩:=h;exact⟨λb m=>o.lt b m,λa i=>⟨j.lo a i,j.ke.lt i⟩⟩
theorem ag4(h:∀c∈cs,J c=sz)(hc:cs[i]?=Y c)(m:j<sz):cs.flatten[i*sz+j]?=c[j]?:=by
 induction cs generalizing i with
 |nil=>simp at hc
 | cons d cs ih=>
  cases i with
  |zero=>
   simp at hc;subst hc;rw[vF,oI (by rw[h d al];omega)];simp
  |succ i=>
   rw[vF,qT (by rw[h d al,Gg];omega),h d al];have:=ih (λc hc=>h c (by simp[hc])) (by simpa using hc);rw[<-this];congr 1;rw[Gg];omega
theorem fG.lv{α:Type}{el:G->α->List dV->List Lf->Prop}{xs:List α}(h:fG el ty sz B w v xs Ls)(P:α->Nat->Nat->List Lf->Prop)(iW:∀x c l b a,el w x c l->(∀j u,c[j]?=Y u->I w (Ad b (a+j))=Y u)->(∀o,jF w (Ad b o)=dF)->(∀y∈l,y.b≠b)->fk w l->(l.map λa=>(a.b,a.o)).Nodup→
   ∃L,P x b a L/\(L.map λa=>(a.b,a.o)).Nodup/\fk w L/\∀y∈L,y∈l\/y.b=b/\a<=y.o/\y.o<a+sz):∃A,uC P sz v xs A/\gp B w A:=by
 obtain⟨cs,h1,h2,h3,h4,h5,h6,h7⟩:=h;obtain⟨rfl,h0⟩|⟨g,cap,cur,rfl,hb,hg,-,-,-,-⟩:=id h4.2;{cases uJ.1 h0;exact⟨[],⟨dN,0,[],al,rfl,rfl,.L rfl⟩,gp.nil _ _⟩};{
 have key:∀k,k<=J xs->∃s:List (List Lf),J s=k/\(∀(i:Nat)(x:α)(l:List Lf),i<k->xs[i]?=Y x->s[i]?=Y l->P x g (0+i*sz) l)/\(s.flatten.map λa=>(a.b,a.o)).Nodup/\fk w (jL s)∧
   ∀y∈jL s,y∈jL (jT k Ls)\/y.b=g/\y.o<k*sz:=by
  intro k
  induction k with
  |zero=>intro _;exact⟨[],rfl,λi x l hi=>af,al,fk.nil w,λy r=>by simp at r⟩
  | succ k ih=>
   intro hk;let⟨s,V,q2,q3,Z,S⟩:=ih af;obtain⟨x,M⟩:∃x,xs[k]?=Y x:=⟨_,bN af⟩;obtain⟨c,hc⟩:∃x,cs[k]?=Y x:=⟨_,bN af⟩;obtain⟨l,N⟩:∃x,Ls[k]?=Y x:=⟨_,bN af⟩;have Ex:∀y∈l,y∈jL Ls:=λy r=>Eg.2 ⟨l,bq N,r⟩;have hlen:J c=sz:=h3 c (bq hc);have aI:jL (jT (k+1) Ls)=jL (jT k Ls)++l:=by rw[rD,N];simp
   have vJ:(((jT (k+1) Ls).flatten.map λa=>(a.b,a.o))).Nodup:=by
    have:=h6.nd;have e:jL Ls=jL (jT (k+1) Ls)++jL (jD (k+1) Ls):=by rw[<-LM,JN]
    rw[e,uk,Gm]at this;exact this.1
   rw[aI,uk,Gm]at vJ;obtain⟨n1,n2,n3⟩:=vJ;let⟨L,r1,r2,r3,X⟩:=iW x c l g (0+k*sz) (h5 k x c l M hc N) (λj u hu=>by
    have hj:j<sz:=aM (bH.1 hu).1;have hks:k*sz+sz<=J xs*sz:=by rw[<-Gg];exact Rm _ hk
    rw[nY,h4.cellAt (k*sz+j) af,ag4 h3 hc hj];exact hu) (λo=>by simp[World.frozen?,hg]) (λy r e=>h7 y (Ex y r) (by simp[jB,e])) (h6.ke.sub Ex) n2
   refine⟨s++[L],by simp[V],λi y m hi r hm=>?_,?_,?_,λy r=>?_⟩;{
 by_cases hik:i<k;{rw[oI af]at hm;exact q2 i y m hik r hm};{
 have:i=k:=by omega
 subst this;rw[M]at r;cases r;rw[<-V]at hm;simp at hm;subst hm;exact r1}};{have e:jL (s++[L])=jL s++L:=al;rw[e,uk,Gm];refine⟨q3,r2,λy r z hz=>?_⟩;obtain⟨W,m1,rfl⟩:=fM.1 r;obtain⟨E,m2,rfl⟩:=fM.1 hz;intro R;simp only[lE]at R;obtain u1|⟨u1,u2⟩:=S W m1;{obtain D|⟨D,v2,v3⟩:=X E m2;{exact n3 (W.b,W.o) (Zl u1) (E.b,E.o) (Zl D) (by rw[R.1,R.2])};{exact h7 W (at6 u1) (by simp[jB,R.1,D])}};{obtain D|⟨D,v2,v3⟩:=X E m2;{exact h7 E (Ex E D) (by simp[jB,<-R.1,u1])};{omega}}};{have e:jL (s++[L])=jL s++L:=al;rw[e];exact fk.app.2 ⟨Z,r3⟩};{have e:jL (s++[L])=jL s++L:=al;rw[e]at r;obtain r|r:=jl.1 r;{obtain u1|⟨u1,u2⟩:=S y r;{exact .L (by rw[aI];exact Of _ u1)};{exact .R ⟨u1,by rw[Gg];omega⟩}};{obtain D|⟨D,v2,v3⟩:=X y r;{exact .L (by rw[aI];exact H7 _ D)};{exact .R ⟨D,by rw[Gg];omega⟩}}}
 let⟨s,V,q2,q3,Z,S⟩:=key (J xs) aU;refine⟨jL s,⟨Y (Ad g 0),cap,s,rfl,V,rfl,.R ⟨g,0,rfl,λi x l M N=>q2 i x l (bH.1 M).1 M N⟩⟩,q3,λa ha=>?_,Z⟩;obtain u1|⟨u1,u2⟩:=S a ha;{exact h6.lo a (at6 u1)};{rw[u1];exact hb}}
variable {l:LI}
theorem YF{n c:Nat}(h:w.ownsRow B e 1 (.S p n c) (J l) (l.map (Value.int kd))):∃A,uC (LvI kd) 1 (.S p n c) l A/\gp B w A/\J A=J l/\∀a∈A,jB (Value.slice p n c)=a.b:=by
 obtain⟨s,N⟩|⟨g,V,R,s,hb,M,hr⟩:=id h.2;{obtain⟨rfl,rfl,rfl⟩:=mh s;cases uJ.1 N;exact⟨[],⟨dN,0,[],rfl,rfl,rfl,.L rfl⟩,gp.nil _ _,rfl,λa m=>by simp at m⟩};{
 obtain⟨rfl,rfl,rfl⟩:=mh s;refine⟨(jR (J l)).map λi=>⟨g,0+i,kd⟩,⟨Y (Ad g 0),c,(jR (J l)).map λi=>[⟨g,0+i,kd⟩],rfl,al,?_,.R ⟨g,0,rfl,λi x X Z E=>?_⟩⟩,⟨?_,λa m=>?_,λa m=>?_⟩,al,λa m=>?_⟩;{
 induction(jR (J l))with
 |nil=>rfl
 |cons i r ih=>rw[od,od,vF,<-ih];rfl}
 {let⟨q,e⟩:=bH.1 E;simp at e;rw[<-e,El,nY];rfl};{rw[uI,List.Nodup,Db];exact bb9.imp (λ{i j}y=>by simpa using y)};{obtain⟨i,q,rfl⟩:=fM.1 m;exact hb};{
 obtain⟨i,q,rfl⟩:=fM.1 m;have W:i<J l:=by simpa using q
 refine⟨⟨l[i],?_⟩,by simp[World.frozen?,M]⟩;have:=Rk h i af;simp only[nY];rw[this];simp[W]};{obtain⟨i,q,rfl⟩:=fM.1 m;rfl}}
def Tz(w:G)(x:Int)(c:List dV)(l:List Lf):Prop:=c=[.U x]/\l=[]
theorem Tz.W(w w':G)(x:Int)(c:List dV)(l:List Lf)(h:Tz w x c l)(_:∀a∈l,w'.heap[a.b]?=w.heap[a.b]?):Tz w' x c l:=h
theorem Rd.kR(h:Rd w v xs)(r:oz v xs A)(s:∀a∈A,w'.heap[a.b]?=w.heap[a.b]?):Rd w' v xs:=by
 obtain⟨p,c,rfl,j⟩:=h;refine⟨p,c,rfl,?_⟩;obtain j|⟨b,o,rfl,j⟩:=j;{exact .L j};{refine .R ⟨b,o,rfl,λi m=>?_⟩;let⟨V,N,M,R,y⟩:=r.at;obtain⟨S,E,x,l,B,-,D,u,-,q⟩:=y i m;obtain⟨rfl,rfl⟩:=yr B;have:w'.heap[b]?=w.heap[b]?:=s ⟨b,o+i*1,.u8⟩ (q _ (by rw[show l=_ from u];simp));exact(gG this _).Z (j i m)}
theorem kI.kR(h:kI w v xs)(r:Fu v xs A)(s:∀a∈A,w'.heap[a.b]?=w.heap[a.b]?):kI w' v xs:=by
 obtain⟨p,c,rfl,j⟩:=h;refine⟨p,c,rfl,?_⟩;obtain j|⟨b,o,rfl,j⟩:=j;{exact .L j};{refine .R ⟨b,o,rfl,λi m=>?_⟩;let⟨V,N,M,R,y⟩:=r.at;obtain⟨S,E,x,l,B,-,D,u,-,q⟩:=y i m;obtain⟨rfl,rfl⟩:=yr B;have:w'.heap[b]?=w.heap[b]?:=s ⟨b,o+i*1,jU⟩ (q _ (by rw[show l=_ from u];simp));exact(gG this _).Z (j i m)}
def Fi(w:G)(x:Ev)(c:List dV)(l:List Lf):Prop:=
 ∃p i,c=[.I x.1,.S p (J x.2) i]/\Rd w (.S p (J x.2) i) x.2/\vU (.S p (J x.2) i)/\oz (.S p (J x.2) i) x.2 l
theorem Fi.W(w w':G)(x:Ev)(c:List dV)(l:List Lf)(h:Fi w x c l)(j:∀a∈l,w'.heap[a.b]?=w.heap[a.b]?):Fi w' x c l:=by
 obtain⟨p,r,q,o,m,i⟩:=h;exact⟨p,r,q,o.kR i j,m,i⟩
variable {xs:List Ev}
theorem lI.W(h:lI w v xs A)(o:∀a∈A,w'.heap[a.b]?=w.heap[a.b]?):lI w' v xs A:=by
 refine h.imp λx b a l u j q=>?_;obtain⟨p,c,m,i,s,r⟩:=q;refine⟨p,c,m,i,?_,r⟩;have:w'.heap[b]?=w.heap[b]?:=o ⟨b,a,jV⟩ (j _ (by rw[i];simp));exact(gG this _).Z s
theorem rP.kR(h:rP w v xs)(R:lI w v xs A)(y:∀a∈A,w'.heap[a.b]?=w.heap[a.b]?):rP w' v xs:=by
 obtain⟨p,c,rfl,j⟩:=h;refine⟨p,c,rfl,?_⟩;obtain j|⟨b,o,rfl,j⟩:=j;{exact .L j};{
 refine .R ⟨b,o,rfl,λi e he=>?_⟩;let⟨Ls,en,lL,eA,fL⟩:=R.at;obtain⟨b',o',x,l,e1,s,tJ,W,-,r⟩:=fL i (bH.1 he).1;obtain⟨rfl,rfl⟩:=yr e1;rw[he]at s;cases s;obtain⟨q,cc,lb,D,Z,X⟩:=W;have B:w'.heap[b]?=w.heap[b]?:=y ⟨b,o+i*2,jV⟩ (r _ (by rw[D];simp));let⟨N,u,m,M,E⟩:=j i e he;have:u=.S q (J e.2) cc:=by rw[Z]at m;exact(CU m).C
 subst this;exact⟨(gG B _).Z N,_,(gG B _).Z m,M.kR X (λa V=>y a (r a (by rw[D];simp[V]))),E⟩}
def oy(w:G)(x:aB)(c:List dV)(l:List Lf):Prop:=
 ∃p i,c=[.U x.1,.I x.2.1,.S p (J x.2.2) i]/\rP w (.S p (J x.2.2) i) x.2.2/\lI w (.S p (J x.2.2) i) x.2.2 l
theorem oy.W(w w':G)(x:aB)(c:List dV)(l:List Lf)(h:oy w x c l)(i:∀a∈l,w'.heap[a.b]?=w.heap[a.b]?):oy w' x c l:=by
 obtain⟨p,q,o,m,j⟩:=h;exact⟨p,q,o,m.kR j i,lI.W j i⟩
def mB(w:G)(x:au)(c:List dV)(l:List Lf):Prop:=
 ∃i j q u o s m r E D B y,l=E++(D++(B++y))/\c=[.S i (J x.A) j,.S q (J x.V) u,.U x.D,.I x.M,.S o (J x.y) s,.U x.P,.U x.F,.S m (J x.X) r]∧
  (Rd w (.S i (J x.A) j) x.A/\vU (.S i (J x.A) j)/\oz (.S i (J x.A) j) x.A E)/\(Rd w (.S q (J x.V) u) x.V/\oz (.S q (J x.V) u) x.V D)∧
  (kI w (.S o (J x.y) s) x.y/\Fu (.S o (J x.y) s) x.y B)/\(kI w (.S m (J x.X) r) x.X/\Fu (.S m (J x.X) r) x.X y)
theorem mB.W(w w':G)(x:au)(c:List dV)(l:List Lf)(h:mB w x c l)(j:∀a∈l,w'.heap[a.b]?=w.heap[a.b]?):mB w' x c l:=by
 obtain⟨B,c0,y,c1,u,c4,s,Z,N,M,E,D,rfl,X,⟨W,V,q⟩,⟨S,o⟩,⟨R,m⟩,⟨GG,r⟩⟩:=h;exact⟨B,c0,y,c1,u,c4,s,Z,N,M,E,D,rfl,X,⟨W.kR q (λa i=>j a (by simp[i])),V,q⟩,⟨S.kR o (λa i=>j a (by simp[i])),o⟩,⟨R.kR m (λa i=>j a (by simp[i])),m⟩,⟨GG.kR r (λa i=>j a (by simp[i])),r⟩⟩
theorem fG.read{α:Type}{el:G->α->List dV->List Lf->Prop}{xs:List α}(h:fG el ty sz B w v xs Ls):∃p m,v=.S p (J xs) m/\(xs=[]\/∃g,p=(Ad g 0)/\∀(i:Nat)(x:α),xs[i]?=Y x->∃c l,el w x c l/\∀(j:Nat)(u:dV),c[j]?=Y u->I w (Ad g (0+i*sz+j))=Y u):=by
 obtain⟨cs,h1,h2,D,y,W,h6,h7⟩:=h;obtain⟨rfl,E⟩|⟨g,m,X,rfl,hb,Z,-,-,-,-⟩:=id y.2;{exact⟨dN,0,by rw[E],.L (uJ.1 E)⟩};{
 refine⟨_,m,rfl,.R ⟨g,rfl,λi x o=>?_⟩⟩;have V:=(bH.1 o).1;obtain⟨c,hc⟩:∃x,cs[i]?=Y x:=⟨_,bN af⟩;obtain⟨l,M⟩:∃x,Ls[i]?=Y x:=⟨_,bN af⟩;refine⟨c,l,W i x c l o hc M,λj u r=>?_⟩;have s:J c=sz:=D c (bq hc);have R:j<sz:=aM (bH.1 r).1;have N:i*sz+sz<=J xs*sz:=by rw[<-Gg];exact Rm _ V
 rw[nY,y.cellAt (i*sz+j) af,ag4 D hc R];exact r}
theorem fG.ev(h:fG Fi 125 2 B w v es Ls):rP w v es/\∃A,lI w v es A/\gp B w A:=by
 refine⟨?_,h.lv (Ha w) λx c l b a M hc hf R N S=>?_⟩;{obtain⟨p,o,rfl,m⟩:=h.read;refine⟨p,o,rfl,?_⟩;obtain m|⟨g,rfl,m⟩:=m;{exact .L m};{refine .R ⟨g,0,rfl,λi e he=>?_⟩;obtain⟨c,l,⟨q,E,rfl,D,u,s⟩,r⟩:=m i e he;exact⟨r 0 _ rfl,_,r 1 _ rfl,D,u⟩}};{obtain⟨q,E,rfl,D,u,s⟩:=M;refine⟨⟨b,a,jV⟩::l,⟨q,E,l,rfl,hc 1 _ rfl,s⟩,?_,?_,λy j=>?_⟩;{rw[od,Gn];refine⟨λhm=>?_,S⟩;let⟨y,j,e⟩:=fM.1 hm;simp only[lE]at e;exact R y j e.1};{intro y j;obtain rfl|j:=gD.1 j;{exact⟨⟨_,hc 0 _ rfl⟩,hf _⟩};{exact N y j}};{obtain rfl|j:=gD.1 j;{exact .R ⟨rfl,al,al⟩};{exact .L j}}}
variable {es:List aB}
theorem fG.se(h:fG oy 148 3 B w v es Ls):nM w v es/\∃A,mF w v es A/\gp B w A:=by
 refine⟨?_,h.lv (Fv w) λx c l b a E hc hf aP M aI=>?_⟩;{obtain⟨p,o,rfl,j⟩:=h.read;refine⟨p,o,rfl,?_⟩;obtain j|⟨g,rfl,j⟩:=j;{exact .L j};{refine .R ⟨g,0,rfl,λi e he=>?_⟩;obtain⟨c,l,⟨r,D,rfl,u,s⟩,m⟩:=j i e he;exact⟨m 0 _ rfl,m 1 _ rfl,_,m 2 _ rfl,u⟩}};{obtain⟨r,D,rfl,u,s⟩:=E;refine⟨⟨b,a,jU⟩::⟨b,a+1,jV⟩::l,⟨r,D,l,rfl,hc 2 _ rfl,s⟩,?_,?_,λy hy=>?_⟩;{exact bM7};{intro y hy;obtain rfl|hy:=gD.1 hy;{exact⟨⟨_,hc 0 _ rfl⟩,hf _⟩};{obtain rfl|hy:=gD.1 hy;{exact⟨⟨_,hc 1 _ rfl⟩,hf _⟩};{exact M y hy}}};{obtain rfl|hy:=gD.1 hy;{exact .R ⟨rfl,al,al⟩};{obtain rfl|hy:=gD.1 hy;{exact .R ⟨rfl,al,al⟩};{exact .L hy}}}}
theorem cf2(E:i≠j)(h:((A++A').map λa=>(a.b,a.o)).Nodup)(q:∀y∈A++A',y.b≠b\/(y.o≠a+i/\y.o≠a+j)):((A++(⟨b,a+i,k1⟩::⟨b,a+j,k2⟩::A')).map λa=>(a.b,a.o)).Nodup:=by
 rw[uk,Gm]at h⊢;obtain⟨D,B,u⟩:=h;refine⟨D,?_,λx M y m=>?_⟩;{rw[od,Gn,od,Gn];refine⟨λhm=>?_,λhm=>?_,B⟩;{obtain e|hm:=gD.1 hm;{simp at e;exact E e};{let⟨y,m,e⟩:=fM.1 hm;simp only[lE]at e;obtain h|h:=q y (by simp[m]);{exact h e.1};{exact h.1 e.2}}};{let⟨y,m,e⟩:=fM.1 hm;simp only[lE]at e;obtain h|h:=q y (by simp[m]);{exact h e.1};{exact h.2 e.2}}};{obtain⟨z,r,rfl⟩:=fM.1 M;have s:=q z (by simp[r]);rw[od,od]at m;obtain rfl|m:=gD.1 m;{intro e;simp only[lE]at e;obtain h|h:=s;{exact h e.1};{exact h.1 e.2}};{obtain rfl|m:=gD.1 m;{intro e;simp only[lE]at e;obtain h|h:=s;{exact h e.1};{exact h.2 e.2}};{exact u _ (Zl r) _ m}}}
theorem fG.no{es:List au}(h:fG mB 149 8 B w v es Ls):iw w v es/\∃A,nG w v es A/\gp B w A:=by
 refine⟨?_,h.lv (G9 w) λx c l b a iW hc hf M N aI=>?_⟩;{obtain⟨p,R,rfl,E⟩:=h.read;refine⟨p,R,rfl,?_⟩;obtain E|⟨g,rfl,E⟩:=E;{exact .L E};{refine .R ⟨g,0,rfl,λi e he=>?_⟩;obtain⟨c,l,⟨X,c0,W,c1,V,c4,S,c7,D,u,s,r,-,rfl,⟨h3,h4,h5⟩,⟨h6,h7⟩,⟨h8,Z⟩,⟨GG,Mw⟩⟩,q⟩:=E i e he;exact⟨_,_,_,_,⟨q 0 _ rfl,q 1 _ rfl,q 2 _ rfl,q 3 _ rfl,q 4 _ rfl,q 5 _ rfl,q 6 _ rfl,q 7 _ rfl,h3,h6,h8,GG,h4⟩⟩}};{
 obtain⟨X,c0,W,c1,V,c4,S,c7,D,u,s,r,rfl,rfl,⟨h3,h4,h5⟩,⟨h6,h7⟩,⟨h8,Z⟩,⟨GG,Mw⟩⟩:=iW;refine⟨D++(u++(⟨b,a+2,jU⟩::⟨b,a+3,jV⟩::(s++(⟨b,a+5,jU⟩::⟨b,a+6,jU⟩::r)))),
  ⟨X,c0,W,c1,V,c4,S,c7,D,u,s,r,rfl,⟨hc 0 _ rfl,h5⟩,⟨hc 1 _ rfl,h7⟩,⟨hc 4 _ rfl,Z⟩,⟨hc 7 _ rfl,Mw⟩⟩,?_,?_,λy m=>?_⟩
 {
 have s1:(((D++(u++s))++(⟨b,a+5,jU⟩::⟨b,a+6,jU⟩::r)).map λa=>(a.b,a.o)).Nodup:=cf2 bf (by simpa using aI) (λy m=>.L (M y (by simpa using m)));have s2:=cf2 (A:=D++u) (A':=s++(⟨b,a+5,jU⟩::⟨b,a+6,jU⟩::r)) (b:=b) (a:=a) (k1:=jU) (k2:=jV) (i:=2) (j:=3) bf (by simpa using s1) (λy m=>by simp only[jl,gD]at m;obtain(m|m)|m|rfl|rfl|m:=m;{exact .L (M y (by simp[m]))};{exact .L (M y (by simp[m]))};{exact .L (M y (by simp[m]))};{exact .R al};{exact .R al};{exact .L (M y (by simp[m]))})
 simpa using s2};{intro y m;simp only[jl,gD]at m;obtain m|m|rfl|rfl|m|rfl|rfl|m:=m;{exact N y (by simp[m])};{exact N y (by simp[m])};{exact⟨⟨_,hc 2 _ rfl⟩,hf _⟩};{exact⟨⟨_,hc 3 _ rfl⟩,hf _⟩};{exact N y (by simp[m])};{exact⟨⟨_,hc 5 _ rfl⟩,hf _⟩};{exact⟨⟨_,hc 6 _ rfl⟩,hf _⟩};{exact N y (by simp[m])}};{simp only[jl,gD]at m;obtain m|m|rfl|rfl|m|rfl|rfl|m:=m;{exact .L (by simp[m])};{exact .L (by simp[m])};{exact .R ⟨rfl,al,al⟩};{exact .R ⟨rfl,al,al⟩};{exact .L (by simp[m])};{exact .R ⟨rfl,al,al⟩};{exact .R ⟨rfl,al,al⟩};{exact .L (by simp[m])}}}
variable {xs:List aB}
theorem mF.W(h:mF w v xs A)(m:∀a∈A,w'.heap[a.b]?=w.heap[a.b]?):mF w' v xs A:=by
 refine h.imp λx b a l B j r=>?_;obtain⟨p,c,o,i,u,s⟩:=r;refine⟨p,c,o,i,?_,lI.W s (λy q=>m y (j y (by rw[i];simp[q])))⟩;have:w'.heap[b]?=w.heap[b]?:=m ⟨b,a,jU⟩ (j _ (by rw[i];simp));exact(gG this _).Z u
theorem nG.W{xs:List au}(h:nG w v xs A)(D:∀a∈A,w'.heap[a.b]?=w.heap[a.b]?):nG w' v xs A:=by
 refine h.imp λx b a l hx j E=>?_;obtain⟨r,c0,q,c1,o,c4,m,c7,B,y,u,s,i,⟨Z,X⟩,⟨W,V⟩,⟨S,R⟩,⟨N,M⟩⟩:=E;have:w'.heap[b]?=w.heap[b]?:=D ⟨b,a+2,jU⟩ (j _ (by rw[i];simp));have hc:=gG this;exact⟨r,c0,q,c1,o,c4,m,c7,B,y,u,s,i,⟨(hc _).Z Z,X⟩,⟨(hc _).Z W,V⟩,⟨(hc _).Z S,R⟩,⟨(hc _).Z N,M⟩⟩
theorem nM.kR(h:nM w v xs)(R:mF w v xs A)(D:∀a∈A,w'.heap[a.b]?=w.heap[a.b]?):nM w' v xs:=by
 obtain⟨p,c,rfl,j⟩:=h;refine⟨p,c,rfl,?_⟩;obtain j|⟨b,o,rfl,j⟩:=j;{exact .L j};{
 refine .R ⟨b,o,rfl,λi e he=>?_⟩;let⟨Ls,en,lL,eA,fL⟩:=R.at;obtain⟨b',o',x,l,e1,B,tJ,W,-,y⟩:=fL i (bH.1 he).1;obtain⟨rfl,rfl⟩:=yr e1;rw[he]at B;cases B;obtain⟨q,cc,lb,E,Z,X⟩:=W;have s:w'.heap[b]?=w.heap[b]?:=D ⟨b,o+i*3,jU⟩ (y _ (by rw[E];simp));let⟨N,r,u,m,M⟩:=j i e he;have:u=.S q (J e.2.2) cc:=by rw[Z]at m;exact(CU m).C
 subst this;exact⟨(gG s _).Z N,(gG s _).Z r,_,(gG s _).Z m,M.kR X (λa V=>D a (y a (by rw[E];simp[V])))⟩}
variable {xs:List au}
theorem iw.kR(h:iw w v xs)(hl:nG w v xs A)(D:∀a∈A,w'.heap[a.b]?=w.heap[a.b]?):iw w' v xs:=by
 obtain⟨p,c,rfl,r⟩:=h;refine⟨p,c,rfl,?_⟩;obtain r|⟨b,o,rfl,r⟩:=r;{exact .L r};{
 refine .R ⟨b,o,rfl,λi e he=>?_⟩;let⟨Ls,en,lL,eA,fL⟩:=hl.at;obtain⟨b',o',x,l,e1,B,tJ,hP,-,u⟩:=fL i (bH.1 he).1;obtain⟨rfl,rfl⟩:=yr e1;rw[he]at B;cases B;obtain⟨p0,c0,p1,c1,p4,c4,p7,c7,l0,Z,X,W,E,⟨h2,h3⟩,⟨h4,h5⟩,⟨h6,h7⟩,⟨h8,h9⟩⟩:=hP;have hc:=gG (D ⟨b,o+i*8+2,jU⟩ (u _ (by rw[E];simp)));let⟨P,V,H,iU,j⟩:=r i e he;have S:P=_:=CU (j.c0.C.Z h2);have R:V=_:=CU (j.c1.C.Z h4);have N:H=_:=CU (j.c4.C.Z h6);have M:iU=_:=CU (j.c7.C.Z h8);subst S R N M;have s:∀y,(y∈l0\/y∈Z\/y∈X\/y∈W)->w'.heap[y.b]?=w.heap[y.b]?:=λy q=>D y (u y (by rw[E];obtain q|q|q|q:=q<;>simp[q]));exact⟨_,_,_,_,⟨(hc _).Z j.c0,(hc _).Z j.c1,(hc _).Z j.c2,(hc _).Z j.c3,(hc _).Z j.c4,(hc _).Z j.c5,(hc _).Z j.c6,(hc _).Z j.c7,
  j.r0.kR h3 (λa m=>s a (.L m)),j.r1.kR h5 (λa m=>s a (.R (.L m))),j.r4.kR h7 (λa m=>s a (.R (.R (.L m)))),j.r7.kR h9 (λa m=>s a (.R (.R (.R m)))),j.k0⟩⟩}
namespace iZ
open Go.Sort
theorem co0(i:Int->Int->Bool)(a:Nat):∀(j:Nat)(d:Array Int),(insInner i a j d).size=d.size
 |0,d=>rfl
 |j+1,d=>by rw[insInner];split;{rw[co0 i a j,size_swp]};{rfl}
variable {a j:Nat}{d:Array Int}
theorem insInner_stop(h:¬a<j\/ltInt d[j]! d[j-1]! = dF):insInner ltInt a j d=d:=by
 cases j with
 |zero=>rfl
 |succ j=>
  rw[insInner,aJ];obtain h|h:=h;{simp;omega};{simp only[Sa]at h;simp[h]}
theorem insInner_go(h:a<j)(i:ltInt d[j]! d[j-1]! = dY):insInner ltInt a j d=insInner ltInt a (j-1) (swp d j (j-1)):=by
 cases j with
 |zero=>omega
 |succ j=>
  simp only[Sa]at i⊢;rw[insInner,aK (by simp[i];omega)]
variable {w:G}
theorem dT8{blk off cap N a b:Nat}(hN:O (d.size=N))(h:HU w blk off d)(DB:a<=b)(hb:b<=N)(gj:N<=2^20):dQ dG 267 #[.S (Ad blk off) N cap,.I a,.I b] w λe w'=>e=dR (dT #[])/\HU w' blk off (insertionSort ltInt d a b)/\jG w w' blk:=by
 let⟨D,eD⟩:=bu (insertionSort ltInt d a b);rw[eD];go_in
 go_wp21
 go_loopw[6](λs6 wr=>∃(i:Nat)(x:Array Int),s6=.I i/\i<=1048577/\a<i/\O (x.size=N)/\O (HU wr blk off x)/\O (insOuter ltInt a b i x=D)/\O (jG w wr blk)) (pT b)
 exact⟨a+1,d,by first|rfl|go_num,af,af,hN,h,eD,Pu⟩;{
 obtain⟨i,x,rfl,q1,q2,qD,uv,W,u⟩:=hrel;by_cases aH:i<b;{
 have dm:=cM i b;have hq:=ae W;rw[insOuter,aK aH]at hq;let⟨E,eE⟩:=bu (insInner ltInt a i x);rw[eE]at hq;have HQ:=ai hq;have hEs:O (E.size=N):=ai (by rw[<-eE,co0];exact ae qD)
 go_wp21
 let⟨iY,eY⟩:=aF wr;subst eY;have HG0:=u
 go_loopw[7](λs7 wr=>∃(j:Nat)(s:Array Int),s7=.I j/\j<=i/\a<=j/\O (s.size=N)/\O (HU wr blk off s)/\O (insInner ltInt a j s=E)/\O (jG w wr blk)) (λs7 _=>jN (intOf s7))
 exact⟨i,x,rfl,fS _,af,qD,uv,eE,HG0⟩;{
 obtain⟨j,s,rfl,q3,q4,Mn,M,Dy,u⟩:=hrel;by_cases V:a<j;{
 have ed8:=cM a j;obtain⟨m,em⟩:∃m:Nat,(j:Int)-1=(m:Int):=⟨j-1,af⟩;have PM:j-1=m:=af;have S8:=ae Mn;let⟨cj,fj⟩:=ae M j af;let⟨cm,fm⟩:=ae M m af;let⟨y,Z⟩:=bu s[j]!;let⟨z,X⟩:=bu s[m]!;have Ih:=ai (M.swap (i:=j) (j:=m) af af X.C Z.C);rw[Z]at cj;rw[X]at cm;have i1:=cM j N;have i2:=cM m N;have i3:=gS 0 m;have wm:=iM m;let⟨B,eB⟩:=bu (ltInt y z);have I9:O (B=dF->s=E):=λhB=>by rw[<-ae Dy,insInner_stop (.R (by rw[PM,Z,X,eB,hB]))]
 have Jc:O (B->insInner ltInt a m (swp s j m)=E):=λhB=>by rw[<-ae Dy,insInner_go V (by rw[PM,Z,X,eB,hB]),PM]
 have HG:=ai (jr (jr u (js wr blk (off+j) (.U z))) (js _ blk (off+m) (.U y)));have K0:=bG cj cm;have FF:=bG fj fm
 go_wp21
 go_cut[30](λrv wc=>rv=jO B/\wc=wr.drew)
 case first=>(
 refine fw (λw'=>I w' (Ad blk (off+j))=dU y/\I w' (Ad blk (off+m))=dU z) K0 λhS=>?_;refine gr 0 1 2 3 4 5 6 7 hS ?_;refine iy 8 9 10 11 hS ?_;refine tn 12 hS ?_;refine ry [13] ?_;refine cn (λKK hK=>?_) ?_;{refine Lh aY aY aY aY (λ_=>MU) (LY) ?_;rintro r w2⟨rfl,rfl⟩;refine fE ?_;rw[eB];refine bS hK K0 λhS=>?_;refine tn 14 hS ?_;refine fQ ?_;exact uy};exact fN)
 obtain⟨rfl,rfl⟩:=hcut;cases B with
 |false=>
  obtain rfl:=ae I9 rfl;go_wp2;go_roundw;exact⟨i+1,s,by go_num,af,af,Mn,M.drew,HQ,gI u⟩;exact dy
 |true=>
  have e:=ai (ae Jc rfl)
  go_wp21
  go_region
  go_wp2;go_roundw;exact⟨m,swp s j m,by first|rfl|go_num,af,af,(by show _=_;rw[size_swp];exact S8),(ae Ih),e,gI (gI HG)⟩;exact dy};{
 have ed8:=ga a j;obtain rfl:s=E:=by rw[<-ae Dy,insInner_stop (.L V)]
 go_wp21
 go_cut[30](λrv wc=>rv=jO dF/\wc=wr.drew)
 case first=>(
 refine fw (λw'=>True) iH λhS=>?_;refine iy 0 1 2 3 hS ?_;refine iT 4 5 6 7 hS ?_;refine iT 8 9 10 11 hS ?_;refine sn 12 hS ?_;refine sn 13 hS ?_;refine tn 14 hS ?_;refine fQ ?_;exact uy)
 obtain⟨rfl,rfl⟩:=hcut;go_wp2;go_roundw;exact⟨i+1,s,by go_num,af,af,Mn,M.drew,HQ,gI u⟩
 case measure=>simp[intOf];omega}}}
 {have dm:=ga i b;have hq:=ae W;rw[insOuter,aJ aH]at hq;subst hq;go_wp2;go_end0;exact⟨rfl,uv,u⟩}}
end iZ
namespace iZ
open Go.Sort
variable {d:Array Int}{hi first r:Nat}
theorem dt0(h:¬2*r+1<hi):siftDown ltInt hi first r d=d:=by
 rw[siftDown,Zk af]
def Gr(i first r:Nat)(d:Array Int):Nat:=if 2*r+1+1<i&&ltInt d[first+(2*r+1)]! d[first+(2*r+1)+1]! then 2*r+2 else 2*r+1
theorem aS6(h:2*r+1<hi)(i:ltInt d[first+r]! d[first+Gr hi first r d]! = dF):siftDown ltInt hi first r d=d:=by
 rw[siftDown,dif_neg af];unfold Gr at i;split;{next hc=>rw[aK hc]at i;rw[aK (by simp[i])]}
 {next hc=>rw[aJ hc]at i;rw[aK (by simp[i])]}
theorem aS7(h:2*r+1<hi)(i:ltInt d[first+r]! d[first+Gr hi first r d]! = dY):siftDown ltInt hi first r d=siftDown ltInt hi first (Gr hi first r d) (swp d (first+r) (first+Gr hi first r d)):=by
 rw[siftDown,dif_neg af];unfold Gr at i⊢;split;{
 next hc=>
 rw[aK hc]at i;rw[aJ (by simp[i])];have:2*r+2<hi:=by simp at hc;omega
 rw[Zk this]};{
 next hc=>
 rw[aJ hc]at i;rw[aJ (by simp[i])]}
variable {w:G}
theorem bW5{blk off cap N lo u first:Nat}(hN:O (d.size=N))(h:HU w blk off d)(hh:first+u<=N)(Ew:lo<=N)(gj:N<=2^20):dQ dG 290 #[.S (Ad blk off) N cap,.I lo,.I u,.I first] w λe w'=>e=dR (dT #[])/\HU w' blk off (siftDown ltInt u first lo d)/\jG w w' blk:=by
 let⟨D,eD⟩:=bu (siftDown ltInt u first lo d);rw[eD];go_in
 go_wp21
 go_loopw[8](λs8 wr=>∃(r:Nat)(s:Array Int),s8=.I r/\r<=2^20/\O (s.size=N)/\O (HU wr blk off s)/\O (siftDown ltInt u first r s=D)/\O (jG w wr blk)) (pT u)
 exact⟨lo,d,rfl,af,hN,h,eD,Pu⟩;{
 obtain⟨r,s,rfl,q1,qD,uv,M,hg⟩:=hrel;have w1:jY jV (2*(r:Int))=2*(r:Int):=nW _ af;obtain⟨c,ec⟩:∃c:Nat,2*(r:Int)+1=(c:Int):=⟨2*r+1,af⟩;have ec0:2*r+1=c:=af;have wc:=iM c;by_cases aH:c<u;{
 have dm:¬(u:Int)<=(c:Int):=af;have bn5:=ae qD;obtain⟨Z,ec2⟩:∃Z:Nat,(c:Int)+1=(Z:Int):=⟨c+1,af⟩;have wc2:=iM Z;obtain⟨fr,efr⟩:∃x:Nat,(first:Int)+(r:Int)=(x:Int):=⟨first+r,af⟩;have wfr:=iM fr;obtain⟨m,efc⟩:∃x:Nat,(first:Int)+(c:Int)=(x:Int):=⟨first+c,af⟩;have wfc:=iM m;obtain⟨V,efd⟩:∃x:Nat,(m:Int)+1=(x:Int):=⟨m+1,af⟩;have wfd:=iM V;let⟨fG0,n1,n2,n3,n4⟩:(first:Int)+(Z:Int)=(V:Int)/\first+r=fr/\first+c=m/\m+1=V/\2*r+2=Z:=af
 let⟨cr,Tw⟩:=ae uv fr af;let⟨cc,fcc⟩:=ae uv m af;let⟨y,ey⟩:=bu s[fr]!;let⟨z,ez⟩:=bu s[m]!;rw[ey]at cr;rw[ez]at cc;have j1:=cM fr N;have j2:=cM m N;have K1:=bG cr cc;have F1:=bG Tw fcc;by_cases im:Z<u;{
 have ej2:=cM Z u;let⟨cd,fdd⟩:=ae uv V af;let⟨x,ex⟩:=bu s[V]!;rw[ex]at cd;have j3:=cM V N;let⟨B,eB⟩:=bu (ltInt z x);have SC:Gr u first r s=if B then Z else c:=by unfold Gr;rw[ec0,n4,n2,n3,ez,ex,eB];simp only[show dD (c+1<u)=dY by(rw[wR];omega),yG]
 have K2:=bG K1.2 cd;have cW8:=ai SC;have X:=nK ec0 n1 n2 n3 n4;have HE:=bG ey ez
 go_wp21
 go_cut[36](λrv wc=>rv=jO B/\wc=wr.drew)
 case first=>(
 refine fw (λw'=>I w' (Ad blk (off+m))=dU z/\I w' (Ad blk (off+V))=dU x) K2 λhS=>?_;refine gr 0 1 2 3 4 5 6 7 hS ?_;refine gr 8 9 10 11 12 13 14 15 hS ?_;refine fu 16 17 hS ?_;refine ry [18] ?_;refine cn (λKK hK=>?_) ?_;{refine Lh aY aY aY aY (λ_=>MU) (LY) ?_;rintro r' w2⟨rfl,rfl⟩;refine fE ?_;rw[eB];refine bS hK K2 λhS=>?_;refine tn 19 hS ?_;refine fQ ?_;exact uy};exact fN)
 obtain⟨rfl,rfl⟩:=hcut;cases B with
 |true=>
  have xA:O (Gr u first r s=Z):=ai (by rw[ae cW8];rfl);let⟨ex,cd,fdd⟩:=ae (eG ex cd fdd);obtain⟨cr,-⟩:=ae K1;obtain⟨Tw,-⟩:=ae F1;let⟨W,AH⟩:=bu (ltInt y x);have EB2:=ai AH;have Dt:first+Z=V:=aM (ae X)
  have il:first+r=fr:=X.2.1
  have I9:O (W=dF->s=D):=λhB=>by rw[<-ae M,aS6 (aM X.1) (by rw[ae xA,Dt,il,HE.1,ex,AH,hB])]
  have Jc:O (W->siftDown ltInt u first Z (swp s fr V)=D):=λhB=>by have:=ae M;rw[aS7 (aM X.1) (by rw[ae xA,Dt,il,HE.1,ex,AH,hB]),ae xA,Dt,il]at this;exact this
  have Ih:=ai (uv.swap (i:=fr) (j:=V) af af ex.C HE.1.C);have pG:O ((swp s fr V).size=N):=ai (by rw[size_swp];exact ae qD);have HG:=ai (jr (jr hg (js wr blk (off+fr) (.U x))) (js _ blk (off+V) (.U y)));have K3:=bG cr cd;have F3:=bG Tw fdd
  go_wp21
  go_cut[52](λrv wc=>rv=jO (!W)/\wc=wr.drew.drew)
  case first=>(
 refine fw (λw'=>I w' (Ad blk (off+fr))=dU y/\I w' (Ad blk (off+V))=dU x) K3 λhS=>?_;exact bN4)
  obtain⟨rfl,rfl⟩:=hcut;cases W with
  |false=>
   cases ae I9 rfl;go_wp2;exact cX (BM (h:=rfl) _ _ _) rfl ⟨rfl,uv,gI (gI hg)⟩
  |true=>
   have e:=ai (ae Jc rfl)
   go_wp21
   go_region
   go_wp2;go_roundw;exact⟨Z,swp s fr V,rfl,af,pG,(ae Ih),e,gI (gI (gI HG))⟩;exact dy
 |false=>
  have xA:O (Gr u first r s=c):=ai (by rw[ae cW8];rfl);have ex:=HE.2;obtain⟨cr,-⟩:=ae K1;obtain⟨Tw,-⟩:=ae F1;let⟨W,AH⟩:=bu (ltInt y z);have EB2:=ai AH;have Dt:first+c=m:=aM (ae X)
  have il:first+r=fr:=X.2.1
  have I9:O (W=dF->s=D):=λhB=>by rw[<-ae M,aS6 (aM X.1) (by rw[ae xA,Dt,il,HE.1,ex,AH,hB])]
  have Jc:O (W->siftDown ltInt u first c (swp s fr m)=D):=λhB=>by have:=ae M;rw[aS7 (aM X.1) (by rw[ae xA,Dt,il,HE.1,ex,AH,hB]),ae xA,Dt,il]at this;exact this
  have Ih:=ai (uv.swap (i:=fr) (j:=m) af af ex.C HE.1.C);have pG:O ((swp s fr m).size=N):=ai (by rw[size_swp];exact ae qD);have HG:=ai (jr (jr hg (js wr blk (off+fr) (.U z))) (js _ blk (off+m) (.U y)));have K3:=bG cr K1.2;have F3:=bG Tw F1.2
  go_wp21
  go_cut[52](λrv wc=>rv=jO (!W)/\wc=wr.drew.drew)
  case first=>(
 refine fw (λw'=>I w' (Ad blk (off+fr))=dU y/\I w' (Ad blk (off+m))=dU z) K3 λhS=>?_;exact bN4)
  obtain⟨rfl,rfl⟩:=hcut;cases W with
  |false=>
   cases ae I9 rfl;go_wp2;exact cX (BM (h:=rfl) _ _ _) rfl ⟨rfl,uv,gI (gI hg)⟩
  |true=>
   have e:=ai (ae Jc rfl)
   go_wp21
   go_region
   go_wp2;go_roundw;exact⟨c,swp s fr m,rfl,af,pG,(ae Ih),e,gI (gI (gI HG))⟩;exact dy};{
 have ej2:=ga Z u;have xA:O (Gr u first r s=c):=by show _=_;unfold Gr;rw[aJ bL,ec0]
 have X:=nK ec0 n1 n2 n3 n4;have HE:=bG ey ez;have ex:=HE.2
 go_wp21
 go_cut[36](λrv wc=>rv=jO dF/\wc=wr.drew)
 case first=>(
 refine fw (λw'=>True) iH λhS=>?_;refine iy 0 1 2 3 hS ?_;refine tn 4 hS ?_;refine iT 5 6 7 8 hS ?_;refine iT 9 10 11 12 hS ?_;refine iT 13 14 15 16 hS ?_;refine sn 17 hS ?_;refine sn 18 hS ?_;refine tn 19 hS ?_;refine fQ ?_;exact uy)
 obtain⟨rfl,rfl⟩:=hcut;obtain⟨cr,-⟩:=ae K1;obtain⟨Tw,-⟩:=ae F1;let⟨W,AH⟩:=bu (ltInt y z);have Dt:first+c=m:=aM (ae X)
 have il:first+r=fr:=X.2.1
 have I9:O (W=dF->s=D):=λhB=>by rw[<-ae M,aS6 (aM X.1) (by rw[ae xA,Dt,il,HE.1,ex,AH,hB])]
 have Jc:O (W->siftDown ltInt u first c (swp s fr m)=D):=λhB=>by have:=ae M;rw[aS7 (aM X.1) (by rw[ae xA,Dt,il,HE.1,ex,AH,hB]),ae xA,Dt,il]at this;exact this
 have K3:=bG cr K1.2;have F3:=bG Tw F1.2
 go_wp21
 go_cut[52](λrv wc=>rv=jO (!W)/\wc=wr.drew.drew)
 case first=>(
 refine fw (λw'=>I w' (Ad blk (off+fr))=dU y/\I w' (Ad blk (off+m))=dU z) K3 λhS=>?_;refine gr 0 1 2 3 4 5 6 7 hS ?_;refine iy 8 9 10 11 hS ?_;refine ry [12] ?_;refine cn (λKK hK=>?_) ?_;{refine Lh aY aY aY aY (λ_=>MU) (LY) ?_;rintro r' w2⟨rfl,rfl⟩;refine fE ?_;rw[AH];refine bS hK K3 λhS=>?_;refine tn 13 hS ?_;refine fQ ?_;exact uy};exact fN)
 obtain⟨rfl,rfl⟩:=hcut;cases W with
 |false=>
  cases ae I9 rfl;go_wp2;exact cX (BM (h:=rfl) _ _ _) rfl ⟨rfl,uv,gI (gI hg)⟩
 |true=>
  have e:=ai (ae Jc rfl)
  go_wp21
  go_region
  go_wp2;go_roundw;exact⟨c,swp s fr m,rfl,af,(ai (by rw[size_swp];exact ae qD)),((uv.swap (i:=fr) (j:=m) af af ex.C HE.1.C)),e,gI (gI (gI (jr (jr hg (js wr blk (off+fr) (.U z))) (js _ blk (off+m) (.U y)))))⟩;exact dy}};{
 have dm:=qx u c;have hq:=ae M;rw[dt0 af]at hq;subst hq;go_wp2
 first
  |exact cX (BM (h:=rfl) _ _ _) rfl ⟨rfl,uv,hg⟩
  |(go_end0;exact⟨rfl,uv,hg⟩)}}
end iZ
namespace iZ
open Go.Sort
theorem bW4(j:Int->Int->Bool)(i first:Nat):∀(k r:Nat)(d:Array Int),i-r<=k->(siftDown j i first r d).size=d.size:=by
 intro k
 induction k with
 |zero=>intro r d m;rw[siftDown,Zk af]
 |succ k ih=>
  intro r d m;rw[siftDown];split;{rfl};{split;{split;{rfl};{split;{rw[ih _ _ af,size_swp]};{rfl}}};{split;{rfl};{rw[ih _ _ af,size_swp]}}}
variable {w:G}{d:Array Int}
theorem eh3{blk off cap N a b:Nat}(hN:O (d.size=N))(h:HU w blk off d)(DB:a<=b)(hb:b<=N)(gj:N<=2^20):dQ dG 268 #[.S (Ad blk off) N cap,.I a,.I b] w λe w'=>e=dR (dT #[])/\HU w' blk off (heapSort ltInt d a b)/\jG w w' blk:=by
 let⟨D,s⟩:=bu (heapSort ltInt d a b);rw[s];obtain⟨H,eH⟩:∃H:Nat,(b:Int)-(a:Int)=(H:Int):=⟨b-a,af⟩;have W:b-a=H:=af;have wH:=iM H;unfold heapSort at s;rw[W]at s;let⟨M,eM⟩:=bu (heapBuild ltInt H a ((H-1) / 2+1) d);rw[eM]at s;have w1:jY jV ((H:Int)-1)=(H:Int)-1:=nW _ af;obtain⟨q,eq⟩:∃q:Int,Int.tdiv ((H:Int)-1) 2=q:=⟨_,rfl⟩;have hq:q=((H-1) / 2:Nat):=by rw[<-eq];by_cases hz:H=0;{subst hz;decide};{rw[show(H:Int)-1=((H-1:Nat):Int) by omega];exact(bb5 _ _).C}
 let⟨JS,Oy⟩:0<=q/\q<=2^20:=af;have wq:jY jV q=q:=nW _ af
 change O _ at hq s eM h W
 go_in
 go_wp21
 go_loopw[9](λs9 wr=>∃(o:Int)(k:Nat)(B:Array Int),s9=.I o/\o=(k:Int)-1/\k<=H+1/\O (B.size=N)/\O (HU wr blk off B)/\O (heapBuild ltInt H a k B=M)/\O (jG w wr blk)) (λs9 _=>jN (intOf s9+1))
 exact⟨q,(H-1) / 2+1,d,rfl,aM (ae hq),af,hN,h,eM,Pu⟩;{
 obtain⟨o,k,B,rfl,Z,hiz,qD,uv,V,R⟩:=hrel;have HK:=ai Z;by_cases hz:0<=o;{
 obtain⟨m,em⟩:∃m:Nat,o=(m:Int):=⟨jN o,af⟩;cases(af:k=m+1);clear Z HK;subst em;have E:=ae V;rw[heapBuild]at E
 go_wp21
 refine(bW5 qD uv af af gj).h ?_;rintro e w2⟨rfl,uw,fx⟩;go_wp2;go_roundw;exact⟨(m:Int)-1,m,_,by first|rfl|go_num,af,af,(ai (by rw[bW4 ltInt H a _ m B aU];exact ae qD)),uw,E,jr R fx⟩
 case measure=>first|(simp[intOf];done)|(simp[intOf];omega)}
 {
 cases(af:k=0);cases ae V
 go_wp21
 let⟨iY,eY⟩:=aF wr;subst eY
 go_loopw[10](λBz wr=>∃(o:Int)(k:Nat)(r:Array Int),Bz=.I o/\o=(k:Int)-1/\k<=H/\O (r.size=N)/\O (HU wr blk off r)/\O (heapPop ltInt a k r=D)/\O (jG w wr blk)) (λBz _=>jN (intOf Bz+1))
 exact⟨(H:Int)-1,H,B,rfl,rfl,fS _,qD,uv,s,R⟩;{
 obtain⟨o,k,r,rfl,Z,hiz,Mn,X,Dy,R⟩:=hrel;by_cases hz:0<=o;{
 obtain⟨m,em⟩:∃m:Nat,o=(m:Int):=⟨jN o,af⟩;obtain rfl:k=m+1:=af;clear Z;subst em;have BS:=gS 0 m;obtain⟨f,ef⟩:∃x:Nat,(a:Int)+(m:Int)=(x:Int):=⟨a+m,af⟩;have wf:=iM f;have ef0:a+m=f:=af;have S8:=ae Mn;let⟨ca,fa⟩:=ae X a af;let⟨cf,ff⟩:=ae X f af;let⟨y,ey⟩:=bu r[a]!;let⟨z,ez⟩:=bu r[f]!;rw[ey]at ca;rw[ez]at cf;let⟨tt,ct⟩:=Lj (q:=(Ad blk (off+a))) (u:=.U z) cf;have i1:=cM a N;have i2:=cM f N;have E:=ae Dy;rw[heapPop,ef0]at E;have KO:=ai (X.swap (i:=a) (j:=f) af af ez.C ey.C);have pG:O ((swp r a f).size=N):=by show _=_;rw[size_swp];exact S8
 have sc:a+m<=N:=af
 go_wp21
 go_region
 go_wp21
 refine(bW5 pG (by exact KO) sc (de _) gj).h ?_;rintro e w2⟨rfl,uw,fx⟩;go_wp2;go_roundw;exact⟨(m:Int)-1,m,_,by first|rfl|go_num,rfl,af,(ai (by rw[bW4 ltInt m a _ 0 _ aU];exact ae pG)),uw,E,jr (gI (jr (jr R (js wr blk (off+a) (.U z))) (js _ blk (off+f) (.U y)))) fx⟩
 case measure=>first|(simp[intOf];done)|(simp[intOf];omega)}
 {cases(af:k=0);cases ae Dy;go_wp2;go_end0;exact⟨rfl,X,R⟩}}}}
end iZ
namespace iZ
open Go.Sort
variable {p:Int->Bool}{i j:Nat}{d:Array Int}
theorem di8(h:i<=j)(m:p d[i]! = dY):scanUp p d j i=scanUp p d j (i+1):=by
 rw[scanUp,aK (by simp[h,m])]
theorem di7(h:¬i<=j\/p d[i]! = dF):scanUp p d j i=i:=by
 rw[scanUp,aJ];obtain h|h:=h;{simp;omega};{simp[h]}
theorem eI5(o:0<j)(h:i<=j)(m:p d[j]! = dY):scanDown p d i j=scanDown p d i (j-1):=by
 cases j with
 |zero=>omega
 |succ j=>rw[scanDown,aK (by simp[h,m])];rfl
theorem eI3(m:0<i)(h:¬i<=j\/p d[j]! = dF):scanDown p d i j=j:=by
 cases j with
 |zero=>rfl
 |succ j=>
  rw[scanDown,aJ];obtain h|h:=h;{simp;omega};{simp[h]}
variable {l:Int->Int->Bool}{wr:G}{D:Array Int}{f:Bool->Bool}{Bc:Bool}{y:Int}
theorem Xb{j i Z N a blk off:Nat}(u:O ((dD (j<=i)&&f (l D[Z]! D[a]!))=Bc))(s:O (D.size=N))(o:O (HU wr blk off D))(r:O (D[a]! = y))(E:a<N)(q:j<=i->Z<N):(¬(j:Int)<=(i:Int)/\Bc=dF)\/∃z x L,z=Z/\(j:Int)<=(i:Int)/\(z:Int)<(N:Int)/\(a:Int)<(N:Int)/\(0:Int)<=(z:Int)/\O (l x y=L)/\Bc=f L/\O (I wr (Ad blk (off+z))=dU x/\I wr (Ad blk (off+a))=dU y):=by
 have B:=ae s;have m:=ae r;have e:=ae u;by_cases h:j<=i;{have M:=q h;refine .R ⟨Z,D[Z]!,_,rfl,af,af,af,af,rfl,?_,ai ⟨(ae o Z af).1,?_⟩⟩;{rw[<-e,m,LG h,yG]};{rw[<-m];exact(ae o a af).1}};{refine .L ⟨af,?_⟩;rw[<-e,NQ h];rfl}
variable {iI:Nat}
theorem aO1(h:O ((dD (i<=j)&&p d[i]!)))(e:O (scanUp p d j i=iI)):O (scanUp p d j (i+1)=iI)/\i<=j:=by
 have h:=ae h;rw[gP,wR]at h;exact⟨by show _=_;rw[<-di8 h.1 h.2];exact ae e,h.1⟩
theorem aO0(h:O ((dD (i<=j)&&p d[i]!)=dF))(e:O (scanUp p d j i=iI)):i=iI:=by
 have h:=ae h;rw[Rg,LH]at h;rw[<-ae e,di7 h]
theorem bA0(h:O ((dD (i<=j)&&p d[j]!)))(e:O (scanDown p d i j=iI))(o:0<i):i<=j/\∃m:Nat,(j:Int)-1=(m:Int)/\O (scanDown p d i m=iI):=by
 have h:=ae h;rw[gP,wR]at h;exact⟨h.1,j-1,af,by show _=_;rw[<-eI5 af h.1 h.2];exact ae e⟩
theorem bz9(h:O ((dD (i<=j)&&p d[j]!)=dF))(e:O (scanDown p d i j=iI))(m:0<i):j=iI:=by
 have h:=ae h;rw[Rg,LH]at h;rw[<-ae e,eI3 m h]
variable {q:Prop}
theorem Xc(h':q:=by
 obtain⟨bm3,rfl⟩|⟨z,x,L,rfl,bm3,k1,k2,k3,EL,rfl,K0⟩:=CP;{
 refine fw (λw'=>True) iH λhS=>?_;refine iy 0 1 2 3 hS ?_;refine iT 4 5 6 7 hS ?_;refine iT 8 9 10 11 hS ?_;refine sn 12 hS ?_
 first|(refine tn 13 hS ?_;refine Zc aS ?_ _)|(refine sn 13 hS ?_;refine tn 14 hS ?_;refine Zc aS ?_ _)
 refine AJ ?_
 go_wp21
 go_meet;exact⟨rfl,rfl⟩};{
 refine fw (λw'=>I w' (Ad blk (off+z))=dU x/\I w' (Ad blk (off+a))=dU y) (by exact K0) λhS=>?_;refine gr 0 1 2 3 4 5 6 7 hS ?_;refine iy 8 9 10 11 hS ?_;refine ry [12] ?_;refine cn (λKK hK=>?_) ?_;{
 refine Lh aY aY aY aY (λ_=>MU) (LY) ?_;rintro r' w2⟨rfl,rfl⟩;refine⟨_,rfl,?_⟩;rw[ae EL];refine bS hK (by exact K0) λhS=>?_;refine tn 13 hS ?_
 try(refine tn 14 hS ?_)
 refine fQ ?_
 go_wp21
 go_meet;exact⟨rfl,rfl⟩};exact fN}):q:=h'
variable {a i2 j2:Nat}
theorem dD5(o:scanUp (λx=>ltInt x d[a]!) d j i=i2)(m:scanDown (λx=>!ltInt x d[a]!) d i2 j=j2)(h:j2<i2):partLoop ltInt a i j d=(j2,d):=by
 rw[partLoop];simp only[o,m];rw[aK h]
theorem dD6(q:scanUp (λx=>ltInt x d[a]!) d j i=i2)(o:scanDown (λx=>!ltInt x d[a]!) d i2 j=j2)(h:¬j2<i2)(s:i<=i2)(r:j2<=j)(m:0<i2):partLoop ltInt a i j d=partLoop ltInt a (i2+1) (j2-1) (swp d i2 j2):=by
 rw[partLoop];simp only[q,o];rw[aJ h,Zk af]
variable {w:G}
theorem dD4{blk off cap N a b piv:Nat}(hN:O (d.size=N))(h:HU w blk off d)(Td:a<=piv)(Z7:piv<b)(hb:b<=N)(gj:N<=2^20):dQ dG 275 #[.S (Ad blk off) N cap,.I a,.I b,.I piv] w λe w'=>e=dR (dT #[.I (partition ltInt d a b piv).1,jO (partition ltInt d a b piv).2.1])/\HU w' blk off (partition ltInt d a b piv).2.2/\jG w w' blk:=by
 obtain⟨⟨R1,R2,R3⟩,eR⟩:∃R,partition ltInt d a b piv=R:=⟨_,rfl⟩;rw[eR];have qD:=ae hN;obtain⟨W,eB1⟩:∃x:Nat,(b:Int)-1=(x:Int):=⟨b-1,af⟩;have Xa:b-1=W:=af;have wB:=iM W;let⟨ca,fa⟩:=h a af;let⟨cp,fp⟩:=h piv af;let⟨u,eu⟩:=bu d[a]!;let⟨v,ev⟩:=bu d[piv]!;have KO:=ai (h.swap (i:=a) (j:=piv) af af ev.C eu.C);rw[eu]at ca;rw[ev]at cp;let⟨tt,ct⟩:=Lj (q:=(Ad blk (off+a))) (u:=.U v) cp;let⟨r,TJ⟩:=bu (swp d a piv);rw[TJ]at KO;have M:O (r.size=N):=by show _=_;rw[<-TJ,size_swp];exact qD
 let⟨y,ey⟩:=bu r[a]!;let⟨HY1,HG⟩:=aQ ey (jr (js w blk (off+a) (.U v)) (js _ blk (off+piv) (.U u)));obtain⟨I1,eI1⟩:∃iI,scanUp (λx=>ltInt x r[a]!) r W (a+1)=iI:=⟨_,rfl⟩;obtain⟨X,eJ2⟩:∃iJ,scanDown (λx=>!ltInt x r[a]!) r I1 W=iJ:=⟨_,rfl⟩;have HR:O (((R1,R2,R3):Nat×Bool×Array Int)=if I1>X then(X,dY,swp r X a)else((partLoop ltInt a (I1+1) (X-1) (swp r I1 X)).1,dF,swp (partLoop ltInt a (I1+1) (X-1) (swp r I1 X)).2 (partLoop ltInt a (I1+1) (X-1) (swp r I1 X)).1 a)):=by show _=_;rw[<-eR,partition,TJ,Xa];simp only[eI1,eJ2]
 have kk1:=cM a N;have kk2:=cM piv N;go_in
 go_wp21
 go_region
 go_wp21
 go_loopw[10](λs wr=>∃D:Nat,s=.I D/\a+1<=D/\D<=W+2/\O (HU wr blk off r)/\O (scanUp (λx=>ltInt x r[a]!) r W D=I1)/\O (jG w wr blk)) (λs _=>W+1-(jN (intOf s)))
 exact⟨a+1,by first|rfl|go_num,af,af,(ae KO),eI1,(gI HG)⟩;{
 obtain⟨D,rfl,qa1,qb1,sy,Kj,ID⟩:=hrel;obtain⟨V,Fl⟩:∃B,(dD (D<=W)&&((λx=>ltInt x r[a]!) r[D]!))=B:=⟨_,rfl⟩;have E:=ai Fl
 go_wp21
 go_cut[43](λrv wc=>rv=jO V/\wc=wr.drew)
 case first=>(
 have CP:=Xb (l:=ltInt) (f:=λb=>b) E M sy HY1 af af;exact Xc)
 obtain⟨rfl,rfl⟩:=hcut;cases V with
 |true=>
  let⟨hn,hle⟩:=aO1 E Kj;go_wp2;go_roundw;exact⟨D+1,by go_num,af,af,sy.drew,hn,gI ID⟩;exact dy
 |false=>
  obtain rfl:=aO0 E Kj
  go_wp21
  go_loopw[11](λs wr=>∃o:Nat,s=.I o/\D<=o+2/\o<=W/\O (HU wr blk off r)/\O (scanDown (λx=>!ltInt x r[a]!) r D o=X)/\O (jG w wr blk)) (λs _=>jN (intOf s))
  exact⟨W,by first|rfl|go_num,af,af,sy,eJ2,(gI ID)⟩;{
 obtain⟨o,rfl,qa2,qb2,uw,hE2,Tp⟩:=hrel;obtain⟨V,Fl⟩:∃B,(dD (D<=o)&&((λx=>!ltInt x r[a]!) r[o]!))=B:=⟨_,rfl⟩;have E:=ai Fl
 go_wp21
 go_cut[60](λrv wc=>rv=jO V/\wc=wr.drew)
 case first=>(
 have CP:=Xb (l:=ltInt) (f:=not) E M uw HY1 af af;exact Xc)
 obtain⟨rfl,rfl⟩:=hcut;cases V with
 |true=>
  let⟨hle,m,em,hn⟩:=bA0 E hE2 af;go_wp2;go_roundw;exact⟨m,by first|rfl|go_num,af,af,uw.drew,hn,gI Tp⟩;exact dy
 |false=>
  obtain rfl:=bz9 E hE2 af;by_cases hgt:o<D;{
 have ef5:=cM o D;have Z:=ae HR;rw[aK hgt]at Z;simp only[lE]at Z;obtain⟨Ff,xq,Tx⟩:=Z;replace Ff:=Ff.C;replace Tx:=Tx.C;subst Ff xq Tx;let⟨c1,f1⟩:=ae uw o (aM (ae M));let⟨c2,f2⟩:=ae uw a (aM (ae M));let⟨p1,vP⟩:=bu r[o]!;let⟨p2,vO⟩:=bu r[a]!;rw[vP]at c1;rw[vO]at c2;let⟨tt,ct⟩:=Lj (q:=(Ad blk (off+o))) (u:=.U p2) c2;let⟨Cz,DX⟩:=aQ (uw.swap (i:=o) (j:=a) (aM (ae M)) (aM (ae M)) vO.C vP.C) (jr (jr Tp (js _ blk (off+o) (.U p2))) (js _ blk (off+a) (.U p1)));have l1:=cM o N;have l3:=gS 0 o;have l4:=gS 0 a
 go_wp21
 go_region
 go_wp2;go_ret2;exact⟨rfl,Cz,gI (gI DX)⟩};{
 have ef5:=ga o D;obtain⟨⟨Q1,Q2⟩,eQ⟩:∃iZ,partLoop ltInt a (D+1) (o-1) (swp r D o)=iZ:=⟨_,rfl⟩;have Z:=ae HR;rw[aJ hgt,eQ]at Z;let⟨HRB,EQ⟩:=aQ Z eQ;let⟨c1,f1⟩:=ae uw D (aM (ae M));let⟨c2,f2⟩:=ae uw o (aM (ae M));let⟨p1,vP⟩:=bu r[D]!;let⟨p2,vO⟩:=bu r[o]!;rw[vP]at c1;rw[vO]at c2;let⟨tt,ct⟩:=Lj (q:=(Ad blk (off+D))) (u:=.U p2) c2;let⟨Cz,DX⟩:=aQ (uw.swap (i:=D) (j:=o) (aM (ae M)) (aM (ae M)) vO.C vP.C) (jr (jr Tp (js _ blk (off+D) (.U p2))) (js _ blk (off+o) (.U p1)));have l1:=cM D N;have l2:=cM o N;have l3:=gS 0 D;have l4:=gS 0 o;obtain⟨m2,em2⟩:∃m:Nat,(o:Int)-1=(m:Int):=⟨o-1,af⟩;have eD9:o-1=m2:=af;rw[eD9]at EQ;have HD2:O ((swp r D o).size=N):=by show _=_;rw[size_swp];exact ae M
 go_wp21
 go_region
 go_wp21
 go_loopw[10,11](λBz YE wr=>∃(i j:Nat)(dk:Array Int),Bz=.I i/\YE=.I j/\a+1<=i/\i<=j+2/\j<=W/\O (dk.size=N)/\O (HU wr blk off dk)/\O (partLoop ltInt a i j dk=(Q1,Q2))/\O (jG w wr blk)) (λBz YE _=>jN (intOf YE+2-intOf Bz))
 exact⟨D+1,m2,_,by first|rfl|go_num,by first|rfl|go_num,af,af,af,HD2,Cz,EQ,gI (gI DX)⟩;{
 obtain⟨i,j,dk,rfl,rfl,z1,z2,z3,yw,xo,hQ3,Kh⟩:=hrel;let⟨y,ey⟩:=bu dk[a]!;have HY3:=ai ey;obtain⟨I4,eI4⟩:∃iI,scanUp (λx=>ltInt x dk[a]!) dk j i=iI:=⟨_,rfl⟩;obtain⟨J5,eJ5⟩:∃iJ,scanDown (λx=>!ltInt x dk[a]!) dk I4 j=iJ:=⟨_,rfl⟩;let⟨EI4,EJ5⟩:=aQ eI4 eJ5;have an1:=EI4;have am9:=EJ5
 go_wp21
 let⟨iY,eY⟩:=aF wr;subst eY
 go_loopw[10](λs wr=>∃i4:Nat,s=.I i4/\i<=i4/\i4<=j+2/\O (HU wr blk off dk)/\O (scanUp (λx=>ltInt x dk[a]!) dk j i4=I4)/\O (jG w wr blk)) (λs _=>j+1-(jN (intOf s)))
 exact⟨i,by first|rfl|go_num,af,af,xo,EI4,Kh⟩;{
 obtain⟨i4,rfl,qa4,qb4,Cl,Ph,hG4⟩:=hrel;obtain⟨V,Fl⟩:∃B,(dD (i4<=j)&&((λx=>ltInt x dk[a]!) dk[i4]!))=B:=⟨_,rfl⟩;have E:=ai Fl
 go_wp21
 go_cut[112](λrv wc=>rv=jO V/\wc=wr.drew)
 case first=>(
 have CP:=Xb (l:=ltInt) (f:=λb=>b) E yw Cl HY3 af af;exact Xc)
 obtain⟨rfl,rfl⟩:=hcut;cases V with
 |true=>
  let⟨hn,hle⟩:=aO1 E Ph;go_wp2;go_roundw;exact⟨i4+1,by go_num,af,af,Cl.drew,hn,gI hG4⟩;exact dy
 |false=>
  obtain rfl:=aO0 E Ph
  go_wp21
  go_loopw[11](λs wr=>∃j5:Nat,s=.I j5/\i4<=j5+2/\j5<=j/\O (HU wr blk off dk)/\O (scanDown (λx=>!ltInt x dk[a]!) dk i4 j5=J5)/\O (jG w wr blk)) (λs _=>jN (intOf s))
  exact⟨j,by first|rfl|go_num,af,af,Cl,EJ5,(gI hG4)⟩;{
 obtain⟨j5,rfl,qa5,qb5,Az,hE5,WI⟩:=hrel;obtain⟨V,Fl⟩:∃B,(dD (i4<=j5)&&((λx=>!ltInt x dk[a]!) dk[j5]!))=B:=⟨_,rfl⟩;have E:=ai Fl
 go_wp21
 go_cut[129](λrv wc=>rv=jO V/\wc=wr.drew)
 case first=>(
 have CP:=Xb (l:=ltInt) (f:=not) E yw Az HY3 af af;exact Xc)
 obtain⟨rfl,rfl⟩:=hcut;cases V with
 |true=>
  let⟨hle,m,em,hn⟩:=bA0 E hE5 af;go_wp2;go_roundw;exact⟨m,by first|rfl|go_num,af,af,Az.drew,hn,gI WI⟩;exact dy
 |false=>
  obtain rfl:=bz9 E hE5 af;by_cases mY:j5<i4;{
 have bm8:=cM j5 i4;have hq:=ae hQ3;rw[dD5 (ae an1) (ae am9) mY]at hq;simp only[lE]at hq;obtain⟨ME,MC⟩:=hq;subst ME MC;have Z:=ae HRB;simp only[lE]at Z;obtain⟨Ff,xq,Tx⟩:=Z;replace Ff:=Ff.C;replace Tx:=Tx.C;subst Ff xq Tx;let⟨c1,f1⟩:=ae Az j5 (aM (ae yw));let⟨c2,f2⟩:=ae Az a (aM (ae yw));let⟨p1,vP⟩:=bu dk[j5]!;let⟨p2,vO⟩:=bu dk[a]!;rw[vP]at c1;rw[vO]at c2;let⟨tt,ct⟩:=Lj (q:=(Ad blk (off+j5))) (u:=.U p2) c2;let⟨Cz,DX⟩:=aQ (Az.swap (i:=j5) (j:=a) (aM (ae yw)) (aM (ae yw)) vO.C vP.C) (jr (jr WI (js _ blk (off+j5) (.U p2))) (js _ blk (off+a) (.U p1)));have l1:=cM j5 N;have l3:=gS 0 j5;have l4:=gS 0 a
 go_wp21
 go_region
 go_wp2;go_ret2;exact⟨rfl,Cz,gI (gI DX)⟩};{have bm8:=ga j5 i4;have hq:=ae hQ3;rw[dD6 (ae an1) (ae am9) mY af af af]at hq;exact zs5}}}}}}}
end iZ
namespace iZ
open Go.Sort
variable {a i j i2 j2:Nat}{d:Array Int}
theorem dD7(o:scanUp (λx=>!ltInt d[a]! x) d j i=i2)(m:scanDown (λx=>ltInt d[a]! x) d i2 j=j2)(h:j2<i2):partEqLoop ltInt a i j d=(i2,d):=by
 rw[partEqLoop];simp only[o,m];rw[aK h]
theorem dD8(q:scanUp (λx=>!ltInt d[a]! x) d j i=i2)(o:scanDown (λx=>ltInt d[a]! x) d i2 j=j2)(h:¬j2<i2)(s:i<=i2)(r:j2<=j)(m:0<i2):partEqLoop ltInt a i j d=partEqLoop ltInt a (i2+1) (j2-1) (swp d i2 j2):=by
 rw[partEqLoop];simp only[q,o];rw[aJ h,Zk af]
variable {w:G}
theorem dD3{blk off cap N a b piv:Nat}(hN:O (d.size=N))(h:HU w blk off d)(Td:a<=piv)(Z7:piv<b)(hb:b<=N)(gj:N<=2^20):dQ dG 274 #[.S (Ad blk off) N cap,.I a,.I b,.I piv] w λe w'=>e=dR (.I (partitionEqual ltInt d a b piv).1)/\HU w' blk off (partitionEqual ltInt d a b piv).2/\jG w w' blk:=by
 obtain⟨⟨Q1,Q2⟩,eR⟩:∃R,partitionEqual ltInt d a b piv=R:=⟨_,rfl⟩;rw[eR];have qD:=ae hN;obtain⟨B1,eB1⟩:∃x:Nat,(b:Int)-1=(x:Int):=⟨b-1,af⟩;have Xa:b-1=B1:=af;have wB:=iM B1;let⟨ca,fa⟩:=h a af;let⟨cp,fp⟩:=h piv af;let⟨u,eu⟩:=bu d[a]!;let⟨v,ev⟩:=bu d[piv]!;have KO:=ai (h.swap (i:=a) (j:=piv) af af ev.C eu.C);rw[eu]at ca;rw[ev]at cp;let⟨tt,ct⟩:=Lj (q:=(Ad blk (off+a))) (u:=.U v) cp;let⟨d1,TJ⟩:=bu (swp d a piv);rw[TJ]at KO;have Fz:O (d1.size=N):=by show _=_;rw[<-TJ,size_swp];exact qD
 have HG:=ai (jr (js w blk (off+a) (.U v)) (js _ blk (off+piv) (.U u)));have EQ:O (partEqLoop ltInt a (a+1) B1 d1=(Q1,Q2)):=by show _=_;rw[<-eR,partitionEqual,TJ,Xa]
 have kk1:=cM a N;have kk2:=cM piv N;go_in
 go_wp21
 go_region
 go_wp21
 go_loopw[9,10](λs9 Bz wr=>∃(i j:Nat)(dk:Array Int),s9=.I i/\Bz=.I j/\a+1<=i/\i<=j+2/\j<=B1/\O (dk.size=N)/\O (HU wr blk off dk)/\O (partEqLoop ltInt a i j dk=(Q1,Q2))/\O (jG w wr blk)) (λs9 Bz _=>jN (intOf Bz+2-intOf s9))
 exact⟨a+1,B1,_,by first|rfl|go_num,by first|rfl|go_num,af,af,af,Fz,KO,EQ,gI HG⟩;{
 obtain⟨i,j,dk,rfl,rfl,z1,z2,z3,yw,xo,r,Kh⟩:=hrel;let⟨y,ey⟩:=bu dk[a]!;have W:=ai ey;obtain⟨I4,eI4⟩:∃iI,scanUp (λx=>!ltInt dk[a]! x) dk j i=iI:=⟨_,rfl⟩;obtain⟨J5,eJ5⟩:∃iJ,scanDown (λx=>ltInt dk[a]! x) dk I4 j=iJ:=⟨_,rfl⟩;let⟨Z,X⟩:=aQ eI4 eJ5;have M:=Z;have V:=X
 go_wp21
 let⟨iY,eY⟩:=aF wr;subst eY
 go_loopw[9](λs wr=>∃i4:Nat,s=.I i4/\i<=i4/\i4<=j+2/\O (HU wr blk off dk)/\O (scanUp (λx=>!ltInt dk[a]! x) dk j i4=I4)/\O (jG w wr blk)) (λs _=>j+1-(jN (intOf s)))
 exact⟨i,by first|rfl|go_num,af,af,xo,Z,Kh⟩;{
 obtain⟨i4,rfl,qa4,qb4,Cl,Ph,D⟩:=hrel;obtain⟨Bc,Fl⟩:∃B,(dD (i4<=j)&&((λx=>!ltInt dk[a]! x) dk[i4]!))=B:=⟨_,rfl⟩;have o:=ai Fl
 go_wp21
 go_cut[43](λrv wc=>rv=jO Bc/\wc=wr.drew)
 case first=>(
 have CP:=Xb (l:=λx y=>ltInt y x) (f:=not) o yw Cl W af af;exact Xc)
 obtain⟨rfl,rfl⟩:=hcut;cases Bc with
 |true=>
  let⟨hn,hle⟩:=aO1 o Ph;go_wp2;go_roundw;exact⟨i4+1,by go_num,af,af,Cl.drew,hn,gI D⟩;exact dy
 |false=>
  obtain rfl:=aO0 o Ph
  go_wp21
  go_loopw[10](λs wr=>∃j5:Nat,s=.I j5/\i4<=j5+2/\j5<=j/\O (HU wr blk off dk)/\O (scanDown (λx=>ltInt dk[a]! x) dk i4 j5=J5)/\O (jG w wr blk)) (λs _=>jN (intOf s))
  exact⟨j,by first|rfl|go_num,af,af,Cl,X,(gI D)⟩;{
 obtain⟨j5,rfl,qa5,qb5,Az,E,WI⟩:=hrel;obtain⟨Bc,Fl⟩:∃B,(dD (i4<=j5)&&((λx=>ltInt dk[a]! x) dk[j5]!))=B:=⟨_,rfl⟩;have o:=ai Fl
 go_wp21
 go_cut[59](λrv wc=>rv=jO Bc/\wc=wr.drew)
 case first=>(
 have CP:=Xb (l:=λx y=>ltInt y x) (f:=λb=>b) o yw Az W af af;exact Xc)
 obtain⟨rfl,rfl⟩:=hcut;cases Bc with
 |true=>
  let⟨hle,m,em,hn⟩:=bA0 o E af;go_wp2;go_roundw;exact⟨m,by first|rfl|go_num,af,af,Az.drew,hn,gI WI⟩;exact dy
 |false=>
  obtain rfl:=bz9 o E af;by_cases mY:j5<i4;{have bm8:=cM j5 i4;have hq:=ae r;rw[dD7 (ae M) (ae V) mY]at hq;simp only[lE]at hq;obtain⟨ME,MC⟩:=hq;subst ME MC;go_wp2;go_ret;exact⟨rfl,Az,gI WI⟩};{have bm8:=ga j5 i4;have hq:=ae r;rw[dD8 (ae M) (ae V) mY af af af]at hq;exact zs5}}}}
end iZ
namespace iZ
open Go.Sort
variable {b i:Nat}{d:Array Int}
theorem dp8(h:i<b)(j:ltInt d[i]! d[i-1]! = dF):scanSorted ltInt d b i=scanSorted ltInt d b (i+1):=by
 rw[scanSorted,aK (by simp[h,j])]
theorem dp7(h:¬i<b\/ltInt d[i]! d[i-1]! = dY):scanSorted ltInt d b i=i:=by
 rw[scanSorted,aJ];obtain h|h:=h;{simp;omega};{simp[h]}
theorem bX5:∀(j:Nat)(d:Array Int),(shiftDown ltInt j d).size=d.size
 |0,d=>rfl
 |j+1,d=>by rw[shiftDown];split;{rfl};{rw[bX5 j,size_swp]}
theorem dn6(b:Nat):∀(k j:Nat)(d:Array Int),b-j<=k->(shiftUp ltInt b j d).size=d.size:=by
 intro k
 induction k with
 |zero=>intro j d h;rw[shiftUp,aJ af]
 |succ k ih=>
  intro j d h;rw[shiftUp];split;{split;{rfl};{rw[ih _ _ af,size_swp]}};{rfl}
variable {j:Nat}
theorem du4(h:0<j)(i:ltInt d[j]! d[j-1]! = dY):shiftDown ltInt j d=shiftDown ltInt (j-1) (swp d j (j-1)):=by
 cases j with
 |zero=>omega
 |succ j=>
  simp only[Sa]at i⊢;rw[shiftDown,aJ (by simp[i])]
theorem bX4(h:j=0\/ltInt d[j]! d[j-1]! = dF):shiftDown ltInt j d=d:=by
 cases j with
 |zero=>rfl
 |succ j=>
  obtain h|h:=h;{omega};{simp only[Sa]at h;rw[shiftDown,aK (by simp[h])]}
theorem dn7(h:j<b)(i:ltInt d[j]! d[j-1]! = dY):shiftUp ltInt b j d=shiftUp ltInt b (j+1) (swp d j (j-1)):=by
 rw[shiftUp,aK h,aJ (by simp[i])]
theorem bS6(h:¬j<b\/ltInt d[j]! d[j-1]! = dF):shiftUp ltInt b j d=d:=by
 rw[shiftUp];obtain h|h:=h;{rw[aJ h]};{split;{rw[aK (by simp[h])]};{rfl}}
variable {a iI s:Nat}
theorem dC5(j:scanSorted ltInt d b i=iI)(h:iI=b):partialIns ltInt a b (s+1) i d=(d,dY):=by
 rw[partialIns];simp only[j];rw[aK h]
theorem pi_short(j:scanSorted ltInt d b i=iI)(h:¬iI=b)(m:b-a<50):partialIns ltInt a b (s+1) i d=(d,dF):=by
 rw[partialIns];simp only[j];rw[aJ h,aK m]
theorem pi_go(q:scanSorted ltInt d b i=iI)(h:¬iI=b)(r:¬b-a<50){m j o:Array Int}(y:swp d iI (iI-1)=m)(x:(if iI-a>=2 then shiftDown ltInt (iI-1) m else m)=j)(u:(if b-iI>=2 then shiftUp ltInt b (iI+1) j else j)=o):partialIns ltInt a b (s+1) i d=partialIns ltInt a b s iI o:=by
 rw[partialIns];simp only[q];rw[aJ h,aJ r,y,x,u]
variable {w:G}
theorem dD2{blk off cap N a b:Nat}(hN:O (d.size=N))(h:HU w blk off d)(DB:a<b)(hb:b<=N)(gj:N<=2^20):dQ dG 272 #[.S (Ad blk off) N cap,.I a,.I b] w λe w'=>e=dR (jO (partialInsertionSort ltInt d a b).2)/\HU w' blk off (partialInsertionSort ltInt d a b).1/\jG w w' blk:=by
 obtain⟨⟨R1,R2⟩,eR⟩:∃R,partialInsertionSort ltInt d a b=R:=⟨_,rfl⟩;rw[eR];obtain⟨Lz,eL⟩:∃x:Nat,(b:Int)-(a:Int)=(x:Int):=⟨b-a,af⟩;have eL0:=ai (show b-a=Lz by omega);have wL:=iM Lz;go_in
 go_wp21
 go_loopw[7,8](λs7 s8 wr=>∃(i s:Nat)(X:Int)(D:Array Int),s7=.I i/\s8=.I X/\X+s=5/\0<=X/\a+1<=i/\i<=b/\O (D.size=N)/\O (HU wr blk off D)/\O (partialIns ltInt a b s i D=(R1,R2))/\O (jG w wr blk)) (λ_ s8 _=>jN (5-intOf s8))
 exact⟨a+1,5,0,d,by first|rfl|go_num,rfl,rfl,af,af,af,hN,h,eR,Pu⟩;{
 obtain⟨i,s,X,D,rfl,rfl,z1,z2,z3,z4,HD,hH,hQ,hG⟩:=hrel;cases s with
 |zero=>
  have hj:¬X<5:=af;have hq:=ae hQ;simp only[partialIns,lE]at hq;obtain⟨ME,MC⟩:=hq;subst ME MC;go_wp2;go_ret;exact⟨rfl,hH,hG⟩
 |succ t=>
  have hj:X<5:=af;let⟨iI,eI⟩:=bu (scanSorted ltInt D b i);have EI':=ai eI;have qD:=ae HD
  go_wp21
  let⟨iY,eY⟩:=aF wr;subst eY
  go_loopw[7](λs7 wr=>∃i1:Nat,s7=.I i1/\a+1<=i1/\i1<=b/\O (HU wr blk off D)/\O (scanSorted ltInt D b i1=iI)/\O (jG w wr blk)) (pT b)
  exact⟨i,rfl,af,af,hH,eI,hG⟩;{
 obtain⟨i1,rfl,qa,qb,sy,Kj,ID⟩:=hrel;let⟨Bc,Fl⟩:=bu (dD (i1<b)&&!ltInt D[i1]! D[i1-1]!);have ru:=ai Fl;obtain⟨m,em⟩:∃m:Nat,(i1:Int)-1=(m:Int):=⟨i1-1,af⟩;have PM:=ai (show i1-1=m by omega);have wm:=iM m
 go_wp21
 go_cut[32](λrv wc=>rv=jO Bc/\wc=wr.drew)
 case first=>(
 by_cases lT:i1<b;{
 have bm3:=cM i1 b;obtain⟨c1,-⟩:=ae sy i1 af;obtain⟨c2,-⟩:=ae sy m af;let⟨x,ex⟩:=bu D[i1]!;let⟨y,V⟩:=bu D[m]!;rw[ex]at c1;rw[V]at c2;have k1:=cM i1 N;have k2:=cM m N;have k3:=gS 0 i1;have k4:=gS 0 m;let⟨L,WZ⟩:=bu (ltInt x y);have eB:Bc=(!L):=by rw[<-ae ru];simp only[LG lT,yG,ae PM,ex,V,WZ]
 subst eB;have K0:=bG c1 c2;refine fw (λw'=>I w' (Ad blk (off+i1))=dU x/\I w' (Ad blk (off+m))=dU y) K0 λhS=>?_;refine gr 0 1 2 3 4 5 6 7 hS ?_;refine iy 8 9 10 11 hS ?_;refine tn 12 hS ?_;refine fy 13 λKK hK=>?_;refine Lh aY aY aY aY (λ_=>MU) (LY) ?_;rintro r' w2⟨rfl,rfl⟩;refine fE ?_;rw[WZ];refine bS hK K0 λhS=>?_;refine fu 14 15 hS ?_;refine fQ ?_;exact uy};{have bm3:=ga i1 b;cases(by rw[<-ae ru,NQ lT];rfl:Bc=dF);refine fw (λw'=>True) iH λhS=>?_;refine iy 0 1 2 3 hS ?_;refine iT 4 5 6 7 hS ?_;refine iT 8 9 10 11 hS ?_;refine sn 12 hS ?_;refine sn 13 hS ?_;refine sn 14 hS ?_;refine tn 15 hS ?_;refine fQ ?_;exact uy})
 obtain⟨rfl,rfl⟩:=hcut;cases Bc with
 |true=>
  have hh:i1<b/\ltInt D[i1]! D[i1-1]! = dF:=by simpa only[gP,wR,Bool.not_eq_true']using ae ru
  go_wp2;go_roundw;exact⟨i1+1,by go_num,af,af,sy.drew,(ai (by rw[<-dp8 hh.1 hh.2];exact ae Kj)),gI ID⟩;exact dy
 |false=>
  have cK:i1=iI:=by rw[<-ae Kj,dp7];simpa only[Rg,LH,Bool.not_eq_false']using ae ru
  subst cK;by_cases Wu:i1=b;{have hq:=ae hQ;rw[dC5 (ae EI') Wu,lE]at hq;obtain⟨ME,MC⟩:=hq;subst ME MC;subst Wu;go_wp2;go_ret;exact⟨rfl,sy,gI ID⟩};{
 have fx5:¬(i1:Int)=(b:Int):=af;by_cases h5:Lz<50;{have h5':(Lz:Int)<50:=af;have hq:=ae hQ;rw[pi_short (ae EI') Wu (ae eL0▸h5),lE]at hq;obtain⟨ME,MC⟩:=hq;subst ME MC;go_wp2;go_ret;exact⟨rfl,sy,gI ID⟩};{
 have h5':¬(Lz:Int)<50:=af;let⟨d2,e2⟩:=bu (swp D i1 (i1-1));obtain⟨M,e3⟩:∃x,(if i1-a>=2 then shiftDown ltInt (i1-1) d2 else d2)=x:=⟨_,rfl⟩;obtain⟨d4,e4⟩:∃x,(if b-i1>=2 then shiftUp ltInt b (i1+1) M else M)=x:=⟨_,rfl⟩;have hq:=ae hQ;rw[pi_go (ae EI') Wu (ae eL0▸h5) e2 e3 e4]at hq;have HQ:=ai hq;rw[ae PM]at e2 e3;have HD2:O (d2.size=N):=ai (by rw[<-e2,size_swp];exact qD);have yw:O (M.size=N):=by show _=_;rw[<-e3];split;{rw[bX5];exact ae HD2};{exact HD2}
 have QA:O (d4.size=N):=by show _=_;rw[<-e4];split;{rw[dn6 b _ _ _ aU];exact ae yw};{exact yw}
 let⟨c1,f1⟩:=ae sy i1 af;let⟨c2,f2⟩:=ae sy m af;let⟨p1,vP⟩:=bu D[i1]!;let⟨p2,vO⟩:=bu D[m]!;rw[vP]at c1;rw[vO]at c2;have Cz:=ai (sy.swap (i:=i1) (j:=m) af af vO.C vP.C);rw[e2]at Cz;have DX:=ai (jr (jr ID (js _ blk (off+i1) (.U p2))) (js _ blk (off+m) (.U p1)));have l1:=cM i1 N;have l2:=cM m N;have l3:=gS 0 m;let⟨E3,E4⟩:=aQ e3 e4;obtain⟨A1,eA⟩:∃x:Nat,(i1:Int)-(a:Int)=(x:Int):=⟨i1-a,af⟩;have eA0:=ai (show i1-a=A1 by omega);have wA:=iM A1;obtain⟨B1,eB1⟩:∃x:Nat,(b:Int)-(i1:Int)=(x:Int):=⟨b-i1,af⟩;have Xa:=ai (show b-i1=B1 by omega);have wB:=iM B1
 go_wp21
 go_region
 go_upto_if 61 with fail
 go_cut[9](λs9 wc=>O (HU wc blk off M)/\O (jG w wc blk))
 case first=>(
 by_cases hC:A1>=2;{
 have hC':(A1:Int)>=2:=af;have Fb:=gS 2 A1
 try simp only[Fb,decide_true]
 have E3':O (shiftDown ltInt m d2=M):=by have:=ae E3;rw[ae eA0,aK hC]at this;exact this
 go_wp21
 let⟨Y2,TK⟩:=aF wr;subst TK
 go_loopw[9](λs9 wr=>∃(j:Nat)(u:Array Int),s9=.I j/\j<=m/\O (u.size=N)/\O (HU wr blk off u)/\O (shiftDown ltInt j u=M)/\O (jG w wr blk)) (λs9 _=>jN (intOf s9))
 exact⟨m,d2,by first|rfl|go_num,af,HD2,by exact Cz,E3',by exact gI (gI DX)⟩;{
 obtain⟨j,u,rfl,q1,Mn,W,Dy,hg⟩:=hrel;by_cases Z:0<j;{
 have ab7:=gS 1 j;obtain⟨jm,ejm⟩:∃x:Nat,(j:Int)-1=(x:Int):=⟨j-1,af⟩;have TG:j-1=jm:=af;have wjm:=iM jm;have S8:=ae Mn;let⟨cj,fj⟩:=ae W j af;let⟨cm,fm⟩:=ae W jm af;let⟨y,V⟩:=bu u[j]!;let⟨z,ez⟩:=bu u[jm]!;have Ih:=ai (W.swap (i:=j) (j:=jm) af af ez.C V.C);rw[V]at cj;rw[ez]at cm;have i1':=cM j N;have i2':=cM jm N;have i3':=gS 0 jm;have i4':=gS 0 j;let⟨B,eB⟩:=bu (ltInt y z);have I9:O (B=dF->u=M):=λhB=>by rw[<-ae Dy,bX4 (.R (by rw[TG,V,ez,eB,hB]))]
 have Jc:O (B->shiftDown ltInt jm (swp u j jm)=M):=λhB=>by rw[<-ae Dy,du4 Z (by rw[TG,V,ez,eB,hB]),TG]
 have HGs:=ai (jr (jr hg (js _ blk (off+j) (.U z))) (js _ blk (off+jm) (.U y)));have K0:=bG cj cm;have FF:=bG fj fm
 go_wp21
 go_cut[78](λrv wc=>rv=jO (!B)/\wc=wr.drew)
 case first=>(
 exact bN6)
 obtain⟨rfl,rfl⟩:=hcut;cases B with
 |false=>
  cases ae I9 rfl
  go_wp21
  go_meet;exact⟨W,gI hg⟩
 |true=>
  have e:=ai (ae Jc rfl);let⟨fj,fm⟩:=ae FF
  go_wp21
  go_region
  go_wp2;go_roundw
  case rel=>(
 exact⟨jm,swp u j jm,by first|rfl|go_num,af,(by rw[size_swp];exact S8),(ae Ih),e,gI (gI HGs)⟩)
  case measure=>simp[intOf];omega}
 {
 have ab7:¬(1:Int)<=(j:Int):=af;cases(by rw[<-ae Dy,bX4 (.L af)]:u=M)
 go_wp21
 go_meet;exact⟨W,hg⟩}}};{
 let⟨hC',Fb⟩:¬(A1:Int)>=2/\¬(2:Int)<=(A1:Int):=af
 try simp only[Fb,av4]
 have e:d2=M:=by have:=ae E3;rw[ae eA0,aJ hC]at this;exact this
 subst e
 go_wp21
 go_meet;exact⟨by exact Cz,by exact gI (gI DX)⟩})
 obtain⟨xo,Kh⟩:=hcut;let⟨Y3,eY3⟩:=aF wc;subst eY3
 go_upto_if 98 with fail
 by_cases hC:B1>=2;{
 have hC':(B1:Int)>=2:=af;have Fb:=gS 2 B1
 try simp only[Fb,decide_true]
 have E3':O (shiftUp ltInt b (i1+1) M=d4):=by have:=ae E4;rw[ae Xa,aK hC]at this;exact this
 go_wp21
 let⟨Y2,TK⟩:=aF wr;subst TK
 go_loopw[10](λBz wr=>∃(j:Nat)(u:Array Int),Bz=.I j/\i1+1<=j/\j<=b/\O (u.size=N)/\O (HU wr blk off u)/\O (shiftUp ltInt b j u=d4)/\O (jG w wr blk)) (λBz _=>b-(jN (intOf Bz)))
 exact⟨i1+1,M,by first|rfl|go_num,af,af,yw,by exact xo,E3',by exact Kh⟩;{
 obtain⟨j,u,rfl,q1,q2,Mn,W,Dy,hg⟩:=hrel;by_cases Z:j<b;{
 have ab7:=cM j b;obtain⟨jm,ejm⟩:∃x:Nat,(j:Int)-1=(x:Int):=⟨j-1,af⟩;have TG:j-1=jm:=af;have wjm:=iM jm;have S8:=ae Mn;let⟨cj,fj⟩:=ae W j af;let⟨cm,fm⟩:=ae W jm af;let⟨y,V⟩:=bu u[j]!;let⟨z,ez⟩:=bu u[jm]!;rw[V]at cj;rw[ez]at cm;have i1':=cM j N;have i2':=cM jm N;have i3':=gS 0 jm;have i4':=gS 0 j;let⟨B,eB⟩:=bu (ltInt y z);have I9:O (B=dF->u=d4):=λhB=>by rw[<-ae Dy,bS6 (.R (by rw[TG,V,ez,eB,hB]))]
 have Jc:O (B->shiftUp ltInt b (j+1) (swp u j jm)=d4):=λhB=>by rw[<-ae Dy,dn7 Z (by rw[TG,V,ez,eB,hB]),TG]
 have K0:=bG cj cm;have FF:=bG fj fm
 go_wp21
 go_cut[116](λrv wc=>rv=jO (!B)/\wc=wr.drew)
 case first=>(
 exact bN6)
 obtain⟨rfl,rfl⟩:=hcut;cases B with
 |false=>
  cases ae I9 rfl;go_wp2;go_roundw
  case rel=>(
 exact⟨i1,t,X+1,_,rfl,by first|rfl|go_num,af,af,af,af,QA,W,HQ,gI hg⟩)
  case measure=>simp[intOf];omega
 |true=>
  have e:=ai (ae Jc rfl)
  go_wp21
  go_region
  go_wp2;go_roundw
  case rel=>(
 exact⟨j+1,swp u j jm,by first|rfl|go_num,af,af,(by show _=_;rw[size_swp];exact S8),((W.swap (i:=j) (j:=jm) af af ez.C V.C)),e,gI (gI (jr (jr hg (js _ blk (off+j) (.U z))) (js _ blk (off+jm) (.U y))))⟩)
  case measure=>simp[intOf];omega}
 {
 have ab7:=ga j b;cases(by rw[<-ae Dy,bS6 (.L Z)]:u=d4);go_wp2;go_roundw
 case rel=>(
 exact⟨i1,t,X+1,_,rfl,by first|rfl|go_num,af,af,af,af,QA,W,HQ,hg⟩)
 case measure=>simp[intOf];omega}}}
 {
 let⟨hC',Fb⟩:¬(B1:Int)>=2/\¬(2:Int)<=(B1:Int):=af
 try simp only[Fb,av4]
 have e:M=d4:=by have:=ae E4;rw[ae Xa,aJ hC]at this;exact this
 subst e;go_wp2;go_roundw
 case rel=>(
 exact⟨i1,t,X+1,_,rfl,by first|rfl|go_num,af,af,af,af,QA,by exact xo,HQ,by exact Kh⟩)
 case measure=>simp[intOf];omega}}}}}
end iZ
namespace iZ
open Go.Sort
structure FL(w:G)(g:Nat)(S:Int):Prop where
 cell:I w (Ad g 0)=dI S
 T:jF w (Ad g 0)=dF
variable {w:G}{g:Nat}{S:Int}
theorem FL.drew(h:FL w g S):FL w.drew g S:=⟨h.cell,h.T⟩
theorem FL.set{S T:Int}(h:FL w g S):FL (jS w (Ad g 0) (.I T)) g T:=
 ⟨RH _ _ _ h.cell,by rw[Gl];exact h.T⟩
variable {v:dV}{d:Array Int}
theorem HU.aside{blk off g o:Nat}(h:HU w blk off d)(i:g≠blk):HU (jS w (Ad g o) v) blk off d:=
 h.kept (gh _ _ _ _ (λe=>i (by simpa using e.C)))
theorem aW6{blk off cap N g x y:Nat}(W:O (d.size=N))(h:HU w blk off d)(hx:x<N)(hy:y<N)(gj:N<=2^20)(hg:g≠blk)(hc:FL w g S)(hS:0<=S)(Cj:S<=1000):dQ dG 306 #[.S (Ad blk off) N cap,.I x,.I y,Pz g] w λe w'=>
   ∃(m j:Nat)(S':Int),e=dR (dT #[.I m,.I j])/\((m=x/\j=y)\/(m=y/\j=x))/\S<=S'/\S'<=S+1/\FL w' g S'/\HU w' blk off d/\jG w w' g:=by
 have qD:=ae W;obtain⟨s,-⟩:=h x af;obtain⟨r,-⟩:=h y af;let⟨u,X⟩:=bu d[x]!;let⟨v,ev⟩:=bu d[y]!;rw[X]at s;rw[ev]at r;have k1:=cM x N;have k2:=cM y N;let⟨B,Z⟩:=bu (ltInt v u);have D:=bG s r;let⟨M,V⟩:=aQ h hc;have mR:=hc.cell;have lG:=hc.T;go_in
 go_wp21
 go_cut[18](λrv wc=>rv=jO B/\wc=w.drew)
 case first=>(
 refine fw (λw'=>I w' (Ad blk (off+x))=dU u/\I w' (Ad blk (off+y))=dU v) D λhS=>?_;refine gr 0 1 2 3 4 5 6 7 hS ?_;refine ry [8] ?_;refine cn (λKK hK=>?_) ?_;{refine Lh aY aY aY aY (λ_=>MU) (LY) ?_;rintro r' w2⟨rfl,rfl⟩;refine fE ?_;rw[Z];refine bS hK D λhS=>?_;refine fQ ?_;exact uy};exact fN)
 obtain⟨rfl,rfl⟩:=hcut;cases B with
 |true=>
  go_wp2;go_ret2;exact⟨y,x,S+1,rfl,.R ⟨rfl,rfl⟩,af,af,V.drew.set,(M.drew).aside hg,jr (gI (Pu)) (js _ g 0 _)⟩
 |false=>
  go_wp2;go_ret2;exact⟨x,y,S,rfl,.L ⟨rfl,rfl⟩,af,af,V.drew,M.drew,gI (Pu)⟩
theorem aY1{blk off cap N g x y z:Nat}(q:O (d.size=N))(h:HU w blk off d)(Z:x<N)(X:y<N)(W:z<N)(r:N<=2^20)(o:g≠blk)(hc:FL w g S)(hS:0<=S)(Cj:S<=900):dQ dG 294 #[.S (Ad blk off) N cap,.I x,.I y,.I z,Pz g] w λe w'=>
   ∃(m:Nat)(S':Int),e=dR (.I m)/\(m=x\/m=y\/m=z)/\S<=S'/\S'<=S+3/\FL w' g S'/\HU w' blk off d/\jG w w' g:=by
 go_in
 go_wp21
 refine(aW6 q h Z X r o hc hS af).h ?_;rintro e w1⟨x1,y1,S1,rfl,j,s1,s2,gm,M,fo⟩
 go_wp21
 refine(aW6 q M af W r o gm af af).h ?_;rintro e w2⟨y2,z2,S2,rfl,i,s3,s4,V,E,fx⟩
 go_wp21
 refine(aW6 q E af af r o V af af).h ?_;rintro e w3⟨x3,u,S3,rfl,s,s5,s6,D,B,R⟩;go_wp2;go_ret;exact⟨u,S3,rfl,by have:=j;have:=i;have:=s;omega,af,af,D,B,jr fo (jr fx R)⟩
theorem aY2{blk off cap N g x:Nat}(E:O (d.size=N))(h:HU w blk off d)(hx:1<=x)(Ie:x+1<N)(R:N<=2^20)(y:g≠blk)(hc:FL w g S)(B:0<=S)(X:S<=900):dQ dG 293 #[.S (Ad blk off) N cap,.I x,Pz g] w λe w'=>
   ∃(m:Nat)(S':Int),e=dR (.I m)/\x<=m+1/\m<=x+1/\S<=S'/\S'<=S+3/\FL w' g S'/\HU w' blk off d/\jG w w' g:=by
 obtain⟨m,em⟩:∃m:Nat,(x:Int)-1=(m:Int):=⟨x-1,af⟩;obtain⟨n,en⟩:∃n:Nat,(x:Int)+1=(n:Int):=⟨x+1,af⟩;have wm:=iM m;have Z:=iM n;go_in
 go_wp21
 refine(aY1 E h af af af R y hc B X).h ?_;rintro e w1⟨r,W,rfl,u,s,o,M,j,V⟩;have i:=ai u;go_wp2;go_ret;exact⟨r,W,rfl,aM (ae i),aM (ae i),s,o,M,j,V⟩
end iZ
namespace iZ
open Go.Sort
variable {w:G}{o:Obj}{row:Option Nat}
theorem bt7:jG w (jA w o) row:=Zf w o row
variable {g:Nat}
theorem bt6(h:jG w w1 row)(k:jG w1 w2 g)(o:U (Q w)<=g):jG w w2 row:=
 ⟨k.os.Z h.os,k.tape.Z h.tape,k.output.Z h.output,gq h.size k.size,λi j m=>(k.block i (mH j h.size) (λe=>by
  have:i=g:=by simpa using e
  omega)).Z (h.block i j m)⟩
variable {d:Array Int}
theorem HU.alloc{blk off:Nat}(h:HU w blk off d)(i:blk<U (Q w))(o:Obj):HU (jA w o) blk off d:=
 h.kept (RowKit.Below.heap_alloc w o blk i)
theorem dC4{blk off cap N a b:Nat}(o:O (d.size=N))(h:HU w blk off d)(oY:blk<U (Q w))(DB:a+8<=b)(hb:b<=N)(q:N<=2^20):dQ dG 270 #[.S (Ad blk off) N cap,.I a,.I b] w λe w'=>
   ∃(p:Nat)(t:Int),e=dR (dT #[.I p,.I t])/\a<=p/\p<b/\HU w' blk off d/\jG w w' blk:=by
 obtain⟨L,eL⟩:∃x:Nat,(b:Int)-(a:Int)=(x:Int):=⟨b-a,af⟩;have wL:=iM L;let⟨i,eQ⟩:=bu (L / 4);have eQ1:Int.tdiv (L:Int) 4=(i:Int):=eQ▸(bb5 L 4).C;have wQ:=iM i;have X:jY jV ((i:Int)*2)=(i:Int)*2:=nW _ af;have W:jY jV ((i:Int)*3)=(i:Int)*3:=nW _ af;obtain⟨y,eI⟩:∃x:Nat,(a:Int)+(i:Int)=(x:Int):=⟨a+i,af⟩;obtain⟨u,eJ⟩:∃x:Nat,(a:Int)+(i:Int)*2=(x:Int):=⟨a+i*2,af⟩;obtain⟨K,eK⟩:∃x:Nat,(a:Int)+(i:Int)*3=(x:Int):=⟨a+i*3,af⟩;have wI:=iM y;have wJ:=iM u;have wK:=iM K;let⟨bI,bJ,bK⟩:(a+2<=y/\y+6<=b)/\(a+2<=u/\u+2<b)/\(a+2<=K/\K+1<b):=af;have h8:=gS 8 L;have j:U (Q w)≠blk:=af;have M:=ai (h.alloc oY (dO #[.I 0] 3));have R:O (FL (jA w (dO #[.I 0] 3)) (U (Q w)) 0):=⟨al,al⟩;go_in;by_cases Mv:(50:Int)<=(L:Int);{
 go_wp21
 refine(aY2 o M af af q j R af af).h ?_;rintro e w1⟨i1,S1,rfl,p1,p2,s1,s2,gm,sy,fo⟩
 go_wp21
 refine(aY2 o sy af af q j gm af af).h ?_;rintro e w2⟨j1,S2,rfl,p3,p4,s3,s4,im,uw,fx⟩
 go_wp21
 refine(aY2 o uw af af q j im af af).h ?_;rintro e w3⟨k1,S3,rfl,p5,p6,s5,s6,vu,V,sY⟩
 go_wp21
 refine(aY1 o V af af af q j vu af af).h ?_;rintro e Z⟨m,S4,rfl,hm,s7,s8,B,D,s⟩;have E:a<=m/\m<b:=af;have r:=ai E;have mR:=B.cell;go_wp2
 all_goals
  go_ret2;exact⟨m,_,rfl,r.1,r.2,D,(bt6 (bt7 (w:=w) (row:=Y blk)) (jr fo (jr fx (jr sY s))) aU)⟩};{
 go_wp21
 refine(aY1 o M af af af q j R af af).h ?_;rintro e Z⟨m,S4,rfl,hm,s7,s8,B,D,s⟩;have E:a<=m/\m<b:=af;have r:=ai E;have mR:=B.cell;go_wp2
 all_goals
  go_ret2;exact⟨m,_,rfl,r.1,r.2,D,(bt6 (bt7 (w:=w) (row:=Y blk)) s aU)⟩}
end iZ
namespace iZ
open Go.Sort
theorem dB9:∀x:Nat,0<x->x<2 ^ 64->2 ^ (Lib.bitLen x)<=2*x:=by
 intro x
 induction x using Nat.strongRecOn with
 |_ x ih=>
  intro j h;rw[Lib.bitLen_half x af h,bd0,Zn];by_cases i:x=1;{subst i;decide};{have:=ih (x / 2) af af af;omega}
theorem dl3(h:i<Lib.len8tab.size):(Lib.len8tab[i]).toNat=Lib.bitLen i/\Lib.bitLen i<=8:=by
 have o:=h;rw[Lib.len8tab_size]at o;have m:=Lib.len8_of (i:Int) af af;have j:=Lib.bitLen_le8' (i:Int) af af;simp only[Lib.len8,rY,ByteArray.getElem?_lt' _ _ h,tv]at m j;omega
variable {i:Int}{m:Nat}
theorem aP6(e:i.toNat=m)(h:i.toNat<Lib.len8tab.size):((Lib.len8tab[i.toNat]).toNat:Int)=(Lib.bitLen m:Int)/\Lib.bitLen m<=8:=by
 subst e;have:=dl3 h;omega
variable {w:G}
theorem dO8{n:Nat}(o:Mg n):dQ dG 277 #[.U n] w λe w'=>e=dR (.I (Lib.bitLen n))/\w'=w:=by
 obtain⟨x,ex⟩:∃x:Int,(n:Int)=x:=⟨_,rfl⟩;let⟨y,u⟩:0<=x/\x<=2^20:=af;rw[ex];have q:=bG ex o;clear ex o;go_in;go_wp2
 all_goals(try(exfalso;simp only[Lib.len8tab_size]at*;omega))
 all_goals(go_ret;refine⟨vj Ending.returned (vj (Value.int jV) ?_),rfl⟩)
 {let⟨ex,o⟩:=ae q;let⟨j,r⟩:=aP6 (i:=x / 65536) (m:=n / 65536) af af;have s:=Lib.bitLen_shift16 n af af;rw[j,Rv (Lib.bitLen _:Int) af,Rv _ af];omega};{let⟨ex,o⟩:=ae q;let⟨j,r⟩:=aP6 (i:=x / 256) (m:=n / 256) af af;have s:=Lib.bitLen_shift8 n af af;rw[j,Rv (Lib.bitLen _:Int) af,Rv _ af];omega};{let⟨ex,o⟩:=ae q;let⟨j,r⟩:=aP6 (i:=x) (m:=n) af af;rw[j,Rv (Lib.bitLen _:Int) af,Rv _ af]}
theorem be5{n:Nat}(i:Mg n)(w:G):dQ dG 261 #[.U n] w λe w'=>e=dR (.I (Lib.bitLen n))/\w'=w:=by
 go_in
 go_wp21
 refine(dO8 i).h ?_;rintro e w'⟨rfl,rfl⟩;exact aV
theorem dH9{n:Nat}(x:0<n)(r:Mg n):dQ dG 291 #[.I n] w λe w'=>∃M:Nat,e=dR (.U M)/\0<M/\M<=2*n/\w'=w:=by
 have hK:Lib.bitLen n<=21:=Lib.bitLen_le n 21 af af;have i:=dB9 n x af;have o:=be5 r;generalize Lib.bitLen n=K at hK i o;let⟨M,j⟩:=bu (2 ^ K);rw[j]at i;have m:((2:Int) ^ K)=(M:Int):=by rw[<-j];push_cast;rfl
 have q:jY jU ((2:Int) ^ K)=(M:Int):=by rw[m,wV];omega
 let⟨u,s⟩:=aQ i (j▸Nat.two_pow_pos K);clear i j m;go_in
 go_wp21
 refine(o _).h ?_;rintro e w'⟨rfl,rfl⟩;go_wp2;go_ret;exact⟨M,by first|rfl|simp only[q],s,u,rfl⟩
theorem dJ5{g X:Nat}(o:X<2^64)(hc:I w (Ad g 0)=dU X)(hf:jF w (Ad g 0)=dF):dQ dG 292 #[Pz g] w λe w'=>∃C:Nat,e=dR (.U C)/\C<2^64/\I w' (Ad g 0)=dU C/\jF w' (Ad g 0)=dF/\jG w w' g:=by
 obtain⟨A,m,D⟩:∃A:Nat,A<2^64/\bits .xor jU (X:Int) (jY jU ((X:Int)*8192))=(A:Int):=by refine⟨X ^^^ (X*8192 % 18446744073709551616),Zj (n:=64) af af,?_⟩;rw[wV,show((X:Int)*8192 % 18446744073709551616)=((X*8192 % 18446744073709551616:Nat):Int) by omega,aZ4 _ _ o af]
 obtain⟨B,j,y⟩:∃B:Nat,B<2^64/\bits .xor jU (A:Int) ((A:Int) / 128)=(B:Int):=by refine⟨A ^^^ (A / 128),Zj (n:=64) af af,?_⟩;rw[show((A:Int) / 128)=((A / 128:Nat):Int) by omega,aZ4 _ _ m af]
 obtain⟨C,i,x⟩:∃C:Nat,C<2^64/\bits .xor jU (B:Int) (jY jU ((B:Int)*131072))=(C:Int):=by refine⟨B ^^^ (B*131072 % 18446744073709551616),Zj (n:=64) af af,?_⟩;rw[wV,show((B:Int)*131072 % 18446744073709551616)=((B*131072 % 18446744073709551616:Nat):Int) by omega,aZ4 _ _ j af]
 have q:=RH _ (Ad g 0) (.U C) (RH _ (Ad g 0) (.U B) (RH w (Ad g 0) (.U A) hc));have s:O (jF (jS (jS (jS w (Ad g 0) (.U A)) (Ad g 0) (.U B)) (Ad g 0) (.U C)) (Ad g 0)=dF):=by show _=_;simp only[Gl];exact hf
 let⟨r,u⟩:=aQ i q;clear o m j i;go_in
 go_wp21
 go_region
 go_wp21
 go_region
 go_wp21
 go_region
 go_wp2;go_ret;exact⟨C,rfl,r,by exact u,by exact s,by exact gI (gI (gI (jr (jr (js w g 0 (.U A)) (js _ g 0 (.U B))) (js _ g 0 (.U C)))))⟩
end iZ
namespace iZ
open Go.Sort
variable {w:G}{d:Array Int}
theorem eU4{blk off cap N a b:Nat}(hN:O (d.size=N))(h:HU w blk off d)(oY:blk<U (Q w))(DB:a+8<=b)(hb:b<=N)(gj:N<=2^20):dQ dG 269 #[.S (Ad blk off) N cap,.I a,.I b] w λe w'=>
   e=dR (dT #[])/\∃d',HU w' blk off d'/\PermIn a b d d'/\jG w w' blk:=by
 obtain⟨L,eL⟩:∃x:Nat,(b:Int)-(a:Int)=(x:Int):=⟨b-a,af⟩;have wL:=iM L;let⟨W,eQ⟩:=bu (L / 4);have eQ1:Int.tdiv (L:Int) 4=(W:Int):=eQ▸(bb5 L 4).C;have wQ:=iM W;have wQ2:jY jV ((W:Int)*2)=(W:Int)*2:=nW _ af;obtain⟨s,eJ⟩:∃x:Nat,(a:Int)+(W:Int)*2=(x:Int):=⟨a+W*2,af⟩;have wJ:=iM s;have bJ:a+2<=s/\s+2<b:=af;have wJ1:jY jV ((s:Int)+1)=(s:Int)+1:=nW _ af;obtain⟨J0,eJ0⟩:∃x:Nat,(s:Int)-1=(x:Int):=⟨s-1,af⟩;have wJ0:=iM J0;have h8:=gS 8 L;have wU:jY jU (L:Int)=(L:Int):=by rw[wV];omega
 have hg:U (Q w)≠blk:=af;go_in
 go_wp21
 refine(dH9 af af).h ?_;rintro e w1⟨M,rfl,hM0,hM,rfl⟩;have wM:jY jU ((M:Int)-1)=(M:Int)-1:=by rw[wV];omega
 go_wp21
 go_loopw[9](λs9 wr=>∃(m R:Nat)(o:Array Int),s9=.I m/\J0<=m/\m<=s+2/\R<2^64/\O (I wr (Aw w 0)=dU R/\jF wr (Aw w 0)=dF)/\O (HU wr blk off o)/\O (PermIn a b d o)/\O (o.size=N)/\O (jG w wr blk)) (λs9 _=>s+2-(jN (intOf s9)))
 exact⟨J0,L,d,rfl,af,af,af,⟨al,al⟩,by exact h.alloc oY (dO #[.U L] 365),permIn_refl d a b,hN,by exact bt7⟩;{
 obtain⟨m,R,o,rfl,z1,z2,lR,hC,hH,hP,Wx,hG⟩:=hrel;by_cases hgo:m<=s+1;{
 have ab7:(m:Int)<=(s:Int)+1:=af
 go_wp21
 refine(dJ5 lR hC.1 hC.2).h ?_;rintro e V⟨C,rfl,lC,im,Dx,fx⟩;have C2:=bG im Dx;let⟨X,G2⟩:=aQ (hH.kept (fx.block blk (mH oY hG.size) (λe=>hg (by simpa using e.C)))) (bt6 hG fx aU);obtain⟨r,lO,fG6⟩:∃r:Nat,r<=M-1/\bits .and jU (C:Int) ((M:Int)-1)=(r:Int):=by refine⟨C&&& (M-1),Nat.and_le_right,?_⟩;rw[show((M:Int)-1)=((M-1:Nat):Int) by omega,bits_and_u64_nat _ _ lC af]
 have wO:=iM r;by_cases hLO:L<=r;{
 have ep9:=qx L r;obtain⟨P,eP⟩:∃x:Nat,(r:Int)-(L:Int)=(x:Int):=⟨r-L,af⟩;have wP:=iM P;have bP:P<L:=af;obtain⟨T,eT⟩:∃x:Nat,(a:Int)+(P:Int)=(x:Int):=⟨a+P,af⟩;have wT:=iM T;have bT:a<=T/\T<b:=af;have qD:=ae Wx;let⟨c1,f1⟩:=ae X m af;let⟨c2,f2⟩:=ae X T af;let⟨B,Z⟩:=bu o[m]!;let⟨y,vO⟩:=bu o[T]!;rw[Z]at c1;rw[vO]at c2;let⟨tt,ct⟩:=Lj (q:=(Ad blk (off+m))) (u:=.U y) c2;let⟨Cz,DX⟩:=aQ (X.swap (i:=m) (j:=T) af af vO.C Z.C) (jr (jr G2 (js _ blk (off+m) (.U y))) (js _ blk (off+T) (.U B)));have D:O (PermIn a b d (swp o m T)):=permIn_trans _ _ _ a b hP (swp_permIn o a b m T af af af af af);have HDn:O ((swp o m T).size=N):=ai (by rw[size_swp];exact qD);have E:O (I ((jS (jS V (Ad blk (off+m)) (.U y)) (Ad blk (off+T)) (.U B)).drew) (Aw w 0)=dU C/\jF ((jS (jS V (Ad blk (off+m)) (.U y)) (Ad blk (off+T)) (.U B)).drew) (Aw w 0)=dF):=
  ⟨(Rw _ _ _ _ (by simp<;>omega)).Z ((Rw _ _ _ _ (by simp<;>omega)).Z C2.1),by show World.frozen? (jS (jS V (Ad blk (off+m)) (.U y)) (Ad blk (off+T)) (.U B)) _=dF;rw[Gl,Gl];exact C2.2⟩
 have l1:=cM m N;have l2:=cM T N;have l3:=gS 0 T
 go_wp21
 go_region
 go_wp2;go_roundw;exact⟨m+1,C,swp o m T,by first|rfl|go_num,af,af,lC,E,by exact Cz,D,HDn,by exact gI DX⟩;exact dy};{
 have ep9:¬(L:Int)<=(r:Int):=af;obtain⟨P,eP⟩:∃x:Nat,r=x:=⟨r,rfl⟩;subst eP;have bP:r<L:=af;obtain⟨T,eT⟩:∃x:Nat,(a:Int)+(r:Int)=(x:Int):=⟨a+r,af⟩;have wT:=iM T;have bT:a<=T/\T<b:=af;have qD:=ae Wx;let⟨c1,f1⟩:=ae X m af;let⟨c2,f2⟩:=ae X T af;let⟨B,Z⟩:=bu o[m]!;let⟨y,vO⟩:=bu o[T]!;rw[Z]at c1;rw[vO]at c2;let⟨tt,ct⟩:=Lj (q:=(Ad blk (off+m))) (u:=.U y) c2;let⟨Cz,DX⟩:=aQ (X.swap (i:=m) (j:=T) af af vO.C Z.C) (jr (jr G2 (js _ blk (off+m) (.U y))) (js _ blk (off+T) (.U B)));have D:O (PermIn a b d (swp o m T)):=permIn_trans _ _ _ a b hP (swp_permIn o a b m T af af af af af);have E:O (I ((jS (jS V (Ad blk (off+m)) (.U y)) (Ad blk (off+T)) (.U B)).drew) (Aw w 0)=dU C/\jF ((jS (jS V (Ad blk (off+m)) (.U y)) (Ad blk (off+T)) (.U B)).drew) (Aw w 0)=dF):=
  ⟨(Rw _ _ _ _ (by simp<;>omega)).Z ((Rw _ _ _ _ (by simp<;>omega)).Z C2.1),by show World.frozen? (jS (jS V (Ad blk (off+m)) (.U y)) (Ad blk (off+T)) (.U B)) _=dF;rw[Gl,Gl];exact C2.2⟩
 have l1:=cM m N;have l2:=cM T N;have l3:=gS 0 T
 go_wp21
 go_region
 go_wp2;go_roundw;exact⟨m+1,C,swp o m T,by first|rfl|go_num,af,af,lC,E,by exact Cz,D,(by show _=_;rw[size_swp];exact qD),by exact gI DX⟩;exact dy}};{have ab7:¬(m:Int)<=(s:Int)+1:=af;go_wp2;go_end0;exact⟨rfl,o,hH,hP,hG⟩}}
end iZ
namespace iZ
open Go.Maps
theorem oO:Keyed dG 27:=int_keyed underlying27
abbrev pO(x:Int):dV:=.U x
def zy{H:Type}(i:DataW H)(left:Lit->Bool)(ss:LI):Prop:=ss.Nodup/\∀x,x∈ss↔(has i (.U x)/\left (.U x)=dF)
theorem zy.start{H:Type}(i:DataW H):zy i (has i) []:=⟨av2,λx=>by cases has i (.U x)<;>simp⟩
variable {x:Int}{left:Lit->Bool}{ss:LI}
theorem zy.step{H:Type}{i:DataW H}(h:zy i left ss){y:DataW H}(hlk:left (.U x))(m:∀j,i.atKey (.U x) j=y):zy i (λz=>left z&&!z.sameKey (.U x)) (ss++[x]):=by
 have cu4:has i (.U x):=has_true_of_atKey m;exact bN2
def Hf{H:Type}(i:DataW H)(ss:LI):Prop:=ss.Nodup/\(∀x,x∈ss↔has i (.U x))/\J ss<=Maps.size i
theorem zy.all{H:Type}{i:DataW H}(h:zy i left ss)(o:∀j,left j=dF)(m:J ss<=Maps.size i):Hf i ss:=⟨h.1,(λx=>by rw[h.2 x,o];simp),m⟩
abbrev kT:TypeId:=27
def bg2{key:dV}{kl:Lit}(h:keyOf dG 27 key=kl):=Maps.keyOf_int_inv underlying27 h
variable {p:Prop}
theorem scA(h:p:=by
  first|refine yI func246 rfl iH ?_ rfl|refine yI func264 rfl iH ?_ rfl|refine yI func249 rfl iH ?_ rfl
  simp only[ntmps246,ntmps264,ntmps249,GX,Nat.reduceAdd,Nat.reduceSub]
  gi_wp2_with(first
   |(gi_at_range;refine wpListIn_range_own _ rfl _ _ rfl _ _ oO (by first|exact underlying185|exact underlying165|exact underlying186) _ b nn _ rfl dw ?_;intro w0 Ap sZ Cb)
   |gi_in)
  go_frame
  gi_loopw [3] (λ_ wr=>∃(left:Lit->Bool)(gy:Nat)(ss:List _),wr.ranges dG kT R b (U W.heap) nn D0 left gy/\J ss+gy<=Maps.size D0/\zy D0 left ss/\iJ ss wr) (λ_ wr=>wr.rangeLeft b (U W.heap))
  {exact⟨_,_,[],Ap,al,zy.start D0,hJ [] W w0 dN h0 sZ (λr e=>by cases e)⟩};{
 obtain⟨left,gy,ss,kq,OY,hC,hJs⟩:=hrel
 gi_wp2_with(first
  |(gi_at_next;refine wpListIn_next_ranges _ rfl _ rfl _ oO R pO id (λkey kl hk=>by obtain⟨x,hx,_⟩:=bg2 hk;exact⟨x,hx⟩) (λv _ _=>⟨v,rfl⟩) b (U W.heap) nn _ _ _ rfl kq ?_ ?_)
  |gi_in)
 {intro mu sX;gi_wp2;go_end0;exact⟨⟨_,rfl⟩,.L ⟨ss,hC.all sX af,hJs⟩⟩};{
 intro x c kl yd yp w2 eN7 gO hlk hv fL Sk aH fx Al xU;obtain⟨x',ex,rfl,_⟩:=bg2 gO;obtain rfl:x=x':=by simpa[pO]using ex
 have To:iJ ss w2:=hJ ss wr w2 (U W.heap) hJs fx (λr e=>by cases e;exact⟨fS _,kq.iter_walk⟩);let⟨fn,tmps,assign,body,hy,hR⟩:=hY ss x w2 To af;clear Al;gi_wp2;refine hR.h ?_;rintro e W3(⟨rfl,GF,nw⟩|⟨rfl,Tn⟩);{gi_wp2;have Ox:=Sk.of_walks nw;go_roundw;{exact⟨_,eN7,ss++[x],Ox,bL,hC.step hlk fL,GF⟩};{rw[Ox.left_eq,kq.left_eq];exact aH}};{gi_wp2;refine cX (BM rfl _ _ _) rfl ?_;exact⟨⟨_,rfl⟩,.R ⟨_,Tn⟩⟩}}}):p:=h
theorem scB(h:p:=by
  first|refine yI func211 rfl iH ?_ rfl|refine yI func250 rfl iH ?_ rfl|refine yI func213 rfl iH ?_ rfl
  simp only[ntmps211,ntmps250,ntmps213,GX,Nat.reduceAdd,Nat.reduceSub];gi_wp2;go_ret;exact⟨rfl,rfl⟩):p:=h
theorem scC(h:p:=by
  intro l iJ Jx W hW hJ _ hY h0;have Wh:W.ownsMap dG kT R b nn D0:=by have yS:=dw.lt;obtain⟨es,clock,hb,Ft,hs,hD⟩:=dw;exact⟨es,clock,(hW.block b yS).Z hb,Ft,hs,hD⟩
  have Sx:=(hW.cell (p:=(Ad Bm 0)) Tr).Z hm
  first
   |refine(cm5 n hn l Bm b nn D0 iJ Jx hY W hJ Sx Wh h0).h ?_
   |refine(dS0 hn iJ Jx hY hJ Sx Wh h0).h ?_
  rintro e W'⟨he,⟨ss,hs,hj⟩|⟨pre,hj⟩⟩;{exact⟨he,.L ⟨ss,hs,hj⟩⟩};{exact⟨he,.R ⟨pre,iH,hj⟩⟩}):p:=h
theorem cm5{H:Type}(n:Nat)(q:1<=n)(l o b nn:Nat)(D0:DataW H){R:dV->Option (DataW H×List MemPlace)}(iJ m:LI->G->Prop)(hY:∀i x W,iJ i W->J i<Maps.size D0->YieldAt Fence.wide (n-1) dG l #[pO x] W λe j=>(e=dR (jO dY)/\iJ (i++[x]) j/\KeepsWalks W j)\/(e=dR (jO dF)/\m (i++[x]) j))(W:G)(hJ:AbidesFrom (U (Q W)) iJ)(hm:I W (Ad o 0)=Y (.map b))(dw:jM W dG 27 R b nn D0)(h0:iJ [] W):CallsIn Fence.wide n dG 246 #[.func (.yield l) #[] #[],Pz o] W λe j=>(∃v,e=dR v)/\((∃ss:LI,Hf D0 ss/\iJ ss j)\/(∃i,m i j)):=scA
theorem cm4(n:Nat)(i:Option Nat)(w:G):CallsIn Fence.wide n dG 211 #[.map i] w λe w'=>e=dR (.func (.func 246) #[] #[Pz (U (Q w))])/\w'=jA w (dO #[.map i] 185):=scB
theorem bS8{H:Type}(n:Nat)(hn:1<=n)(Bm b nn:Nat)(D0:DataW H){R:dV->Option (DataW H×List MemPlace)}(w:G)(Tr:Bm<U (Q w))(hm:I w (Ad Bm 0)=Y (.map b))(dw:jM w dG 27 R b nn D0):SeqStopsK Fence.wide n dG 246 #[Pz Bm] (λx:Int=>#[pO x]) KeepsWalks (Hf D0) (λ_=>True) (Maps.size D0) w:=scC
variable {b Bm nn:Nat}
theorem dS0{H:Type}{n:Nat}(o:1<=n){l:Nat}{D0:DataW H}{R:dV->Option (DataW H×List MemPlace)}(iJ m:LI->G->Prop)(hY:∀i x W,iJ i W->J i<Maps.size D0->YieldAt Fence.wide (n-1) dG l #[pO x] W λe j=>(e=dR (jO dY)/\iJ (i++[x]) j/\KeepsWalks W j)\/(e=dR (jO dF)/\m (i++[x]) j)){W:G}(hJ:AbidesFrom (U (Q W)) iJ)(hm:I W (Ad Bm 0)=Y (.map b))(dw:jM W dG 27 R b nn D0)(h0:iJ [] W):CallsIn Fence.wide n dG 264 #[.func (.yield l) #[] #[],Pz Bm] W λe j=>(∃v,e=dR v)/\((∃ss:LI,Hf D0 ss/\iJ ss j)\/(∃i,m i j)):=scA
variable {w:G}{mb:Option Nat}
theorem dR8{n:Nat}:CallsIn Fence.wide n dG 250 #[.map mb] w λe w'=>e=dR (.func (.func 264) #[] #[Pz (U (Q w))])/\w'=jA w (dO #[.map mb] 165):=scB
theorem dn9{H:Type}{n:Nat}(hn:1<=n){D0:DataW H}{R:dV->Option (DataW H×List MemPlace)}(Tr:Bm<U (Q w))(hm:I w (Ad Bm 0)=Y (.map b))(dw:jM w dG 27 R b nn D0):SeqStopsK Fence.wide n dG 264 #[Pz Bm] (λx:Int=>#[pO x]) KeepsWalks (Hf D0) (λ_=>True) (Maps.size D0) w:=scC
end iZ
namespace iZ
open Go.Maps
variable {p:Prop}
theorem Hid.bg9(h:p):O p:=h
theorem Yf(h:O p):p:=h
theorem cC8(W:G)(l:Nat)(o:Obj):jG W (W.putObj l o) l:=⟨rfl,rfl,rfl,by simp,λk _ i=>World.putObj_heap_other (λe=>i (by rw[e]))⟩
theorem et4(W:G)(b:Nat)(v:dV):jG W (jS W (Ad b 0) v) b:=⟨rfl,rfl,rfl,by simp,λk _ i=>Rl _ _ _ k (λe=>i (by rw[e]))⟩
variable {k j base:Nat}{o:Obj}{xs:List dV}{v:dV}{e:TypeId}
theorem bZ4{W:G}{size:Nat}(h:W.ownsRow base e size v k xs)(m:W.heap[j]?=o)(q:o.isCells=dF):jB v=dN\/jB v≠Y j:=by
  obtain⟨rfl,_⟩|⟨g,u,s,rfl,_,i,_⟩:=h.2;{exact .L rfl};{
 refine .R λr=>?_;have:g=j:=by simpa[jB]using r
 subst this;rw[i]at m;cases m;cases q}
variable {row:Option Nat}
theorem bZ3{W m:G}{size:Nat}(h:W.ownsRow base e size v k xs)(s:jG W m row)(hr:∀r,row=Y r->∃o:Obj,W.heap[r]?=o/\o.isCells=dF):m.ownsRow base e size v k xs:=by
  refine h.kept s ?_;cases hv:jB v with
  |none=>exact .L rfl
  | some j=>
    refine .R λu=>?_;let⟨o,q,hc⟩:=hr j u.C;obtain i|i:=bZ4 h q hc;{rw[hv]at i;cases i};{exact i hv}
theorem dF4{W s:G}{size:Nat}(h:W.ownsRow base e size v k xs)(r:jG W s (jB v)):KeepsOthers W s:=
  ⟨r.size,λj o i u=>(r.block j (LF.1 i).1 (λq=>by obtain m|m:=bZ4 h i u;{rw[m]at q;cases q};{exact m q.C})).Z i⟩
structure Got{α:Type}(ty:TypeId)(enc:α->dV)(Bs:Nat)(pre:List α)(v:dV)(W:G):Prop where
  cell:I W (Ad Bs 0)=v
  T:jF W (Ad Bs 0)=dF
  row:W.ownsRow (Bs+1) ty 1 v (J pre) (pre.map enc)
  nil:v=ay↔pre=[]
abbrev kS:TypeId:=134
def co2:=mJ (P:=dG) (e:=27) (z:=.U 0) (size:=1) (bytes:=8) (by kernel_rfl)
theorem scD(h:p:=by
    have h1:1<=n:=af;obtain⟨i0,hi,jk,fI,gv⟩:=co2
    first|refine callsIn_of_wp_marks func259 rfl iH ?_ rfl|refine callsIn_of_wp_marks func262 rfl iH ?_ rfl
    simp only[ntmps259,ntmps262,GX,Nat.reduceAdd,Nat.reduceSub];gi_wp2;let⟨W0,cT⟩:=aF (w.alloc (dO #[ay] kS));have z0:U W0.heap=U w.heap+1:=by rw[cT];simp
    have k0:I W0 (Aw w 0)=ay:=by rw[cT];simp
    have f0:W0.frozen? (Aw w 0)=dF:=by rw[cT];simp
    have Pm:=ir cT;rw[<-cT];clear cT;refine wpIn_rangeFunc_ownF (F:=Fence.wide) rfl h1 (gf:=g) (lb:=lb) rfl iH eg Ov (λh k=>h.Z k) (λW l o o' _ hl _ hw=>KeepsWalks.putObj _ hl hw) Pm (λ_=>rfl)
      (λpre W=>(∃v,Got kT pO (U w.heap) pre v W)/\Bw w W)
      (λ_ _ _=>False)
      (OwnFrom.and (Own.from (λs A B row hs hg hr=>by obtain⟨v,hv⟩:=hs;exact⟨v,cell_kept hv.cell hg hr,(frozen_kept hv.cell hg hr).Z hv.T,bZ3 hv.row hg hr,hv.nil⟩) _) (ownFrom_below aU af))
      (λ_ _ _ _ _ hs _ _=>hs)
      ⟨⟨_,k0,f0,⟨rfl,.L ⟨rfl,rfl⟩⟩,al⟩,Pm⟩
      (λx=>{tmps:=#[ay,.func (.func g) #[] lb,Pz (U w.heap),undef,ay,pO x,.func (.func g) #[] lb,pO x,undef,undef,undef,undef,undef],defers:=[]}) ?assign ?body ?done ?stop
    case assign=>(
 intro l x W K hK
 gi_wp2_with(rw[ba1 _ _ _ (λc h=>by cases h)];go_simp;try go_bits)
 exact hK)
    case body=>(
 rintro L pre x W⟨⟨v,hv⟩,ku⟩lr;have hc:=hv.cell;have hf:=hv.T;have gF:=hv.row;have aH:U w.heap<U W.heap:=my W _ hc;have cq6:=gF.alloc (dO #[pO x] kT)
 gi_wp2_with(first
   | (gi_at_builtin;refine wpListIn_append_own _ rfl _ _ _ rfl (U w.heap+1) _ i0 _ 1 _ (by first|exact underlying134|exact underlying196) hi jk fI gv rfl bf _ _ _ rfl cq6 ⟨U W.heap,0,dN⟩ 1 1 [pO x] rfl rfl (cell_one_new _ _ _) (by simp[Value.oneCell',pO]) kW af bL ?_;intro v' w3 Wh sY dZ9
      have az5:(W.alloc (dO #[pO x] kT)).grownBy w3 v.ownBlock:=sY;have ea1:Y (U w.heap)≠v.ownBlock:=λe=>aM (gF.lt _ e.C).1;have Ka:I (W.alloc (dO #[pO x] kT)) (Aw w 0)=Y v:=(JH (a:=(Aw w 0)) (Za _ _ _ aH)).Z hc;have Ww:(W.alloc (dO #[pO x] kT)).frozen? (Aw w 0)=dF:=(Dg (a:=(Aw w 0)) (Za _ _ _ aH)).Z hf;have aL:w3.heap[U w.heap]?=(W.alloc (dO #[pO x] kT)).heap[U w.heap]?:=az5.block _ bL ea1;have vu:I w3 (Aw w 0)=Y v:=(JH (a:=(Aw w 0)) aL).Z Ka;have sj:w3.frozen? (Aw w 0)=dF:=(Dg (a:=(Aw w 0)) aL).Z Ww;obtain⟨g',MT,rfl⟩:∃g' MT,v'=.T g' (J pre+1) MT:=by obtain⟨_,h0⟩|⟨g',MT,_,h',_⟩:=Wh.2;{exact absurd h0 af};{exact⟨g',MT,h'⟩}
      have HO3:=Hid.bg9 ((KeepsOthers.alloc W (dO #[pO x] kT)).Z (dF4 cq6 az5));have sJ:=Hid.bg9 (((ku.alloc ku.size (dO #[pO x] kT)).grown az5 (by have:=ku.size;simp;omega) (λk e=>aM (gF.lt k e).1)));have xy:=Hid.bg9 Wh;clear Wh dZ9 sY az5 Ka Ww aL
      go_frame)
   |(rw[ba1 _ _ _ (λc h=>by cases h)];go_simp;try go_bits))
 refine⟨(Yf HO3).Z (KeepsOthers.setCell _ _ _),((Yf HO3).Z (KeepsOthers.setCell _ _ _)).walks,⟨_,RH _ _ _ vu,by rw[Gl];exact sj,?_,al⟩,(Yf sJ).setCell (p:=(Aw w 0)) aU _⟩;have hr:=(Yf xy).kept (et4 w3 (U w.heap) (.T g' (J pre+1) MT)) (.R (λe=>aM ((Yf xy).lt _ e).1));simpa using hr)
    case done=>(
 rintro D ys W hD hS⟨⟨v,hv⟩,ku⟩hK;have hc:=hv.cell;gi_wp2;refine⟨al,.L ⟨_,_,rfl,run_takeDeferred hK,?_⟩⟩;exact⟨_,results_tmp rfl _ _ _,v,ys,rfl,hS,bZ3 hv.row (cC8 _ _ _) (λr e=>by cases e;exact⟨_,hK,rfl⟩),hv.nil,ku.grown (cC8 _ _ _) ku.size (λk e=>by cases e;omega)⟩)
    case stop=>(
 rintro D c pre W _ _ h _;exact h.elim)):p:=h
theorem cQ4(n:Nat)(i:2<=n)(g:Nat)(lb:iA)(eg:∀args w,(callFunc g args).run dG w=.ok (.enter g args) w)(S Sp:LI->Prop)(N:Nat)(j:N<=2^20)(w:G)(Ov:SeqStopsK Fence.wide (n-1) dG g lb (λx:Int=>#[pO x]) KeepsWalks S Sp N w):CallsIn Fence.wide n dG 259 #[ay,.func (.func g) #[] lb] w λe w'=>∃(v:dV)(ss:LI),e=dR v/\S ss/\w'.ownsRow (U w.heap+1) 27 1 v (J ss) (ss.map pO)/\(v=ay↔ss=[])/\Bw w w':=scD
end iZ
namespace T
open Go.Sort
abbrev HT(w:G)(blk off:Nat)(d:Array (List UInt8)):Prop:=Holds (λx:List UInt8=>Value.string ⟨x.toArray⟩) w blk off d
theorem bU9(cap:Nat)(w:G):Cp 248 #[.S dN 0 cap] w λe w'=>e=dR (dT #[])/\w'=w:=Tryz.slices_Sort_string_none dN cap w
theorem bV0(blk off cap:Nat)(l:List (List UInt8))(E:Mg (J l))(w:G)(h:HT w blk off l.toArray)(m:blk<U (Q w)):Cp 248 #[.S (Ad blk off) (J l) cap] w λe w'=>
   e=dR (dT #[])/\HT w' blk off (l.mergeSort (λx y=>dD (x<=y))).toArray/\jG w w' blk:=by
 refine(Tryz.slices_Sort_string blk off cap l w h m af).h ?_;rintro e w'⟨rfl,n,B,rfl⟩;have r:U (Q (putRow encStr (Sort.ahead w n) blk off (l.mergeSort λx y=>dD (x<=y)).toArray))=U (Q w):=by simp[putRow,mapBlock,Sort.ahead]
 have q:∀i,i<U (Q w)->(grow (putRow encStr (Sort.ahead w n) blk off (l.mergeSort λx y=>dD (x<=y)).toArray) B).heap[i]?=(putRow encStr (Sort.ahead w n) blk off (l.mergeSort λx y=>dD (x<=y)).toArray).heap[i]?:=λi o=>Array.getElem?_append_left (r▸o);have u:=holds_putRow encStr (Sort.ahead w n) blk off l.toArray (l.mergeSort λx y=>dD (x<=y)).toArray h al;refine⟨rfl,λj s=>⟨(JH (a:=(Ad blk (off+j))) (q blk m)).Z (u j s).1,(Dg (a:=(Ad blk (off+j))) (q blk m)).Z (u j s).2⟩,rfl,rfl,rfl,by simp[grow,r],λi o D=>(q i o).Z ?_⟩;have:blk≠i:=λe=>D (by rw[e]);simp[putRow,mapBlock,Sort.ahead,Ac,this]
theorem aG2:∀x y:List UInt8,Op.bytesLess x y=dD (x<y)
 |[],[]=>by simp[Op.bytesLess]
 |[],b::y=>by simp[Op.bytesLess]
 |a::x,[]=>by simp[Op.bytesLess]
 |a::x,b::y=>by simp only[Op.bytesLess,aG2 x y,List.cons_lt_cons_iff];by_cases j:a<b;{simp[j]};{by_cases i:a=b;{subst i;simp};{simp[j,i]}}
end T
namespace T
open Go.Maps
theorem oO:Keyed dG 9:=string_keyed underlying9
abbrev pO(x:List UInt8):dV:=jJ ⟨x.toArray⟩
def zy{H:Type}(i:DataW H)(left:Lit->Bool)(ss:List (List UInt8)):Prop:=ss.Nodup/\∀x,x∈ss↔(has i (.string x)/\left (.string x)=dF)
theorem zy.start{H:Type}(i:DataW H):zy i (has i) []:=⟨av2,λx=>by cases has i (.string x)<;>simp⟩
variable {x:List UInt8}{left:Lit->Bool}{ss:List (List UInt8)}
theorem zy.step{H:Type}{i:DataW H}(h:zy i left ss){y:DataW H}(hlk:left (.string x))(m:∀j,i.atKey (.string x) j=y):zy i (λz=>left z&&!z.sameKey (.string x)) (ss++[x]):=by
 have cu4:has i (.string x):=has_true_of_atKey m;exact bN2
def Hf{H:Type}(i:DataW H)(ss:List (List UInt8)):Prop:=ss.Nodup/\(∀x,x∈ss↔has i (.string x))/\J ss<=Maps.size i
theorem zy.all{H:Type}{i:DataW H}(h:zy i left ss)(o:∀j,left j=dF)(m:J ss<=Maps.size i):Hf i ss:=⟨h.1,(λx=>by rw[h.2 x,o];simp),m⟩
abbrev kT:TypeId:=9
def bg2{key:dV}{kl:Lit}(h:keyOf dG 9 key=kl):=Maps.keyOf_str underlying9 h
theorem cm5{H:Type}(n:Nat)(q:1<=n)(l o b nn:Nat)(D0:DataW H){R:dV->Option (DataW H×List MemPlace)}(iJ m:List (List UInt8)->G->Prop)(hY:∀i x W,iJ i W->J i<Maps.size D0->YieldAt Fence.wide (n-1) dG l #[pO x] W λe j=>(e=dR (jO dY)/\iJ (i++[x]) j/\KeepsWalks W j)\/(e=dR (jO dF)/\m (i++[x]) j))(W:G)(hJ:AbidesFrom (U W.heap) iJ)(hm:I W (Ad o 0)=Y (.map b))(dw:jM W dG 9 R b nn D0)(h0:iJ [] W):CallsIn Fence.wide n dG 249 #[.func (.yield l) #[] #[],Pz o] W λe j=>(∃v,e=dR v)/\((∃ss:List (List UInt8),Hf D0 ss/\iJ ss j)\/(∃i,m i j)):=iZ.scA
theorem cm4(n:Nat)(i:Option Nat)(w:G):CallsIn Fence.wide n dG 213 #[.map i] w λe w'=>e=dR (.func (.func 249) #[] #[Pz (U (Q w))])/\w'=jA w (dO #[.map i] 186):=iZ.scB
theorem bS8{H:Type}(n:Nat)(hn:1<=n)(Bm b nn:Nat)(D0:DataW H){R:dV->Option (DataW H×List MemPlace)}(w:G)(Tr:Bm<U (Q w))(hm:I w (Ad Bm 0)=Y (.map b))(dw:jM w dG 9 R b nn D0):SeqStopsK Fence.wide n dG 249 #[Pz Bm] (λx:List UInt8=>#[pO x]) KeepsWalks (Hf D0) (λ_=>True) (Maps.size D0) w:=iZ.scC
end T
namespace T
open Go.Maps Go.Proofs.YthlkmijffhhimaaGreatDoor.iZ
abbrev kS:TypeId:=196
def co2:=mJ (P:=dG) (e:=9) (z:=jJ ⟨#[]⟩) (size:=1) (bytes:=16) (by kernel_rfl)
theorem cQ4(n:Nat)(i:2<=n)(g:Nat)(lb:iA)(eg:∀args w,(callFunc g args).run dG w=.ok (.enter g args) w)(S Sp:List (List UInt8)->Prop)(N:Nat)(j:N<=2^20)(w:G)(Ov:SeqStopsK Fence.wide (n-1) dG g lb (λx:List UInt8=>#[pO x]) KeepsWalks S Sp N w):CallsIn Fence.wide n dG 262 #[ay,.func (.func g) #[] lb] w λe w'=>∃(v:dV)(ss:List (List UInt8)),e=dR v/\S ss/\w'.ownsRow (U (Q w)+1) 9 1 v (J ss) (ss.map pO)/\(v=ay↔ss=[])/\Bw w w':=iZ.scD
end T
theorem ew7(h:∀c∈cs,J c=sz)(hc:cs[i]?=Y c)(m:j<sz)(u:dV):jL (cs.set i (c.set j u))=cs.flatten.set (i*sz+j) u:=by
 induction cs generalizing i with
 |nil=>simp at hc
 | cons d cs ih=>
  cases i with
  |zero=>
   simp at hc;subst hc;rw[RG,vF,vF,List.set_append_left _ _ (by rw[h d al];omega)];simp
  |succ i=>
   rw[ba9,vF,vF,Zp _ _ (by rw[h d al,Gg];omega),h d al,ih (λc hc=>h c (by simp[hc])) (by simpa using hc)];congr 2;rw[Gg];omega
theorem fG.ptr{α:Type}{el:G->α->List dV->List Lf->Prop}{n cap:Nat}{xs:List α}(h:fG el ty sz B w (.S p n cap) xs Ls)(u:J xs=n)(V:0<n):∃g,p=(Ad g 0)/\B<=g/\g<U (Q w)/\n<=cap:=by
 have j:=h.lt;obtain⟨cs,R,N,M,o,E,D,y⟩:=h;obtain⟨i,q⟩|⟨g,W,r,i,m,x,s,_⟩:=o.2;{omega};{simp only[rE]at i;obtain⟨rfl,-,rfl⟩:=i;exact⟨g,rfl,m,(j.1 g rfl).2,af⟩}
theorem fG.qM(h:fG oy 148 3 B w v es Ls)(Z:∀a∈jL Ls,a.b<M)(W:∀b,jB v=Y b->b<M):∃A,mF w v es A/\gp B w A/\∀a∈A,a.b<M:=by
 have h':fG (λw x c l=>oy w x c l/\∀y∈l,y.b<M) 148 3 B w v es Ls:=by obtain⟨cs,h1,R,D,h4,h5,h6,h7⟩:=h;exact⟨cs,h1,R,D,h4,λi x c l m hc r=>⟨h5 i x c l m hc r,λy hy=>Z y (Eg.2 ⟨l,bq r,hy⟩)⟩,h6,h7⟩
 let⟨A,N,u⟩:=h'.lv (λx b a l=>Fv w x b a l/\∀y∈l,y.b=b\/y.b<M) λx c l b a V hc hf aP gi aI=>by obtain⟨⟨S,cc,rfl,R,D⟩,s⟩:=V;refine⟨⟨b,a,jU⟩::⟨b,a+1,jV⟩::l,⟨⟨S,cc,l,rfl,hc 2 _ rfl,D⟩,λy hy=>?_⟩,?_,?_,λy hy=>?_⟩;{obtain rfl|hy:=gD.1 hy;{exact .L rfl};{obtain rfl|hy:=gD.1 hy;{exact .L rfl};{exact .R (s y hy)}}};{exact bM7};{intro y hy;obtain rfl|hy:=gD.1 hy;{exact⟨⟨_,hc 0 _ rfl⟩,hf _⟩};{obtain rfl|hy:=gD.1 hy;{exact⟨⟨_,hc 1 _ rfl⟩,hf _⟩};{exact gi y hy}}};{obtain rfl|hy:=gD.1 hy;{exact .R ⟨rfl,al,al⟩};{obtain rfl|hy:=gD.1 hy;{exact .R ⟨rfl,al,al⟩};{exact .L hy}}}
 refine⟨A,N.imp λx b a l _ _ h=>h.1,u,λa X=>?_⟩;obtain⟨p,c,LL,rfl,q1,rfl,j⟩:=N;let⟨l,r,Ci⟩:=Eg.1 X;let⟨i,E⟩:=Af r;have Mj:=(bH.1 E).1;obtain⟨x,m⟩:∃x,es[i]?=Y x:=⟨_,bN af⟩;obtain j|⟨b,o,rfl,j⟩:=j;{subst j;simp at m};{obtain e|e:=(j i x l m E).2 a Ci;{rw[e];exact W b rfl};{exact e}}
abbrev nR(B:Nat)(w:G)(v:dV)(l:LI):Prop:=w.ownsRow B 27 1 v (J l) (l.map (Value.int jU))
theorem nR.form(h:nR B w v l):∃p c,v=.S p (J l) c:=by
 obtain⟨rfl,i⟩|⟨g,m,j,rfl,_⟩:=h.2;{exact⟨dN,0,by rw[i]⟩};{exact⟨_,_,rfl⟩}
theorem nR.H(h:nR B w v l)(i:Bw w w'):nR B w' v l:=
 Rj (row:=dN) h (et3 i) (by by_cases e:jB v=dN<;>simp[e])
def ZT(w:G)(v:dV):Prop:=(∀(a:Addr)(n c:Nat),v=.S a n c->a.off=0/\a.spot=dN/\∀j,n<=j->j<c->I w (Ad a.block j)=dU 0)/\∀(n c:Nat),v=.S dN n c->c=0
theorem ZT.W(h:ZT w v)(i:∀b,jB v=Y b->w'.heap[b]?=w.heap[b]?):ZT w' v:=⟨λa n c e=>by
 let⟨r,q,o⟩:=h.1 a n c e;refine⟨r,q,λj m hc=>(JH (i _ (by rw[e];rfl))).Z (o j m hc)⟩,h.2⟩
theorem ZT.nil(w:G):ZT w ay:=⟨λa n c e=>by simp at e,λn c e=>by simp only[rE]at e;exact e.2.2.C⟩
def qJ(B:Nat)(w:G)(v:dV)(l:LI):Prop:=nR B w v l/\ZT w v
variable {k:Nat}
theorem dc4(h:j<k):(Builtin.zeroCells (Value.cells (.U 0)) k)[j]?=dU 0:=by
 have e:Value.cells (.U 0)=#[.U 0]:=rfl;rw[e,Builtin.zeroCells];simp[h,Nat.mod_one]
variable {xs:List dV}
theorem bY8(i:TypeInfo)(R:Tryz.prog.info? 27=i)(Z:i.zero=dU 0)(B:i.size=1)(hb:i.bytes=8){n:Nat}(D:w.ownsRow base 27 1 v n xs)(X:ZT w v){a:Addr}(c:Nat)(hl:J news=m*1)(M:∀j u,news[j]?=Y u->I w (a.add j)=Y u)(h1:∀u∈news,u.oneCell')(Km:n+m<=maxLen)(Kc:(n+m)*8<=140737488355328)(Pc:base<=U (Q w)):∃y w',(Builtin.append_ #[134,134] ty #[v,.S (Y a) m c]).run dG w=.ok y w'/\w'.ownsRow base 27 1 y (n+m) (xs++news)/\jG w w' (jB v)/\ZT w' y:=by
 let⟨y,w',N,h2,h3,h4⟩:=aZ6 (P:=dG) w base 134 ty 27 i (.U 0) 1 8 Tryz.underlying134 R Z B hb rfl bf v n xs D a m c news hl M h1 Km Kc Pc;refine⟨y,w',N,h2,h3,?_⟩;have fv0:n+m<=9223372036854775807:=by simp only[maxLen]at Km;omega
 have V:J news=m*i.size:=B▸hl;have s:∀(xs:List dV)(k K:Nat),J xs=k->∀(W:G),ZT (jA W (dO (xs.toArray++Builtin.zeroCells (Value.cells (.U 0)) (K-k)) 27)) (.T (U (Q W)) k K):=λxs k K hk W=>by refine⟨λa n c e=>?_,λn c e=>by simp at e⟩;simp only[rE,oK]at e;obtain⟨rfl,rfl,rfl⟩:=e;refine⟨rfl,rfl,λj hj hc=>?_⟩;rw[cell_of_row _ _ _ _ _ _ (heap_alloc_new W _),Array.getElem?_append_right (by simpa[hk]using hj)];simp only[List.size_toArray,hk];exact dc4 af
 obtain⟨rfl,rfl⟩|⟨g,x,E,rfl,Iu,hg,qi,qn,OY,dY0⟩:=D.2;{by_cases hm:m=0;{rw[h4.2 ⟨rfl,hm⟩];exact ZT.nil _};{have r:=run_append_nil (P:=dG) w 134 ty 27 i (.U 0) Tryz.underlying134 R Z a m c news V M af af (by rw[hb];omega);rw[N]at r;simp only[VG]at r;obtain⟨rfl,rfl⟩:=r;exact s news m _ af w.drew}};{by_cases ay1:n+m<=x;{have r:=run_append_room (P:=dG) w 134 ty 27 i Tryz.underlying134 R g n x E hg a m c news V M h1 ay1 (by rw[B,hl,OY];omega);rw[N]at r;simp only[VG]at r;obtain⟨rfl,rfl⟩:=r;refine⟨λb n' c' e=>?_,λn c e=>by simp at e⟩;simp only[rE,oK]at e;obtain⟨rfl,rfl,rfl⟩:=e;obtain⟨-,-,q⟩:=X.1 _ _ _ rfl;refine⟨rfl,rfl,λj hj hc=>?_⟩;have q1:=q j af hc;rw[cell_of_row _ _ _ _ _ _ hg]at q1;rw[cell_of_row _ _ _ _ _ _ (setRow_heap w g E _ _ _ hg),B,rB,qT bL,NK];rw[<-q1,<-bd2];congr 1;simp;omega};{have r:=run_append_grow (P:=dG) w 134 ty 27 i (.U 0) Tryz.underlying134 R Z (Ad g 0) n x xs (B▸D.1) (D.cells (g:=g) rfl) a m c news V M af af (growslice_fits af (hb▸Kc));rw[N]at r;simp only[VG]at r;obtain⟨rfl,rfl⟩:=r;have hx1:=D.1;have e:xs.toArray++news.toArray=(xs++news).toArray:=al;rw[e];exact s (xs++news) (n+m) _ (by rw[fe];omega) w.drew}}
variable {a:Act}
theorem U6{iZ:iE}(ik:o.guard=dN){s x:Operand}(ho:o.op=.call {callee:=.builtin .append,args:=#[s,x],argTypes:=#[134,134]})(v:dV){lm:LI}(sE:O (lm=l++[y]))(g:Nat)(hs:a.eval s=v)(hx:a.eval x=.T g 1 1)(dw:qJ B w v l)(hc:I w (Ad g 0)=dU y)(hl:J l<2^22)(hB:B<=U (Q w))(h:∀p' c' w',qJ B w' (.S p' (J lm) c') lm->jG w w' (jB v)->wpList dG ops iZ rest (a.put o.dst (.S p' (J lm) c')) w'):wpList dG ops iZ (o::rest) a w:=by
 let⟨i,hi,jk,fI,gv⟩:=mJ Tryz.infoU64;let⟨v',w',hr,h1,h2,h3⟩:=bY8 (ty:=o.type) i hi jk fI gv dw.1 dw.2 (a:=Ad g 0) (m:=1) 1 (news:=[.U y]) rfl (λj u hu=>by
  cases j with
  |zero=>simp at hu;subst hu;rw[Ia];exact hc
  |succ j=>simp at hu) (λu hu=>by simp at hu;subst hu;rfl) kW af hB
 refine Lib.wpList_append_run w ik s x _ _ ho _ _ hs hx _ _ hr ?_;cases ae sE;have kU:nR B w' v' (l++[y]):=by unfold nR;rw[fe,uk];exact h1
 obtain⟨p',c',rfl⟩:=kU.form;exact h p' c' w' ⟨kU,h3⟩ h2
theorem qJ.H(h:qJ B w v l)(i:Bw w w'):qJ B w' v l:=⟨h.1.H i,h.2.W λb e=>i.block b (h.1.lt b e).2⟩
theorem qJ.form(h:qJ B w v l):∃p c,v=.S p (J l) c:=h.1.form
theorem qJ.lt(h:qJ B w v l):∀k,jB v=Y k->B<=k/\k<U (Q w):=VI h.1
theorem qJ.nil(B:Nat)(w:G):qJ B w ay []:=⟨by simpa[nR]using qe w B 27 1,ZT.nil w⟩
def RT{α:Type}(el:G->α->List dV->Prop)(ty:TypeId)(j B:Nat)(w:G)(v:dV)(xs:List α):Prop:=
 ∃cs:List (List dV),J cs=J xs/\(∀c∈cs,J c=j)/\w.ownsRow B ty j v (J xs) (jL cs)/\∀(i:Nat)(x:α)(c:List dV),xs[i]?=x->cs[i]?=Y c->el w x c
section
variable {α:Type}{el:World->α->List Value->Prop}{ty:TypeId}{sz B:Nat}{w w':World}{v:Value}{xs:List α}
theorem RT.nil(el:G->α->List dV->Prop)(ty:TypeId)(sz B:Nat)(w:G):RT el ty sz B w ay []:=
 ⟨[],rfl,λc hc=>by simp at hc,by simpa using qe w B ty sz,λi x c hx=>by simp at hx⟩
theorem RT.lt(h:RT el ty sz B w v xs):∀b,jB v=Y b->B<=b/\b<U (Q w):=by
 obtain⟨cs,o,m,i,j⟩:=h;exact i.lt
theorem RT.vW(h:RT el ty sz B w v xs):∀b,jB v=Y b->∃cur,w.heap[b]?=dO cur ty:=λb i=>by
 obtain⟨cs,s,r,m,q⟩:=h;obtain⟨rfl,-⟩|⟨g,o,cur,rfl,-,j,-⟩:=m.2;{simp[jB]at i};{simp only[jB,oK]at i;subst i;exact⟨cur,j⟩}
theorem RT.form(h:RT el ty sz B w v xs):∃p c,v=.S p (J xs) c/\J xs<=c/\c<=maxLen/\(0<J xs->∃g,p=(Ad g 0)):=by
 obtain⟨cs,u,s,j,r⟩:=h;obtain⟨rfl,e⟩|⟨g,i,m,rfl,-,q,a,b,-⟩:=j.2;{exact⟨dN,0,by rw[e],af,kW,λo=>af⟩};{exact⟨_,i,rfl,a,b,λ_=>⟨g,rfl⟩⟩}
theorem RT.W(h:RT el ty sz B w v xs)(r:∀x c,el w x c->el w' x c)(hr:∀b,jB v=Y b->w'.heap[b]?=w.heap[b]?):RT el ty sz B w' v xs:=by
 obtain⟨cs,N,M,q,E⟩:=h;refine⟨cs,N,M,⟨q.1,?_⟩,λi x c s hc=>r x c (E i x c s hc)⟩;obtain u|⟨g,o,m,rfl,D,y,j⟩:=q.2;{exact .L u};{exact .R ⟨g,o,m,rfl,D,(hr g rfl).Z y,j⟩}
variable {B':Nat}
theorem RT.h(h:RT el ty sz B w v xs)(s:B'<=B):RT el ty sz B' w v xs:=by
 obtain⟨cs,y,x,o,u⟩:=h;refine⟨cs,y,x,⟨o.1,?_⟩,u⟩;obtain q|⟨g,m,j,rfl,r,i⟩:=o.2;{exact .L q};{exact .R ⟨g,m,j,rfl,gq s r,i⟩}
variable {v':dV}{c:List dV}{cs:List (List dV)}
theorem RT.snoc{x:α}(r:J cs=J xs)(E:∀c∈cs,J c=sz)(D:∀(i:Nat)(x:α)(c:List dV),xs[i]?=Y x->cs[i]?=Y c->el w x c)(q:∀x c,el w x c->el w' x c)(s:el w x c)(hc:J c=sz)(M:w'.ownsRow B ty sz v' (J xs+1) (jL cs++c)):RT el ty sz B w' v' (xs++[x]):=by
 refine⟨cs++[c],by simp[r],λo j=>?_,by simpa using M,λi y o m j=>?_⟩;{obtain j|j:=jl.1 j;{exact E o j};{simp at j;subst j;exact hc}};{
 by_cases u:i<J xs;{rw[oI u]at m;rw[oI af]at j;exact q _ _ (D i y o m j)};{
 have N:i=J xs:=by have:=(bH.1 m).1;simp at this;omega
 subst N;rw[qT aU,Ab]at m;rw[qT af,r,Ab]at j;simp at m j;subst m j;exact q _ _ s}}
theorem RT.n{g n cap:Nat}(h:RT el ty sz B w (.T g n cap) xs):n=J xs:=by
 obtain⟨p,c,e,-⟩:=h.form;simp only[rE]at e;exact e.2.1
variable {i:Nat}
theorem RT.at{g n cap:Nat}(h:RT el ty sz B w (.T g n cap) xs){x:α}(r:xs[i]?=Y x):∃c,J c=sz/\el w x c/\(∀(j:Nat)(u:dV),c[j]?=Y u->I w (Ad g (i*sz+j))=Y u)/\∀o,jF w (Ad g o)=dF:=by
 cases h.n;obtain⟨cs,S,D,y,R⟩:=h;have N:=(bH.1 r).1;obtain⟨c,hc⟩:∃x,cs[i]?=Y x:=⟨_,bN af⟩;have m:=D c (bq hc);refine⟨c,m,R i x c r hc,λj u s=>?_,λo=>y.frozenAt o⟩;have M:j<sz:=aM (bH.1 s).1;have E:i*sz+sz<=J xs*sz:=by rw[<-Gg];exact Rm _ N
 rw[y.cellAt (i*sz+j) af,ag4 D hc M];exact s
variable {j:Nat}
theorem RT.put{g n cap:Nat}(h:RT el ty sz B w (.T g n cap) xs){x:α}(D:xs[i]?=Y x)(R:j<sz)(u:dV)(s:α)(M:∀y c,el w y c->el (jS w (Ad g (i*sz+j)) u) y c)(N:∀c,J c=sz->el w x c->el (jS w (Ad g (i*sz+j)) u) s (c.set j u)):RT el ty sz B (jS w (Ad g (i*sz+j)) u) (.T g n cap) (xs.set i s):=by
 cases h.n;obtain⟨cs,V,r,S,E⟩:=h;have W:=(bH.1 D).1;obtain⟨c,hc⟩:∃x,cs[i]?=Y x:=⟨_,bN af⟩;have o:=r c (bq hc);refine⟨cs.set i (c.set j u),by simp[V],λd m=>?_,?_,λk y d q m=>?_⟩;{obtain m|rfl:=NU m;{exact r d m};{rw[qS,o]}};{rw[ew7 r hc R,qS];exact(S.stored _ u).1};{rw[vG]at q m;by_cases e:i=k;{subst e;rw[aK rfl,aK af]at q m;cases q;cases m;exact N c o (E i x c D hc)};{rw[aJ e]at q m;exact M _ _ (E k y d q m)}}
end
theorem uS{o:Obj}(h:w.heap[b]?=o):b<U (Q w):=(LF.1 h).1
def Fr(T:List TypeId)(w w':G):Prop:=U (Q w)<=U (Q w')/\∀(b:Nat)(i:iA)(j:TypeId)(m:Nat×Nat),j∉T->w.heap[b]?=dO i j m->w'.heap[b]?=dO i j m
theorem Fr.H{T:List TypeId}(h:Bw w w'):Fr T w w':=⟨h.size,λb j o m _ i=>(h.block b (uS i)).Z i⟩
theorem cG(h:Bw w w'):Fr [] w w':=Fr.H h
theorem Fr.refl(T:List TypeId)(w:G):Fr T w w:=⟨fS _,λ_ _ _ _ _ h=>h⟩
theorem Fr.Z{T:List TypeId}(h:Fr T w w1)(q:Fr T w1 w2):Fr T w w2:=⟨gq h.1 q.1,λb i j m o r=>q.2 b i j m o (h.2 b i j m o r)⟩
theorem Fr.sub{T T':List TypeId}(h:Fr T w w')(q:∀t∈T,t∈T'):Fr T' w w':=⟨h.1,λb i j m o r=>h.2 b i j m (λe=>o (q _ e)) r⟩
theorem Fr.set{T:List TypeId}{g:Nat}(r:w.heap[g]?=dO cur ty)(o:ty∈T):Fr T w (jS w (Ad g j) u):=by
 refine⟨al,λb y x m q i=>?_⟩;have s:b≠g:=λe=>by subst e;rw[r]at i;simp at i;exact q (i.2.1▸o)
 exact(gh _ _ _ _ s).Z i
theorem Fr.grown{T:List TypeId}(i:jG w w' r)(j:∀b,r=Y b->∃cur ty,w.heap[b]?=dO cur ty/\ty∈T):Fr T w w':=by
 refine⟨i.size,λb cur ty m o hb=>?_⟩;refine(i.block b (uS hb) (λe=>?_)).Z hb;let⟨s,q,h1,h2⟩:=j b e.C;rw[h1]at hb;simp at hb;exact o (hb.2.1▸h2)
def TB(w:G)(v:dV)(l:LI):Prop:=Rd w v l/\(∀b,jB v=Y b->l=[]\/∃i m,w.heap[b]?=dO i 5 m)/\vU v
def TU(B:Nat)(w:G)(v:dV)(l:LI):Prop:=kI w v l/\(∀b,jB v=Y b->∃i,w.heap[b]?=dO i 27)/\ZT w v/\∀b,jB v=Y b->B<=b
theorem TB.T{T:List TypeId}(h:TB w v l)(hf:Fr T w w')(ht:5∉T:=by decide):TB w' v l:=by
 obtain⟨⟨p,c,rfl,hd⟩,h2,hc⟩:=h;by_cases hl:l=[];{exact⟨⟨p,c,rfl,.L hl⟩,λb _=>.L hl,hc⟩};obtain hd|⟨b,o,rfl,hd⟩:=hd;{exact absurd hd hl};obtain e|⟨cur,m,hb⟩:=h2 b rfl;{exact absurd e hl};have aR:=hf.2 b cur _ m ht hb;refine⟨⟨_,c,rfl,.R ⟨b,o,rfl,λi hi=>(gG (aR.Z hb.C) _).Z (hd i hi)⟩⟩,λb' e=>.R ?_,hc⟩;simp only[jB,oK]at e;subst e;exact⟨cur,m,aR⟩
theorem TU.T{T:List TypeId}(h:TU B w v l)(hf:Fr T w w')(ht:27∉T:=by decide):TU B w' v l:=by
 obtain⟨⟨p,c,rfl,hd⟩,h2,hz,h3⟩:=h;have hk:∀b,jB (Value.slice p (J l) c)=Y b->w'.heap[b]?=w.heap[b]?:=λb e=>by let⟨cur,hb⟩:=h2 b e;exact(hf.2 b cur _ _ ht hb).Z hb.C
 exact bN1
theorem Own.cN5(h:Own B w v l):vU v:=by
 obtain⟨rfl,-⟩|⟨g,j,i,rfl,-,m,hc,hm,-⟩:=h.2;{exact⟨_,_,_,rfl,fS _,de _⟩};{exact⟨_,_,_,rfl,hc,hm⟩}
theorem Own.tb(h:Own B w v l):TB w v l:=⟨h.rd,λb e=>.R (by
 obtain⟨rfl,-⟩|⟨g,m,i,rfl,-,j,-⟩:=h.2;{simp[jB]at e};{simp only[jB,oK]at e;subst e;exact⟨i,_,j⟩}),h.cN5⟩
theorem TB.nil(w:G):TB w ay []:=⟨Rd.nil _,λb e=>.L rfl,_,_,_,rfl,fS _,de _⟩
theorem TU.nil(w:G):TU B w ay []:=⟨⟨dN,0,rfl,.L rfl⟩,λb e=>by simp[jB]at e,ZT.nil w,λb e=>by simp[jB]at e⟩
theorem TU.h(h:TU B w v l)(i:B'<=B):TU B' w v l:=⟨h.1,h.2.1,h.2.2.1,λb e=>gq i (h.2.2.2 b e)⟩
def TC(B:Nat)(w:G)(v:dV)(l:LI):Prop:=Rd w v l/\(∀b,jB v=Y b->l=[]\/(B<=b/\∃i m,w.heap[b]?=dO i 5 m))/\vU v
theorem TC.tb(h:TC B w v l):TB w v l:=⟨h.1,λb e=>(h.2.1 b e).imp id And.right,h.2.2⟩
theorem TC.T{T:List TypeId}(h:TC B w v l)(hf:Fr T w w')(ht:5∉T:=by decide):TC B w' v l:=⟨(h.tb.T hf ht).1,λb e=>(h.2.1 b e).imp id λk=>⟨k.1,k.2.imp λcur k=>k.imp λm k=>hf.2 b cur _ m ht k⟩,h.2.2⟩
theorem TC.h(h:TC B w v l)(i:B'<=B):TC B' w v l:=⟨h.1,λb e=>(h.2.1 b e).imp id λk=>⟨gq i k.1,k.2⟩,h.2.2⟩
theorem TC.nil(w:G):TC B w ay []:=⟨Rd.nil _,λb e=>.L rfl,_,_,_,rfl,fS _,de _⟩
theorem TC.fq(h:TC B w v l):∃p c,v=.S p (J l) c:=by
 obtain⟨⟨p,c,e,-⟩,-⟩:=h;exact⟨p,c,e⟩
theorem Own.tc(h:Own B' w v l)(i:B<=B'):TC B w v l:=⟨h.rd,λb e=>(h.tb.2.1 b e).imp id λk=>⟨gq i (h.lt b e).1,k⟩,h.cN5⟩
def MH(B:Nat)(w:G)(e:Ev)(c:List dV):Prop:=∃P,c=[.I e.1,P]/\TC B w P e.2
def Fh(_:G)(x:aB×dV)(c:List dV):Prop:=c=[.U x.1.1,.I x.1.2.1,x.2]
def AE(B:Nat)(w:G)(nd:au)(c:List dV):Prop:=∃P V H iU,c=[P,V,.U nd.D,.I nd.M,H,.U nd.P,.U nd.F,iU]/\TC B w P nd.A/\TC B w V nd.V/\TU B w H nd.y/\TU B w iU nd.X
abbrev nF(B:Nat)(w:G)(v:dV)(es:List Ev):Prop:=RT (MH B) 125 2 B w v es
structure fh(B:Nat)(w:G)(v:dV)(ss:List aB)(Qs:List dV):Prop where
 len:J Qs=J ss
 row:RT Fh 148 3 B w v (ss.zip Qs)
 vD:∀(i:Nat)(s:aB)(iZ:dV),ss[i]?=s->Qs[i]?=iZ->nF B w iZ s.2.2
 py:∀(i j:Nat)(iZ Q':dV)(b:Nat),i≠j->Qs[i]?=iZ->Qs[j]?=Q'->jB iZ=b->jB Q'≠Y b
abbrev du(B0 B:Nat)(w:G)(v:dV)(ns:List au):Prop:=RT (AE B0) 149 8 B w v ns
abbrev ld(B:Nat)(w:G)(v:dV)(ns:List au):Prop:=du B B w v ns
theorem RT.T{α:Type}{el:G->α->List dV->Prop}{xs:List α}{T:List TypeId}(h:RT el ty sz B w v xs)(hf:Fr T w w')(ht:ty∉T)(iW:∀x c,el w x c->el w' x c):RT el ty sz B w' v xs:=
 h.W iW λb hb=>by let⟨cur,hc⟩:=h.vW b hb;exact(hf.2 b cur ty _ ht hc).Z hc.C
theorem MH.T{T:List TypeId}(hf:Fr T w w')(ht:5∉T)(x:Ev)(c:List dV)(h:MH B w x c):MH B w' x c:=by
 obtain⟨P,e,h1⟩:=h;exact⟨P,e,h1.T hf ht⟩
theorem AE.T{T:List TypeId}(hf:Fr T w w')(ht:5∉T)(hu:27∉T)(x:au)(c:List dV)(h:AE B w x c):AE B w' x c:=by
 obtain⟨P,V,H,iU,e,h1,h2,h3,h4⟩:=h;exact⟨P,V,H,iU,e,h1.T hf ht,h2.T hf ht,h3.T hf hu,h4.T hf hu⟩
theorem du.T{T:List TypeId}(h:du B0 B w v ns)(hf:Fr T w w')(ht:5∉T/\27∉T/\149∉T:=by decide):du B0 B w' v ns:=
 RT.T h hf ht.2.2 (AE.T hf ht.1 ht.2.1)
variable {es:List Ev}
theorem nF.T{T:List TypeId}(h:nF B w v es)(hf:Fr T w w')(ht:5∉T/\125∉T:=by decide):nF B w' v es:=RT.T h hf ht.2 (MH.T hf ht.1)
theorem nF.h(h:nF B w v es)(j:B'<=B):nF B' w v es:=by
 let⟨cs,s,r,q,o⟩:=RT.h h j;exact⟨cs,s,r,q,λi x c m hc=>(o i x c m hc).imp λP k=>⟨k.1,k.2.h j⟩⟩
theorem fh.T{T:List TypeId}(h:fh B w v ss Qs)(hf:Fr T w w')(ht:5∉T/\125∉T/\148∉T:=by decide):fh B w' v ss Qs:=
 ⟨h.len,RT.T h.row hf ht.2.2 (λ_ _ h=>h),λi s iZ hs hq=>(h.vD i s iZ hs hq).T hf ⟨ht.1,ht.2.1⟩,h.py⟩
theorem fh.nil(B:Nat)(w:G):fh B w ay [] []:=⟨rfl,RT.nil _ _ _ _ _,λi s iZ h=>by simp at h,λi j iZ Q' b _ h=>by simp at h⟩
theorem du.put{g n cap:Nat}(h:du B0 B w (.T g n cap) ns)(q:ns[i]?=nd)(s:j<8)(u:dV)(nd':au)(r:∀w' P V H iU,TC B0 w' P nd.A->TC B0 w' V nd.V->TU B0 w' H nd.y->TU B0 w' iU nd.X->Fr [149] w w'->AE B0 w' nd' ([P,V,.U nd.D,.I nd.M,H,.U nd.P,.U nd.F,iU].set j u)):du B0 B (jS w (Ad g (i*8+j)) u) (.T g n cap) (ns.set i nd')/\Fr [149] w (jS w (Ad g (i*8+j)) u):=by
 let⟨cur,hc⟩:=h.vW g rfl;have hf:Fr [149] w (jS w (Ad g (i*8+j)) u):=Fr.set hc al;have o:5∉[149]:=bf;have m:27∉[149]:=bf;refine⟨RT.put h q s u nd' (AE.T hf o m) (λc _ he=>?_),hf⟩;obtain⟨P,V,H,iU,rfl,E,D,y,x⟩:=he;exact r _ P V H iU (E.T hf o) (D.T hf o) (y.T hf m) (x.T hf m) hf
theorem aM5{α β:Type}:∀(l:List α)(m:List β)(i:Nat)(a:α)(b:β),(l.zip m).set i (a,b)=(l.set i a).zip (m.set i b)
 |[],m,i,a,b=>al
 |x::l,[],i,a,b=>by cases i<;>simp
 |x::l,y::m,0,a,b=>al
 |x::l,y::m,i+1,a,b=>by simp[aM5 l m i a b]
theorem Js{α:Type}{l:List α}{a:α}(h:l[i]?=a):l.set i a=l:=by
 let⟨m,j⟩:=bH.1 h;rw[<-j,List.set_getElem_self]
theorem fh.ao9{g n cap:Nat}(h:fh B w (.T g n cap) ss Qs)(S:ss[i]?=s){r v':dV}(R:Qs[i]?=r) (mQ:nF B w1 v' q')(hg:jG w w1 (jB r))(il:∀b,jB v'=Y b->jB r=Y b\/U (Q w)<=b):fh B (jS w1 (Ad g (i*3+2)) v') (.T g n cap) (ss.set i (s.1,s.2.1,q')) (Qs.set i v')/\Fr [125,148] w (jS w1 (Ad g (i*3+2)) v'):=by
 have N:=(bH.1 S).1;have W:Fr [125] w w1:=Fr.grown hg λb m=>by let⟨cur,hc⟩:=(h.vD i s r S R).vW b m;exact⟨cur,_,hc,al⟩
 have Z:RT Fh 148 3 B w1 (.T g n cap) (ss.zip Qs):=RT.T h.row W bf (λ_ _ h=>h);let⟨cur,hc⟩:=Z.vW g rfl;have V:Fr [148] w1 (jS w1 (Ad g (i*3+2)) v'):=Fr.set hc al;have hz:(ss.zip Qs)[i]?=Y (s,r):=by rw[N8];exact⟨S,R⟩
 have o:∀(k:Nat)(q:dV)(b:Nat),i≠k->Qs[k]?=Y q->jB q=Y b->jB v'≠Y b:=λk q b M hq m e=>by obtain e|e:=il b e;{exact h.py i k r q b M R hq e m};{obtain⟨D,vk⟩:∃D,ss[k]?=Y D:=⟨_,bN (h.len▸(bH.1 hq).1)⟩;have:=((h.vD k D q vk hq).lt b m).2;omega}
 refine⟨⟨by rw[qS,qS];exact h.len,?_,λk D q E hq=>?_,λk j Q1 Q2 b u y x m=>?_⟩,(W.sub al).Z (V.sub al)⟩;{
 have:=RT.put Z hz (j:=2) af v' ((s.1,s.2.1,q'),v') (λ_ _ h=>h) (λc _ he=>by unfold Fh at he⊢;subst he;rfl)
 rwa [aM5]at this};{rw[vG]at E hq;by_cases e:i=k;{subst e;rw[aK rfl,aK N]at E;rw[aK rfl,aK (h.len▸N)]at hq;cases E;cases hq;exact nF.T mQ V};{rw[aJ e]at E hq;have M:=h.vD k D q E hq;refine nF.T (RT.W M (MH.T W bf) λb m=>hg.block b (M.lt b m).2 (λX=>h.py i k r q b e R hq X.C m)) V}};{rw[vG]at y x;by_cases e:i=k;{subst e;rw[aK rfl,aK (h.len▸N)]at y;rw[aJ u]at x;cases y;exactλX=>o j Q2 b u x X m};{rw[aJ e]at y;by_cases e':i=j;{subst e';rw[aK rfl,aK (h.len▸N)]at x;cases x;exact o k Q1 b e y m};{rw[aJ e']at x;exact h.py k j Q1 Q2 b u y x m}}}
theorem fh.dl{g n cap:Nat}(h:fh B w (.T g n cap) ss Qs)(q:ss[i]?=s)(d:Int):fh B (jS w (Ad g (i*3+1)) (.I d)) (.T g n cap) (ss.set i (s.1,d,s.2.2)) Qs/\Fr [148] w (jS w (Ad g (i*3+1)) (.I d)):=by
 let⟨cur,hc⟩:=h.row.vW g rfl;have hf:Fr [148] w (jS w (Ad g (i*3+1)) (.I d)):=Fr.set hc al;have r:=(bH.1 q).1;obtain⟨o,u⟩:∃o,Qs[i]?=Y o:=⟨_,bN (h.len▸r)⟩;have D:(ss.zip Qs)[i]?=Y (s,o):=by rw[N8];exact⟨q,u⟩
 refine⟨⟨by rw[qS];exact h.len,?_,λk y x m hq=>?_,h.py⟩,hf⟩;{
 have:=RT.put h.row D (j:=1) af (.I d) ((s.1,d,s.2.2),o) (λ_ _ h=>h) (λc _ he=>by unfold Fh at he⊢;subst he;rfl)
 rwa [aM5,Js u]at this};{rw[vG]at m;by_cases e:i=k;{subst e;rw[aK rfl,aK r]at m;cases m;exact nF.T (h.vD i s x q hq) hf};{rw[aJ e]at m;exact nF.T (h.vD k y x m hq) hf}}
structure SD where
 e:Int
 g:Int
 x:Int
 t:Int
 E:List aB
 N:List au
def lZ(ids:LI)(id:Int):LI:=ids.filter λx=>!(x==id)
def me:LI->Int->LI
 |[],id=>[id]
 |x::r,id=>if id<=x then id::lZ (x::r) id else x::me r id
def vg(q:List Ev)(ev:Ev):List Ev:=if J q<7 then q++[ev]else if J q=7 then q++[(4,[])]else q
def DJ(ss:List aB)(id:Int)(ev:Ev):List aB:=ss.map λs=>if s.1=id then(s.1,s.2.1,vg s.2.2 ev)else s
def yz(ss:List aB)(ids:LI)(ev:Ev):List aB:=ids.foldl (λss id=>DJ ss id ev) ss
def ly(D:SD)(k:Nat)(i:Int):SD:=match D.N[k]? with
 |none=>D
 |some nd=>{D with E:=yz D.E nd.X (i,nd.A),N:=D.N.set k {nd with X:=[]}}
def xD(D:SD)(k:Nat):SD:={D with N:=jX D.N k}
def kV(D:SD)(k:Nat)(id:Int):SD:=match D.N[k]? with
 |none=>D
 |some nd=>if nd.y.contains id then(if lZ nd.y id=[]then ly {D with N:=D.N.set k {nd with y:=[],M:=0,P:=0,F:=0}} k 3 else{D with N:=D.N.set k {nd with y:=lZ nd.y id}})else D
theorem nR.rdu(h:nR B w v l):kI w v l:=by
 obtain⟨rfl,m⟩|⟨g,j,q,rfl,u,s,r⟩:=h.2;{exact⟨dN,0,by rw[m],.L (uJ.1 m)⟩};{refine⟨_,j,rfl,.R ⟨g,0,rfl,λi o=>?_⟩⟩;have:=Rk h i af;rw[nY,this];simp[o]}
theorem kI.at{n c:Nat}(h:kI w (.S p n c) l)(j:l[k]?=x):∃b o,p=(Ad b o)/\I w (Ad b (o+k))=dU x:=by
 obtain⟨u,y,e,m⟩:=h;have i:=(bH.1 j).1;obtain s|⟨b,o,r,q⟩:=m;{rw[s]at i;simp at i};{simp only[rE]at e;have:=q k i;rw[ko,j,tv]at this;exact⟨b,o,e.1.Z r,this⟩}
theorem eM7{x id:Int}(i:l[k]?=x)(h:(jT k l).contains id=dF)(j:¬x=id):(jT (k+1) l).contains id=dF:=by
 rw[rD,i,List.contains_append,h];simpa using λe:id=x=>j e.C
theorem bf6{c n:Nat}(r:Le l n){id:Int}(h:kI w (.S p n c) l)(V:Mg n){B:Bool}(s:O (l.contains id=B)):dQ dG 172 #[.S p n c,.U id] w (Rb (jO B) w):=by
 go_in;go_wp2
 go_loopw[5](λD wr=>∃k:Nat,k<=n/\D=.I k/\O ((jT k l).contains id=dF)/\O (Bw w wr)) (pT n)
 exact⟨0,de _,rfl,(ai (by simp)),bD _ _⟩;{obtain⟨k,W,rfl,hc,i⟩:=hrel;by_cases N:k<n;{have M:=cM k n;obtain⟨x,j⟩:∃x,l[k]?=Y x:=⟨_,bN (ae r▸N)⟩;obtain⟨b,o,rfl,R⟩:=(ae (ai λ(y:G)(E:Bw w y)=>h.H E) _ i).at j;have u:=ai j;by_cases he:x=id;{subst he;go_wp2;go_ret;refine⟨?_,i⟩;rw[<-ae s,aY5.2 (bq (ae u))];rfl};{go_wp2;go_roundw;exact⟨k+1,af,by go_num,eM7 u hc he,i⟩;exact dy}};{have M:=ga k n;have m:=ae hc;rw[nZ (by rw[ae r];omega),ae s]at m;subst m;exact aV}}
theorem dg5{x id:Int}(i:l[k]?=x):lZ (jT (k+1) l) id=if x=id then lZ (jT k l) id else lZ (jT k l) id++[x]:=by
 rw[rD,i,lZ,av1];by_cases h:x=id<;>simp[lZ,h]
theorem Nt{id:Int}:J (lZ l id)<=J l:=VO _ _
theorem cl4{c n:Nat}(en:Le l n){id:Int}(h:kI w (.S p n c) l)(hl:Mg n):dQ dG 164 #[.S p n c,.U id] w λr w'=>∃p' c',r=dR (.S p' (J (lZ l id)) c')/\qJ (U (Q w)) w' (.S p' (J (lZ l id)) c') (lZ l id)/\Bw w w':=by
 go_in;go_wp2
 go_loopw[5,6](λZ E wr=>∃(k:Nat)(L:LI),k<=n/\E=.I k/\O (lZ (jT k l) id=L)/\O (qJ (U (Q w)) wr Z L)/\O (Bw w wr)) (λ_ E _=>n-(jN (intOf E)))
 exact⟨0,[],de _,rfl,(ai (by simp[lZ])),(qJ.nil _ _),bD _ _⟩;{
 obtain⟨k,L,hk,rfl,M,ho,q⟩:=hrel;obtain⟨X,cv,rfl⟩:=ho.form;have zr:=q.size;have W:J L<2^22:=by have h1:=Nt (l:=jT k l) (id:=id);have h2:=Rt k l;rw[ae M]at h1;have:=ae en;omega
 by_cases aH:k<n;{have dm:=cM k n;obtain⟨x,hx⟩:∃x,l[k]?=Y x:=⟨_,bN (ae en▸aH)⟩;obtain⟨b,o,rfl,sk⟩:=(ae (ai λ(w':G)(hb:Bw w w')=>h.H hb) _ q).at hx;have V:=dg5 (id:=id) hx;rw[ae M]at V;have N:=ai V;by_cases he:x=id;{subst he;go_wp2;go_roundw;exact⟨k+1,L,af,by go_num,(by have:=ae N;rwa [aK rfl]at this),ho,q⟩;exact dy};{go_wp2_with(at_builtin;refine U6 rfl rfl (B:=U (Q w)) (.S X (J L) cv) (l:=L) (lm:=L++[x]) (y:=x) rfl (U (Q wr)) rfl rfl (qJ.H ho cY) al W bL ?_);intro p' c' w' o2 fx;go_wp2;go_roundw;exact⟨k+1,L++[x],af,by go_num,(by have:=ae N;rwa [aJ he]at this),o2,(aj (ae q) cY).grown fx bL (λb' e=>(ho.lt b' e).1)⟩;exact dy}};{have dm:=ga k n;have R:=ae M;rw[nZ (by rw[ae en];omega)]at R;subst R;go_wp2;go_ret;exact⟨_,_,rfl,ho,q⟩}}
def ti(id:Int)(s:LI×Bool)(x:Int):LI×Bool:=if s.2=dF/\id<=x then(if x=id then(s.1++[id],dY)else(s.1++[id]++[x],dY))else(if x=id then s else(s.1++[x],s.2))
def FQ(l:LI)(id:Int):LI×Bool:=l.foldl (ti id) ([],dF)
theorem ao6(id:Int):∀(l acc:LI),l.foldl (ti id) (acc,dY)=(acc++lZ l id,dY)
 |[],acc=>by simp[lZ]
 |x::r,acc=>by rw[Lw];by_cases h:x=id;{rw[show ti id (acc,dY) x=(acc,dY) by simp[ti,h],ao6 id r acc];simp[lZ,h]};{rw[show ti id (acc,dY) x=(acc++[x],dY) by simp[ti,h],ao6 id r (acc++[x])];simp[lZ,h]}
theorem dg9(l:LI)(id:Int):(if(FQ l id).2 then(FQ l id).1 else(FQ l id).1++[id])=me l id:=by
 have key:∀(l acc:LI),(if(l.foldl (ti id) (acc,dF)).2 then(l.foldl (ti id) (acc,dF)).1 else(l.foldl (ti id) (acc,dF)).1++[id])=acc++me l id:=by
  intro l
  induction l with
  |nil=>intro acc;simp[me]
  |cons x r ih=>
   intro acc;rw[Lw,me];by_cases h:id<=x;{by_cases e:x=id;{rw[show ti id (acc,dF) x=(acc++[id],dY) by simp[ti,e],ao6,aK h];simp[lZ,e]};{rw[show ti id (acc,dF) x=(acc++[id]++[x],dY) by simp[ti,e,h],ao6,aK h];simp[lZ,e]}};{have e:¬x=id:=af;rw[show ti id (acc,dF) x=(acc++[x],dF) by simp[ti,e,h],ih (acc++[x]),aJ h];simp}
 have:=key l [];rw[Eh]at this;exact this
theorem dg7{x id:Int}(i:l[k]?=x):FQ (jT (k+1) l) id=ti id (FQ (jT k l) id) x:=by
 rw[rD,i,FQ,VQ];rfl
theorem dg8{id:Int}{s:LI×Bool}:(ti id s x).1.length<=J s.1+2:=by
 unfold ti;split<;>split<;>simp
theorem bP8(id:Int):∀(l:LI)(s:LI×Bool),(l.foldl (ti id) s).1.length<=J s.1+2*J l
 |[],s=>al
 |x::r,s=>by have:=bP8 id r (ti id s x);have:=dg8 (id:=id) (s:=s) (x:=x);rw[Lw,mO];omega
theorem cl5{c n:Nat}(en:Le l n){id:Int}(h:kI w (.S p n c) l)(hl:Mg n):dQ dG 173 #[.S p n c,.U id] w λr w'=>∃p' c',r=dR (.S p' (J (me l id)) c')/\qJ (U (Q w)) w' (.S p' (J (me l id)) c') (me l id)/\Bw w w':=by
 have HR:=ai λ(w':G)(hb:Bw w w')=>h.H hb;go_in;go_wp2
 go_loopw[5,6,7](λov dv iv wr=>∃(k:Nat)(L:LI)(d:Bool),k<=n/\iv=.I k/\dv=jO d/\O (FQ (jT k l) id=(L,d))/\O (qJ (U (Q w)) wr ov L)/\O (Bw w wr)) (λ_ _ iv _=>n-(jN (intOf iv)))
 exact⟨0,[],dF,de _,rfl,rfl,di,(qJ.nil _ _),bD _ _⟩;{
 obtain⟨k,L,d,hk,rfl,rfl,hL,ho,N⟩:=hrel;obtain⟨W,cv,rfl⟩:=ho.form;have zr:=N.size;have wY:J L+1<2^22:=by have h1:=bP8 id (jT k l) ([],dF);have h2:=Rt k l;have h3:=ae hL;unfold FQ at h3;rw[h3]at h1;have:=ae en;simp only[BJ]at h1;omega
 by_cases aH:k<n;{
 have dm:=cM k n;obtain⟨x,hx⟩:∃x,l[k]?=Y x:=⟨_,bN (ae en▸aH)⟩;obtain⟨b,o,rfl,sk⟩:=(ae HR _ N).at hx;have cK:=dg7 (id:=id) hx;rw[ae hL]at cK;let⟨kJ,HX⟩:=aQ cK hx;have AP:∀(y:Int)(wz:G)(Lz:LI)(pz:OA)(cz:Nat),O (qJ (U (Q w)) wz (.S pz (J Lz) cz) Lz)->Bw w wz->Bw wz (jA wz (dO #[.U y] 27)):=λy wz Lz pz cz _ _=>cY;by_cases hd:d=dF/\id<=x;{
 obtain⟨rfl,hix⟩:=hd;have fx4:dD (id<=x):=by simpa using hix
 obtain⟨E,M⟩:∃E,O (E=L++[id]):=⟨_,rfl⟩;have lL1:=ai (by rw[ae M];simp:J E=J L+1);go_wp2_with(at_builtin;refine U6 rfl rfl (.S W (J L) cv) M (U (Q wr)) rfl rfl (qJ.H ho cY) al af bL ?_);intro p' c' w' X fx;let⟨b4,O2⟩:=aQ ((aj (ae N) (AP id wr L W cv ho N)).grown fx bL (λR e=>(ho.lt R e).1)) X;have z4:=b4.size;have fy6:I w' (Ad b (o+k))=dU x:=by let⟨R,o',e',gH⟩:=(ae HR _ b4).at HX;obtain⟨rfl,rfl⟩:=yr e';exact gH
 by_cases he:x=id;{subst he;have V:=ai (by have:=ae kJ;rw[ae M];simpa[ti]using this:FQ (jT (k+1) l) x=(E,dY));go_wp2;go_roundw;exact⟨k+1,E,dY,af,by go_num,rfl,V,O2,b4⟩;exact dy};{have V:=ai (by have:=ae kJ;rw[ae M];simpa[ti,he,hix]using this:FQ (jT (k+1) l) id=(E++[x],dY));obtain⟨L2,AG⟩:∃L2,O (L2=E++[x]):=⟨_,rfl⟩;rw[<-ae AG]at V;go_wp2_with(at_builtin;refine U6 rfl rfl (.S p' (J E) c') AG (U (Q w')) rfl rfl (qJ.H O2 cY) al (aM (ae lL1)) bL ?_);intro p'' c'' w'' o3 sY;go_wp2;go_roundw;exact⟨k+1,_,dY,af,by go_num,rfl,V,o3,(aj (ae b4) (AP x w' _ p' c' O2 b4)).grown sY bL (λR e=>(O2.lt R e).1)⟩;exact dy}};{
 have hdd:(!d&&dD (id<=x))=dF:=by cases d<;>simp_all
 have hd2:d=dY\/¬id<=x:=by cases d<;>simp_all
 by_cases he:x=id;{subst he;cases(hd2.resolve_right af:d);have V:=ai (by have:=ae kJ;simpa[ti]using this:FQ (jT (k+1) l) x=(L,dY));go_wp2;go_roundw;exact⟨k+1,L,dY,af,by go_num,rfl,V,ho,N⟩;exact dy};{
 have V:=ai (by have:=ae kJ;simpa[ti,he,hd]using this:FQ (jT (k+1) l) id=(L++[x],d));obtain⟨E,M⟩:∃E,O (E=L++[x]):=⟨_,rfl⟩;rw[<-ae M]at V;have hdq:d=dF->dD (id<=x)=dF:=λe=>by subst e;simpa using hd
 cases d;{go_wp2_with(at_builtin;refine U6 rfl rfl (.S W (J L) cv) M (U (Q wr)) rfl rfl (qJ.H ho cY) al af bL ?_);intro p' c' w' X fx;let⟨b4,O2⟩:=aQ ((aj (ae N) (AP x wr L W cv ho N)).grown fx bL (λR e=>(ho.lt R e).1)) X;go_wp2;go_roundw;exact⟨k+1,_,dF,af,by go_num,rfl,V,O2,b4⟩;exact dy};{go_wp2_with(at_builtin;refine U6 rfl rfl (.S W (J L) cv) M (U (Q wr)) rfl rfl (qJ.H ho cY) al af bL ?_);intro p' c' w' X fx;go_wp2;go_roundw;exact⟨k+1,_,dY,af,by go_num,rfl,V,X,(aj (ae N) (AP x wr L W cv ho N)).grown fx bL (λR e=>(ho.lt R e).1)⟩;exact dy}}}};{have dm:=ga k n;have gH:=ae hL;rw[nZ (by rw[ae en];omega)]at gH;have Z:=dg9 l id;rw[gH]at Z;cases d;{obtain⟨E,M⟩:∃E,O (E=L++[id]):=⟨_,rfl⟩;go_wp2_with(at_builtin;refine U6 rfl rfl (.S W (J L) cv) M (U (Q wr)) rfl rfl (qJ.H ho cY) al af bL ?_);intro p' c' w' X fx;go_wp2;go_ret;rw[(by rw[ae M];simpa using Z.C:me l id=E)];exact⟨_,_,rfl,X,(aj (ae N) ((bD (U (Q wr)) wr).alloc aU _)).grown fx bL (λR e=>(ho.lt R e).1)⟩};{go_wp2;go_ret;rw[(by simpa using Z.C:me l id=L)];exact⟨_,_,rfl,ho,N⟩}}}
def sA{α:Type}(f:α->α)(k:Nat)(xs:List α):List α:=(jT k xs).map f++jD k xs
theorem cF1{α:Type}(f:α->α){xs:List α}{x:α}(h:xs[k]?=x):(sA f k xs)[k]?=x:=by
 have i:=(bH.1 h).1;rw[sA,qT bL,iC,tz,ba8 af,NK];simpa using h
theorem cF0{α:Type}(f:α->α){xs:List α}{x:α}(h:xs[k]?=x):sA f (k+1) xs=(sA f k xs).set k (f x):=by
 let⟨i,e⟩:=bH.1 h;rw[sA,sA,rD,h,Zp _ _ bL,iC,tz,ba8 af,Ab,Lx i,RG,uk];simp
theorem cF2{α:Type}(f:α->α){xs:List α}(h:J xs<=k):sA f k xs=xs.map f:=by
 rw[sA,nZ h,ba7 h,Da]
theorem ex1{α:Type}(f:α->α)(k:Nat)(xs:List α):J (sA f k xs)=J xs:=by
 rw[sA,fe,iC,<-fe,JN]
theorem cR(w:G)(cs:iA)(ty:TypeId):∃W,W=jA w (dO cs ty)/\Bw w W/\U (Q W)=U (Q w)+1/\aT W (U (Q w)) cs.toList/\W.heap[U (Q w)]?=dO cs ty:=
 ⟨_,rfl,cY,al,aT.alloc w cs ty,by show(w.heap.push _)[U (Q w)]?=_;simp⟩
theorem aT.dt(h:aT w b vs)(j:w'.heap[b]?=w.heap[b]?):aT w' b vs:=
 ⟨λi v m=>(gG j _).Z (h.1 i v m),λo=>(Dg j).Z (h.2 o)⟩
def gL(w:G)(b:Nat)(v0 v1 v2 v3 v4 v5:dV):G:=jS (jS (jS (jS (jS (jS w (Ad b 0) v0) (Ad b 1) v1) (Ad b 2) v2) (Ad b 3) v3) (Ad b 4) v4) (Ad b 5) v5
theorem vE(b:Nat)(v0 v1 v2 v3 v4 v5:dV):Below b w (gL w b v0 v1 v2 v3 v4 v5):=
 ((((((bD b w).setCell (p:=(Ad b 0)) aU _).setCell (p:=(Ad b 1)) aU _).setCell (p:=(Ad b 2)) aU _).setCell (p:=(Ad b 3)) aU _).setCell (p:=(Ad b 4)) aU _).setCell (p:=(Ad b 5)) aU _
theorem qL(h:∃cur,w.heap[b]?=dO cur ty):(∃cur,(jS w (Ad b j) u).heap[b]?=dO cur ty)/\Fr [ty] w (jS w (Ad b j) u):=by
 obtain⟨cur,hc⟩:=h;refine⟨?_,Fr.set hc al⟩;simp only[World.setCell,Ac,qR,hc,JE];exact⟨_,rfl⟩
theorem xB(h:w.heap[b]?=dO cur ty):Fr [ty] w (gL w b v0 v1 v2 v3 v4 v5):=by
 have r:=qL (j:=0) (u:=v0) ⟨cur,h⟩;have q:=qL (j:=1) (u:=v1) r.1;have o:=qL (j:=2) (u:=v2) q.1;have m:=qL (j:=3) (u:=v3) o.1;have i:=qL (j:=4) (u:=v4) m.1;exact((((r.2.Z q.2).Z o.2).Z m.2).Z i.2).Z (qL (j:=5) (u:=v5) i.1).2
def Ut(Qs q:List dV)(N:Nat):Prop:=∀(i:Nat)(m:dV)(b:Nat),q[i]?=m->jB m=b->(∃(j:Nat)(o:dV),Qs[j]?=o/\jB o=b)\/N<=b
def cT8(Qs:List dV)(S:dV)(w w':G):Prop:=∀b,b<U (Q w)->(∀(i:Nat)(j:dV),Qs[i]?=j->jB j≠Y b)->jB S≠Y b->w'.heap[b]?=w.heap[b]?
def vN(id:Int)(ev:Ev)(s:aB):aB:=if s.1=id then(s.1,s.2.1,vg s.2.2 ev)else s
theorem eu3(ss:List aB)(id:Int)(ev:Ev):ss.map (vN id ev)=DJ ss id ev:=rfl
theorem et9(e g x t:Int)(p:OA)(n c:Nat)(q:OA)(m d:Nat)(ss:List aB)(Qs:List dV)(en:Le ss n)(id K:Int)(pe:OA)(ne ce:Nat)(P:LI)(eP:Le P ne)(B:Nat)(w:G)(hS:O (fh B w (.S p n c) ss Qs))(hP:O (TB w (.S pe ne ce) P))(hB:B<=U (Q w))(hn:Mg n)(aP:ne<=2^20):dQ dG 217 #[cO e g x t (.S p n c) (.S q m d),.U id,jP #[.I K,.S pe ne ce]] w λr w'=>r=dR (cO e g x t (.S p n c) (.S q m d))/\(∃uB,fh B w' (.S p n c) (DJ ss id (K,P)) uB/\Ut Qs uB (U (Q w)))/\cT8 Qs (.S p n c) w w'/\Fr [125,148] w w'/\Below B w w':=by
 let⟨ie,Ws,jk,fI,gv⟩:=mJ Tryz.infoEv;let⟨W0,cT,b0,z0,C0,T0⟩:=cR w #[.U e,.U g,.U x,.I t,.S p n c,.S q m d] 44;let⟨W1,fT,b1,z1,C1,T1⟩:=cR W0 #[.I K,.S pe ne ce] 125;let⟨W,hW,b2,z2,C2,T2⟩:=cR W1 #[.U 0,.U 0,.U 0,.I 0,ay,ay] 44;rw[z0]at C1 T1 z1;rw[z1]at C2 T2 z2;have bW:=aj (aj b0 b1) b2;have XP:=eG (((C0.H af b1).H af b2)) (C1.H af b2) C2;have Ng:=eG ((b2.block _ af).Z ((b1.block _ af).Z T0)) ((b2.block _ af).Z T1) T2;have PW:=ai (hP.T (cG bW));have HQ0:O (∀(i:Nat)(iZ:dV),Qs[i]?=Y iZ->∀b,jB iZ=Y b->b<U (Q w)):=λi iZ hq b hb=>by obtain⟨s,hs⟩:∃s,ss[i]?=Y s:=⟨_,bN (hS.len▸(bH.1 hq).1)⟩;exact((hS.vD i s iZ hs hq).lt b hb).2
 go_in;go_wp2;rw[<-cT,<-fT,<-hW]
 go_loopw[7](λiv wr=>∃(k:Nat)(Qk:List dV),k<=n/\iv=.I k/\U (Q W)<=U (Q wr)/\O (fh B wr (.S p n c) (sA (vN id (K,P)) k ss) Qk)/\O (Ut Qs Qk (U (Q W)))/\O (Fr [125,148] W wr)/\O (cT8 Qs (.S p n c) W wr)/\O (Below B W wr)) (pT n)
 exact⟨0,Qs,de _,rfl,fS _,(by show fh _ _ _ _ _;rw[show sA (vN id (K,P)) 0 ss=ss by simp[sA]];exact hS.T (cG bW)),(λi iZ b hq e=>.L ⟨i,iZ,hq,e⟩),Fr.refl _ _,(λb _ _ _=>rfl),bD _ _⟩;{
 obtain⟨k,Qk,hk,rfl,zr,qE,pM,mT,qF,ku⟩:=hrel;have hQe:O (∀(i:Nat)(iZ:dV),Qk[i]?=Y iZ->jB iZ≠Y (U (Q w)+1)):=λi iZ hq e=>by obtain⟨j,Q',hj,e'⟩|h:=ae pM i iZ _ hq e;{have:=ae HQ0 j Q' hj _ e';omega};{omega}
 have Kj:O (wr.heap[U (Q w)+1]?=W.heap[U (Q w)+1]?):=ae qF _ af (λi iZ hq e=>aM (ae HQ0 i iZ hq _ e)) (λe=>aM (ae (λb hb=>(hS.row.lt b hb).2) _ e));have wk:jY jV ((k:Int)+1)=((k+1:Nat):Int):=by rw[nW _ af];omega
 let⟨D0,D1,D2⟩:=gC (XP.1.dt ((mT.2 _ _ _ _ bf Ng.1).Z Ng.1.C)) (XP.2.1.dt Kj) (XP.2.2.dt ((mT.2 _ _ _ _ bf Ng.2.2).Z Ng.2.2.C));have s4:=D0.1 4 _ rfl;by_cases JY:k<n;{
 have ed0:=cM k n;obtain⟨⟨iI,Dl,qu⟩,hs⟩:∃s,ss[k]?=Y s:=⟨_,bN (ae en▸JY)⟩;have hf:=cF1 (vN id (K,P)) hs;obtain⟨iZ,hQ⟩:∃iZ,Qk[k]?=Y iZ:=⟨_,bN (by rw[qE.len,ex1,ae en];exact JY)⟩;have hz:((sA (vN id (K,P)) k ss).zip Qk)[k]?=Y ((iI,Dl,qu),iZ):=by rw[N8];exact⟨hf,hQ⟩
 obtain⟨y,rfl⟩:∃y,p=(Ad y 0):=by obtain⟨p',c',e',-,-,hp⟩:=qE.row.form;simp only[rE]at e';let⟨y,hg⟩:=hp (aM (bH.1 hz).1);exact⟨y,e'.1.Z hg⟩
 obtain⟨cs,-,iW,mR,SR⟩:=qE.row.at hz;unfold Fh at iW;subst iW;have r0:=mR 0 _ rfl;have r2:=mR 2 _ rfl;rw[Ek]at r0;have hq:=qE.vD k _ iZ hf hQ;obtain⟨pq,cq,rfl,qi,qn,-⟩:=hq.form;let⟨nq,vQ⟩:=bu (J qu);simp only at r0 r2 hq hQ hf qi;rw[vQ]at r2 qi hQ hq;have X:=gJ hQ hf hq vQ;have kJ:=ai (cF0 (vN id (K,P)) hs);clear mR hz hf hQ hq vQ hs;by_cases he:iI=id;{
 subst he;by_cases h7:nq<7;{
 have h7':(nq:Int)<7:=af;have E1:=ai (by rw[ae kJ];simp only[vN,qR,vg,X.2.2.2,h7]:sA (vN iI (K,P)) (k+1) ss=(sA (vN iI (K,P)) k ss).set k (iI,Dl,qu++[(K,P)]))
 go_wp21
 let⟨vA,br⟩:=aF wr.drew;have bM:=kH br;have zA:=bM.size;have N:O (∀v,Bw vA v->(I v (Aw w 4)=dK y n c/\I v (Ax w 0)=dI K/\I v (Ax w 1)=dS pe ne ce)/\I v (Ad y (k*3+2))=dS pq nq cq/\TB v (.S pe ne ce) P/\fh B v (.T y n c) (sA (vN iI (K,P)) k ss) Qk/\nF B v (.S pq nq cq) qu/\(∀o,jF v (Ad y o)=dF)/\v.heap[U (Q w)]?=wr.heap[U (Q w)]?/\v.heap[U (Q w)+1]?=wr.heap[U (Q w)+1]?/\Bw wr v):=λv hv=>by have V:Bw wr v:=aj bM hv;exact⟨⟨aq s4 V,aq (D1.1 0 _ rfl) V,aq (D1.1 1 _ rfl) V⟩,aq r2 V,((PW.T mT).T (cG V)),qE.T (cG V),X.2.2.1.T (cG V),λo=>(V.frozen (p:=(Ad y o)) ((qE.row.lt y rfl).2)).Z (SR o),V.block _ af,V.block _ af,V⟩
 have I8:O ((∃cur,wr.heap[U (Q w)]?=dO cur 44)/\∃cur,wr.heap[y]?=dO cur 148):=⟨⟨_,mT.2 _ _ _ _ bf Ng.1⟩,qE.row.vW y rfl⟩;refine fw (λw'=>I w' (Aw w 4)=dK y n c/\I w' (Ax w 0)=dI K/\I w' (Ax w 1)=dS pe ne ce) (br▸(ae N vA db).1) λhS=>?_;rw[<-br]at hS⊢;clear br bM r0 r2 s4;refine gr 0 1 2 3 4 5 6 7 hS ?_;refine iy 9 10 11 12 hS ?_;refine ry [8,13] ?_;refine cn (λM hK=>?_) ?_;rotate_left;refine cn (λM hK=>?_) ?_;rotate_left;exact fN;have cq:=(ae N _ db).2.1;go_simp;refine bS hK ((ae N _ db).1) λhS=>?_;clear hK M cq;refine ry [13] ?_;refine cn (λM hK=>?_) ?_;rotate_left;exact fN;rotate_right;refine ju (Dj eP (ae N _ db).2.2.1.1 af) ?_;rintro r v1⟨p6,c6,rfl,o6,je⟩;refine fE ?_;let⟨O6,B6⟩:=aQ o6 je;refine bS hK ((ae N v1 je).1) λhS=>?_;refine tn 14 hS ?_;refine ry [15] ?_;refine cn (λM hK=>?_) ?_;rotate_left;exact fN;rotate_right;go_simp;obtain⟨Z,hZ,bZ,zZ,CZ,-⟩:=cR v1 #[.I K,.S p6 ne c6] 125;rw[<-hZ];let⟨BZ,FB,TZ⟩:=gC (aj B6 bZ) CZ ((O6.tc (B:=B) af).T (cG bZ));refine bS hK ((ae N Z BZ).1) λhS=>?_;rotate_left;refine ju (Dj eP (ae N _ db).2.2.1.1 af) ?_;rintro r v1⟨p6,c6,rfl,o6,je⟩;refine fE ?_;let⟨O6,B6⟩:=aQ o6 je;refine bS hK ((ae N v1 je).1) λhS=>?_;refine tn 14 hS ?_;refine ry [8,15] ?_;refine cn (λM hK=>?_) ?_;rotate_left;refine cn (λM hK=>?_) ?_;rotate_left;exact fN;rotate_left;have cq:=(ae N _ B6).2.1;go_simp;refine bS hK ((ae N _ B6).1) λhS=>?_;clear hK M cq;refine ry [15] ?_;refine cn (λM hK=>?_) ?_;rotate_left;exact fN;rotate_right;go_simp;obtain⟨Z,hZ,bZ,zZ,CZ,-⟩:=cR v1 #[.I K,.S p6 ne c6] 125;rw[<-hZ];let⟨BZ,FB,TZ⟩:=gC (aj B6 bZ) CZ ((O6.tc (B:=B) af).T (cG bZ));refine bS hK ((ae N Z BZ).1) λhS=>?_;clear hK M hZ bZ CZ;rotate_left;go_simp;obtain⟨Z,hZ,bZ,zZ,CZ,-⟩:=cR v1 #[.I K,.S p6 ne c6] 125;rw[<-hZ];let⟨BZ,FB,TZ⟩:=gC (aj B6 bZ) CZ ((O6.tc (B:=B) af).T (cG bZ));refine bS hK ((ae N Z BZ).1) λhS=>?_;clear hK M hZ bZ CZ;refine ry [8] ?_;refine cn (λM hK=>?_) ?_;rotate_left;exact fN;rotate_right;have cq:=(ae N _ BZ).2.1;go_simp;refine bS hK ((ae N _ BZ).1) λhS=>?_;clear hK M cq
 all_goals(
  obtain⟨-,r2,-,SZ,sq,fz,Yk,Yj,wZ⟩:=ae N Z BZ;let⟨cs,g1,g2,g3,g4⟩:=id sq;rw[X.2.2.2]at g3;have zZ2:=BZ.size;refine ry [16] ?_;refine cn (λM hK=>?_) ?_;rotate_left;exact fN;rotate_right;refine Ve aY aY ie 2 underlying48 Ws jk fI gv rfl bf aY g3 (g:=U (Q v1)) 1 1 [.I K,.S p6 ne c6] aY rfl (λj u hu=>FB.1 j u hu) (λu hu=>by simp at hu;obtain rfl|rfl:=hu<;>rfl) kW af af ?_;intro v' w9 gF hg il;have f9:Fr [125] Z w9:=Fr.grown hg λb hb=>by let⟨cur,hc⟩:=sq.vW b hb;exact⟨cur,_,hc,al⟩
  have Li:nF B w9 v' (qu++[(K,P)]):=RT.snoc g1 g2 g4 (MH.T f9 bf) ⟨_,rfl,TZ⟩ rfl (X.2.2.2▸gF);have Cc:∀b,jB (Value.slice pq nq cq)=Y b->b≠U (Q w)/\b≠U (Q w)+1/\b≠y:=λb hb=>by let⟨cur,hc⟩:=sq.vW b hb;refine⟨λe=>?_,λe=>?_,λe=>?_⟩;{let⟨GP,gH⟩:=I8.1;rw[e,Yk,gH]at hc;simp at hc};{exact hQe k _ X.1 (e▸hb)};{let⟨GP,gH⟩:=I8.2;rw[e,(wZ.block y (uS gH)),gH]at hc;simp at hc}
  have k1:w9.heap[U (Q w)+1]?=Z.heap[U (Q w)+1]?:=hg.block _ af (λe=>(Cc _ e.C).2.1 rfl);have kg:w9.heap[y]?=Z.heap[y]?:=hg.block _ ((SZ.row.lt y rfl).2) (λe=>(Cc _ e.C).2.2 rfl);obtain⟨pN,cN,rfl,-⟩:=Li.form;have lN:J (qu++[(K,P)])=nq+1:=by rw[fe,X.2.2.2];rfl
  rw[lN]at Li il gF⊢;let⟨ST,FT⟩:=fh.ao9 SZ X.2.1 X.1 Li hg il;have TU2:=bG ST FT;have r9:=(gG kg _).Z r2;have f9z:∀o,jF w9 (Ad y o)=dF:=λo=>(Dg kg).Z (fz o);have B9:=ai ((ku.Z (wZ.h af)).grown hg af (λb hb=>(sq.lt b hb).1));have XI:=gJ il Cc k1 Yj;have sZ:y≠U (Q w)/\y≠U (Q w)+1:=⟨λe=>by
   let⟨cur,hc⟩:=I8.1;let⟨GP,gH⟩:=I8.2;rw[e,hc]at gH;simp at gH,λe=>by
   let⟨GP,gH⟩:=I8.2;rw[e,ae Kj,Ng.2.1]at gH;simp at gH⟩
  have z9:=hg.size;have lg:=(SZ.row.lt y rfl).1;refine bS hK ⟨(gG (hg.block _ af (λe=>(Cc _ e.C).1 rfl)) _).Z hS.1,(gG k1 _).Z hS.2.1,(gG k1 _).Z hS.2.2⟩ λhS=>?_;clear hK M gF il g1 g2 g3 g4 f9 sq Li Cc k1 kg ST FT SZ r2 fz Yk Yj lN;refine fu 17 18 hS ?_;refine ry [19] ?_;refine cn (λM hK=>?_) ?_;rotate_left;exact fN;rotate_right;go_simp;refine bS hK ⟨(gG (gh _ _ _ _ (JF sZ.1)) _).Z hS.1,(gG (gh _ _ _ _ (JF sZ.2)) _).Z hS.2.1,(gG (gh _ _ _ _ (JF sZ.2)) _).Z hS.2.2⟩ λhS=>?_;clear hK M r9 f9z;refine fQ ?_;clear hS;go_wp2;go_roundw
  case rel=>exact⟨k+1,Qk.set k (.S pN (nq+1) cN),af,by go_num,bL,(by show fh _ _ _ _ _;rw[ae E1];exact TU2.1),(λi iZ b hq e=>by
   rw[vG]at hq;split at hq;{split at hq;{cases hq;obtain e2|e2:=XI.1 _ e;{exact pM k _ _ X.1 e2};{exact .R af}};{cases hq}};{exact pM i iZ b hq e}),(mT.Z (Fr.H wZ)).Z TU2.2,(λb hb hq hp=>by
   exact(gh _ _ _ _ (λe=>hp (by rw[e];rfl))).Z ((hg.block b af (λe=>by obtain⟨j,Q',hj,e'⟩|h:=ae pM k _ _ X.1 e.C;{exact hq j Q' hj e'};{omega})).Z ((wZ.block b af).Z (ae qF b hb hq hp)))),B9.setCell lg _⟩
  case measure=>simp[intOf];omega)}
 {
 have h7':¬(nq:Int)<7:=af;by_cases h8:nq=7;{
 have Ts:((nq:Int)==7):=by simp;omega
 have E1:=ai (by rw[ae kJ];simp[vN,vg,X.2.2.2,h8]:sA (vN iI (K,P)) (k+1) ss=(sA (vN iI (K,P)) k ss).set k (iI,Dl,qu++[(4,[])]));have hnq:nq<=7:=af;clear h8
 go_wp21
 let⟨vA,br⟩:=aF wr.drew;have bM:=kH br;have zA:=bM.size;have N:O (∀v,Bw vA v->(I v (Aw w 4)=dK y n c/\I v (Ax w 0)=dI K/\I v (Ax w 1)=dS pe ne ce)/\I v (Ad y (k*3+2))=dS pq nq cq/\TB v (.S pe ne ce) P/\fh B v (.T y n c) (sA (vN iI (K,P)) k ss) Qk/\nF B v (.S pq nq cq) qu/\(∀o,jF v (Ad y o)=dF)/\v.heap[U (Q w)]?=wr.heap[U (Q w)]?/\v.heap[U (Q w)+1]?=wr.heap[U (Q w)+1]?/\Bw wr v):=λv hv=>by have V:Bw wr v:=aj bM hv;exact⟨⟨aq s4 V,aq (D1.1 0 _ rfl) V,aq (D1.1 1 _ rfl) V⟩,aq r2 V,((PW.T mT).T (cG V)),qE.T (cG V),X.2.2.1.T (cG V),λo=>(V.frozen (p:=(Ad y o)) ((qE.row.lt y rfl).2)).Z (SR o),V.block _ af,V.block _ af,V⟩
 have I8:O ((∃cur,wr.heap[U (Q w)]?=dO cur 44)/\∃cur,wr.heap[y]?=dO cur 148):=⟨⟨_,mT.2 _ _ _ _ bf Ng.1⟩,qE.row.vW y rfl⟩;refine fw (λw'=>I w' (Aw w 4)=dK y n c/\I w' (Ax w 0)=dI K/\I w' (Ax w 1)=dS pe ne ce) (br▸(ae N vA db).1) λhS=>?_;rw[<-br]at hS⊢;clear br bM r0 r2 s4;refine gr 0 1 2 3 4 5 6 7 hS ?_;refine tn 9 hS ?_;refine ry [8,10] ?_;refine cn (λM hK=>?_) ?_;rotate_left;refine cn (λM hK=>?_) ?_;rotate_left;exact fN;have cq:=(ae N _ db).2.1;go_simp;refine bS hK ((ae N _ db).1) λhS=>?_;clear hK M cq;refine ry [10] ?_;refine cn (λM hK=>?_) ?_;rotate_left;exact fN;rotate_right;go_simp;obtain⟨Z,hZ,bZ,zZ,CZ,-⟩:=cR vA #[.I 4,ay] 125;rw[<-hZ];let⟨BZ,FB,TZ⟩:=gC (bZ) CZ (TC.nil (B:=B) Z);refine bS hK ((ae N Z BZ).1) λhS=>?_;clear hK M hZ bZ CZ;rotate_left;go_simp;obtain⟨Z,hZ,bZ,zZ,CZ,-⟩:=cR vA #[.I 4,ay] 125;rw[<-hZ];let⟨BZ,FB⟩:=aQ (bZ) CZ;refine bS hK ((ae N Z BZ).1) λhS=>?_;clear hK M hZ bZ CZ;refine ry [8] ?_;refine cn (λM hK=>?_) ?_;rotate_left;exact fN;rotate_right;have cq:=(ae N _ BZ).2.1;go_simp;refine bS hK (by exact(ae N _ BZ).1) λhS=>?_;clear hK M cq
 all_goals(
  obtain⟨-,r2,-,SZ,sq,fz,Yk,Yj,wZ⟩:=ae N Z BZ;let⟨cs,g1,g2,g3,g4⟩:=id sq;rw[X.2.2.2]at g3;refine ry [11] ?_;refine cn (λM hK=>?_) ?_;rotate_left;exact fN;rotate_right;refine Ve aY aY ie 2 underlying48 Ws jk fI gv rfl bf aY g3 (g:=U (Q vA)) 1 1 [.I 4,ay] aY rfl (λj u hu=>FB.1 j u hu) (λu hu=>by simp at hu;obtain rfl|rfl:=hu<;>rfl) kW af af ?_;intro v' w9 gF hg il;have f9:Fr [125] Z w9:=Fr.grown hg λb hb=>by let⟨cur,hc⟩:=sq.vW b hb;exact⟨cur,_,hc,al⟩
  have Li:nF B w9 v' (qu++[(4,[])]):=RT.snoc g1 g2 g4 (MH.T f9 bf) ⟨_,rfl,(TC.nil (B:=B) Z)⟩ rfl (X.2.2.2▸gF);have Cc:∀b,jB (Value.slice pq nq cq)=Y b->b≠U (Q w)/\b≠U (Q w)+1/\b≠y:=λb hb=>by let⟨cur,hc⟩:=sq.vW b hb;refine⟨λe=>?_,λe=>?_,λe=>?_⟩;{let⟨GP,gH⟩:=I8.1;rw[e,Yk,gH]at hc;simp at hc};{exact hQe k _ X.1 (e▸hb)};{let⟨GP,gH⟩:=I8.2;rw[e,(wZ.block y (uS gH)),gH]at hc;simp at hc}
  have k1:w9.heap[U (Q w)+1]?=Z.heap[U (Q w)+1]?:=hg.block _ af (λe=>(Cc _ e.C).2.1 rfl);have kg:w9.heap[y]?=Z.heap[y]?:=hg.block _ ((SZ.row.lt y rfl).2) (λe=>(Cc _ e.C).2.2 rfl);obtain⟨pN,cN,rfl,-⟩:=Li.form;have lN:J (qu++[(4,[])])=nq+1:=by rw[fe,X.2.2.2];rfl
  rw[lN]at Li il gF⊢;let⟨ST,FT⟩:=fh.ao9 SZ X.2.1 X.1 Li hg il;have TU2:=bG ST FT;have r9:=(gG kg _).Z r2;have f9z:∀o,jF w9 (Ad y o)=dF:=λo=>(Dg kg).Z (fz o);have B9:=ai ((ku.Z (wZ.h af)).grown hg af (λb hb=>(sq.lt b hb).1));have XI:=gJ il Cc k1 Yj;have sZ:y≠U (Q w)/\y≠U (Q w)+1:=⟨λe=>by
   let⟨cur,hc⟩:=I8.1;let⟨GP,gH⟩:=I8.2;rw[e,hc]at gH;simp at gH,λe=>by
   let⟨GP,gH⟩:=I8.2;rw[e,ae Kj,Ng.2.1]at gH;simp at gH⟩
  have z9:=hg.size;have lg:=(SZ.row.lt y rfl).1;refine bS hK ⟨(gG (hg.block _ af (λe=>(Cc _ e.C).1 rfl)) _).Z hS.1,(gG k1 _).Z hS.2.1,(gG k1 _).Z hS.2.2⟩ λhS=>?_;clear hK M gF il g1 g2 g3 g4 f9 sq Li Cc k1 kg ST FT SZ r2 fz Yk Yj lN;refine fu 12 13 hS ?_;refine ry [14] ?_;refine cn (λM hK=>?_) ?_;rotate_left;exact fN;rotate_right;go_simp;refine bS hK ⟨(gG (gh _ _ _ _ (JF sZ.1)) _).Z hS.1,(gG (gh _ _ _ _ (JF sZ.2)) _).Z hS.2.1,(gG (gh _ _ _ _ (JF sZ.2)) _).Z hS.2.2⟩ λhS=>?_;clear hK M r9 f9z;refine fQ ?_;clear hS;go_wp2;go_roundw
  case rel=>exact⟨k+1,Qk.set k (.S pN (nq+1) cN),af,by go_num,bL,(by show fh _ _ _ _ _;rw[ae E1];exact TU2.1),(λi iZ b hq e=>by
   rw[vG]at hq;split at hq;{split at hq;{cases hq;obtain e2|e2:=XI.1 _ e;{exact pM k _ _ X.1 e2};{exact .R af}};{cases hq}};{exact pM i iZ b hq e}),(mT.Z (Fr.H wZ)).Z TU2.2,(λb hb hq hp=>by
   exact(gh _ _ _ _ (λe=>hp (by rw[e];rfl))).Z ((hg.block b af (λe=>by obtain⟨j,Q',hj,e'⟩|h:=ae pM k _ _ X.1 e.C;{exact hq j Q' hj e'};{omega})).Z ((wZ.block b af).Z (ae qF b hb hq hp)))),B9.setCell lg _⟩
  case measure=>simp[intOf];omega)}
 {
 have Ts:((nq:Int)==7)=dF:=by simp;omega
 go_wp2;go_roundw;exact⟨k+1,Qk,af,by go_num,zr,(by show fh _ _ _ _ _;rw[(by rw[ae kJ];simp only[vN,qR,vg,X.2.2.2,h7,h8,BK];exact Js X.2.1:sA (vN iI (K,P)) (k+1) ss=sA (vN iI (K,P)) k ss)];exact ae qE),pM,mT,qF,ku⟩;exact dy}}};{
 have hee:(iI != id):=by simpa using he
 go_wp2;go_roundw;exact⟨k+1,Qk,af,by go_num,zr,(by show fh _ _ _ _ _;rw[(by rw[ae kJ];simp only[vN,he,BK];exact Js X.2.1:sA (vN id (K,P)) (k+1) ss=sA (vN id (K,P)) k ss)];exact ae qE),pM,mT,qF,ku⟩;exact dy}};{
 have ed0:=ga k n;have SF:=ae qE;rw[cF2 _ (by rw[ae en];omega),eu3]at SF
 change O _ at SF
 let⟨K0,kf⟩:=ae D0;let⟨R0,rf⟩:=ae D2;let⟨k0,k1,k2,k3⟩:=eX2 K0;have k5:=K0 5 _ rfl;let⟨q0,q1,q2,q3,q4,q5⟩:=Cv R0;clear K0 R0;go_wp2;have xk:Below (U (Q w)+1+1) wr (gL wr (U (Q w)+1+1) (.U e) (.U g) (.U x) (.I t) (.S p n c) (.S q m d)):=vE _ _ _ _ _ _ _;refine cX (v:=cO e g x t (.S p n c) (.S q m d)) (by simp[results,results217,go_sem,q0,q1,q2,q3,q4,q5]) rfl ?_;refine⟨rfl,⟨_,SF.T (xB (v0:=.U e) (v1:=.U g) (v2:=.U x) (v3:=.I t) (v4:=.S p n c) (v5:=.S q m d) (mT.2 _ _ _ _ bf Ng.2.2)),(λi iZ b hq e=>by obtain h|h:=ae pM i iZ b hq e;{exact .L h};{exact .R af})⟩,(λb hb hq hp=>(xk.block b af).Z ((ae qF b af hq hp).Z (bW.block b hb))),⟨gq af xk.size,λb cur ty m' ht hb=>(xk.block b (aM (uS hb))).Z (mT.2 b cur ty m' ht ((bW.block b (uS hb)).Z hb))⟩,((bW.h hB).Z ku).Z (xk.h af)⟩}}
theorem cc5{q o m j i o5:dV}(h:aT w b [q,o,m,j,i,o5]):aT (gL w b v0 v1 v2 v3 v4 v5) b [v0,v1,v2,v3,v4,v5]:=
 (((((h.ew 0 al v0).ew 1 al v1).ew 2 al v2).ew 3 al v3).ew 4 al v4).ew 5 al v5
theorem as3(h:aT w b' vs)(i:b'≠b):aT (gL w b v0 v1 v2 v3 v4 v5) b' vs:=
 (((((h.py (a:=(Ad b 0)) i v0).py (a:=(Ad b 1)) i v1).py (a:=(Ad b 2)) i v2).py (a:=(Ad b 3)) i v3).py (a:=(Ad b 4)) i v4).py (a:=(Ad b 5)) i v5
theorem Vq:U (Q (gL w b v0 v1 v2 v3 v4 v5))=U (Q w):=by simp[gL]
theorem Hp(i:b'≠b):(gL w b v0 v1 v2 v3 v4 v5).heap[b']?=w.heap[b']?:=by
 unfold gL
 iterate 6 rw[gh _ _ _ _ (show b'≠_ from i)]
theorem as2(h:∃cur,w.heap[b]?=dO cur ty):∃cur,(gL w b v0 v1 v2 v3 v4 v5).heap[b]?=dO cur ty:=
 (qL (qL (qL (qL (qL (qL h).1).1).1).1).1).1
theorem Ut.Z{m o:List dV}{N:Nat}(h:Ut Qs m N)(u:Ut m o M)(B:N<=M):Ut Qs o N:=λi q b hq s=>by
 obtain⟨j,y,r,x⟩|D:=u i q b hq s;{exact h j y b r x};{exact .R af}
theorem du.at{n c:Nat}(h:du B0 B w (.S p n c) ns)(m:ns[i]?=nd):∃g P V H iU,p=(Ad g 0)/\n=J ns/\n<=c/\I w (Ad g (i*8))=Y P/\I w (Ad g (i*8+1))=Y V/\I w (Ad g (i*8+2))=dU nd.D/\I w (Ad g (i*8+3))=dI nd.M/\I w (Ad g (i*8+4))=Y H/\I w (Ad g (i*8+5))=dU nd.P/\I w (Ad g (i*8+6))=dU nd.F/\I w (Ad g (i*8+7))=Y iU/\TC B0 w P nd.A/\TC B0 w V nd.V/\TU B0 w H nd.y/\TU B0 w iU nd.X/\∀o,jF w (Ad g o)=dF:=by
 obtain⟨D,E,e,hc,-,r⟩:=h.form;obtain⟨rfl,rfl,rfl⟩:=mh e;obtain⟨g,rfl⟩:=r (aM (bH.1 m).1);obtain⟨cs,-,⟨P,V,H,iU,rfl,y,x,u,s⟩,j,hf⟩:=RT.at h m;exact⟨g,P,V,H,iU,rfl,rfl,hc,j 0 _ rfl,j 1 _ rfl,j 2 _ rfl,j 3 _ rfl,j 4 _ rfl,j 5 _ rfl,j 6 _ rfl,j 7 _ rfl,y,x,u,s,hf⟩
theorem TB.fq(h:TB w v l):∃p c,v=.S p (J l) c:=by
 obtain⟨⟨p,c,e,-⟩,-⟩:=h;exact⟨p,c,e⟩
theorem du.QT(h:du B0 B w v ns):iw w v ns:=by
 obtain⟨p,c,rfl,-,-,r⟩:=RT.form h;refine⟨p,c,rfl,?_⟩;by_cases m:ns=[];{exact .L m};{obtain⟨g,rfl⟩:=r (NS.2 m);refine .R ⟨g,0,rfl,λi S s=>?_⟩;obtain⟨W,P,V,H,iU,e,-,-,R,N,M,E,D,y,x,u,j,tV,q,o,-⟩:=du.at h s;obtain⟨rfl,-⟩:=yr e;rw[nY];exact⟨P,V,H,iU,R,N,M,E,D,y,x,u,j.1,tV.1,q.1,o.1,j.2.2⟩}
theorem TU.fq(h:TU B w v l):∃p c,v=.S p (J l) c:=by
 obtain⟨⟨p,c,e,-⟩,-⟩:=h;exact⟨p,c,e⟩
theorem eu0(ss:List aB)(id:Int)(ev:Ev):J (DJ ss id ev)=J ss:=by simp[DJ]
theorem Yh(ids:LI)(ev:Ev):∀ss:List aB,J (yz ss ids ev)=J ss:=by
 unfold yz
 induction ids with
 |nil=>intro ss;rfl
 |cons a r ih=>intro ss;rw[Lw,ih,eu0]
theorem bR7{ev:Ev}{id:Int}(h:ids[k]?=id):yz ss (jT (k+1) ids) ev=DJ (yz ss (jT k ids) ev) id ev:=by
 rw[yz,rD,h,VQ];rfl
theorem ap4(e g x t:Int){n c:Nat}(en:Le ss n)(kd:Int)(nd:au)(hk:O (ns[k]?=nd))(B:Nat)(w:G)(hS:O (fh B w (.S p n c) ss Qs))(hN:O (ld B w (.S q m d) ns))(hB:B<=U (Q w))(hn:Mg n)(hm:Mg m)(hp:J nd.A<=2^20)(hw:J nd.X<=2^20):dQ dG 166 #[cO e g x t (.S p n c) (.S q m d),.I k,.I kd] w λr w'=>r=dR (cO e g x t (.S p n c) (.S q m d))/\(∃uB,fh B w' (.S p n c) (yz ss nd.X (kd,nd.A)) uB)/\ld B w' (.S q m d) (ns.set k {nd with X:=[]})/\Fr [125,148,149] w w'/\Below B w w':=by
 obtain⟨gn,Pv,Vv,Hv,Uv,rfl,em,hmd,c0,-,-,-,-,-,-,c7,tP,-,-,tU,vx⟩:=du.at hN hk;have hkm:k<m:=by rw[em];exact(bH.1 hk).1
 have ay9:=cM k m;clear em;obtain⟨pe,ce,rfl⟩:=tP.fq;obtain⟨pu,cu,rfl⟩:=tU.fq;let⟨ne,eP⟩:=cg (J nd.A);let⟨nu,eU⟩:=cg (J nd.X);rw[ae eP]at hp tP c0;rw[ae eU]at hw tU c7;have Gy:gn<U (Q w):=(hN.lt gn rfl).2;let⟨W0,cT,b0,z0,C0,T0⟩:=cR w #[.U e,.U g,.U x,.I t,.S p n c,.T gn m d] 44;let⟨W1,fT,b1,z1,C1,T1⟩:=cR W0 #[.U 0,.U 0,.U 0,.I 0,ay,ay] 44;let⟨W2,fW,b2,z2,C2,T2⟩:=cR W1 #[.I kd,.S pe ne ce] 125;rw[z0]at C1 T1 z1;rw[z1]at C2 T2 z2;have bW:=aj (aj b0 b1) b2;have k0:=λ(ob o2:Obj)=>aq (aq c0 ((bD _ w).alloc aU ob)) (db.alloc aU o2);have k7:=λ(ob o2 o3:Obj)=>aq (aq (aq c7 ((bD _ w).alloc aU ob)) (db.alloc aU o2)) (db.alloc aU o3);have kz:=λ(ob o2 o3:Obj)=>((((((bD (U (Q w)) w).alloc aU ob).alloc al o2).alloc bL o3)).frozen (p:=(Ad gn (k*8+7))) Gy).Z (vx _);have NW:=hN.T (cG bW);let⟨NX,FX⟩:=du.put NW hk (j:=7) af ay {nd with X:=[]} (λw' P V H iU h1 h2 h3 h4 _=>⟨P,V,H,ay,rfl,h1,h2,h3,TU.nil _⟩);let⟨X,hX⟩:=aF (jS W2 (Ad gn (k*8+7)) ay);rw[<-hX]at NX FX;have SX:=(hS.T (cG bW)).T FX;have aP:∀b,U (Q w)<=b->X.heap[b]?=W2.heap[b]?:=λb hb=>by rw[hX];exact gh _ _ _ _ (by show b≠gn;omega)
 have HX:=gJ NX SX (tU.T (cG bW) bf |>.T FX) (tP.tb.T (cG bW) bf |>.T FX);have HC:=eG (((C0.H af b1).H af b2).dt (aP _ aU)) ((C1.H af b2).dt (aP _ af)) (C2.dt (aP _ af));have HT:=eG ((aP _ aU).Z ((b2.block _ af).Z ((b1.block _ af).Z T0))) ((aP _ af).Z ((b2.block _ af).Z T1)) ((aP _ af).Z T2);have BX:Below B w X:=hX▸(bW.h hB).setCell (hN.lt gn rfl).1 _;have zX:U (Q X)=U (Q w)+3:=by rw[hX];simp;omega
 have HQ0:O (∀(i:Nat)(iZ:dV),Qs[i]?=Y iZ->∀b,jB iZ=Y b->b<U (Q w)):=λi iZ hq b hb=>by obtain⟨s,hs⟩:∃s,ss[i]?=Y s:=⟨_,bN (hS.len▸(bH.1 hq).1)⟩;exact((hS.vD i s iZ hs hq).lt b hb).2
 have HP0:O (∀b,jB (Value.slice p n c)=Y b->b<U (Q w)):=λb hb=>(hS.row.lt b hb).2;clear b0 b1 b2 C0 C1 C2 T0 T1 T2 NX SX NW aP c0 c7 vx tP tU;go_in;go_wp2;rw[<-cT,<-fT,<-fW,<-hX];clear cT fT fW hX k0 k7 kz;have lG:∀(vs:iA)(w:G),(callFunc 217 vs).run dG w=.ok (.enter 217 vs) w:=λvs w=>aS
 change O _ at lG
 go_loopw[9](λiv wr=>∃(i:Nat)(Qk:List dV),i<=nu/\iv=.I i/\U (Q X)<=U (Q wr)/\O (fh B wr (.S p n c) (yz ss (jT i nd.X) (kd,nd.A)) Qk)/\O (ld B wr (.T gn m d) (ns.set k {nd with X:=[]}))/\O (TU B wr (.S pu nu cu) nd.X/\TB wr (.S pe ne ce) nd.A)/\O (Ut Qs Qk (U (Q X)))∧
  O (aT wr (U (Q w)) [.U e,.U g,.U x,.I t,.S p n c,.T gn m d]/\aT wr (U (Q w)+1) [.U 0,.U 0,.U 0,.I 0,ay,ay]/\aT wr (U (Q w)+2) [.I kd,.S pe ne ce])∧
  O ((∃cur,wr.heap[U (Q w)]?=dO cur 44)/\(∃cur,wr.heap[U (Q w)+1]?=dO cur 44))/\O (Fr [125,148,149] w wr)/\O (Below B w wr)) (pT nu)
 exact⟨0,Qs,de _,rfl,fS _,(by show fh _ _ _ _ _;exact HX.2.1),HX.1,HX.2.2,(λi iZ b hq hb=>.L ⟨i,iZ,hq,hb⟩),HC,⟨⟨_,HT.1⟩,⟨_,HT.2.1⟩⟩,(Fr.H bW).Z (FX.sub al),BX⟩;{
 obtain⟨i,Qk,hi,rfl,zr,qE,Ck,hU,hQO,td,hTk,mT,ku⟩:=hrel;have wi:jY jV ((i:Int)+1)=((i+1:Nat):Int):=by rw[nW _ af];omega
 by_cases gi:i<nu;{
 have ab6:=cM i nu;obtain⟨id,hid⟩:∃id,nd.X[i]?=Y id:=⟨_,bN (ae eU▸gi)⟩;obtain⟨bw,ow,rfl,Ta⟩:=hU.1.1.at hid;have E1:=ai (bR7 (ss:=ss) (ev:=(kd,nd.A)) hid);clear hid;let⟨vA,br⟩:=aF wr.drew;have bM:=kH br;have zA:=bM.size;have CA:=eG (td.1.H af bM) (td.2.1.H af bM) (td.2.2.H af bM);have UA:=bG (hU.1.T (cG bM)) (hU.2.T (cG bM));have NA:=ai (Ck.T (cG bM));have TA:=bG (hTk.1.imp λcur h=>(bM.block _ af).Z h) (hTk.2.imp λcur h=>(bM.block _ af).Z h);let⟨FA,BA⟩:=aQ (mT.Z (Fr.H bM)) (ku.Z (bM.h (aM ku.size)));have HG:=ai (et9 e g x t p n c (Ad gn 0) m d _ Qk (ai (by rw[Yh,ae en])) id kd pe ne ce nd.A eP B vA (qE.T (cG bM)) UA.2 (aM BA.size) hn hp)
 go_wp21
 refine fw (λw'=>I w' (Aw w 0)=dU e/\I w' (Aw w 1)=dU g/\I w' (Aw w 2)=dU x/\I w' (Aw w 3)=dI t/\I w' (Aw w 4)=dS p n c/\I w' (Aw w 5)=dK gn m d/\I w' (Ad (U (Q w)+2) 0)=dI kd/\I w' (Ad (U (Q w)+2) 1)=dS pe ne ce/\I w' (Ad bw (ow+i))=dU id) (by rw[<-br];exact⟨CA.1.1 0 _ rfl,CA.1.1 1 _ rfl,CA.1.1 2 _ rfl,CA.1.1 3 _ rfl,CA.1.1 4 _ rfl,CA.1.1 5 _ rfl,CA.2.2.1 0 _ rfl,CA.2.2.1 1 _ rfl,aq Ta bM⟩) λhS=>?_;rw[<-br]at hS⊢;clear br bM Ta;refine iy 0 1 2 3 hS ?_;refine fu 4 5 hS ?_;refine fy 6 λKK hK=>?_;refine do4 aY 217 _ _ _ _ aY (cO e g x t (.S p n c) (.T gn m d)) (.U id) (jP #[.I kd,.S pe ne ce]) aY aY aY (λ_=>ae lG _ _) HG ?_;rintro r v1⟨rfl,⟨Q1,WC,JS⟩,ac1,uR,az⟩;refine fE ?_;have kb:v1.heap[U (Q w)+2]?=vA.heap[U (Q w)+2]?:=ac1 _ af (λj iZ hq e=>by obtain⟨j',Q',hj,e'⟩|h:=ae hQO j iZ _ hq e;{have:=ae HQ0 j' Q' hj _ e';omega};{omega}) (λe=>aM (ae HP0 _ e))
 let⟨⟨cu0,t0⟩,⟨cu1,t1⟩⟩:=ae TA;have t0':=uR.2 _ _ _ _ bf t0;have t1':=uR.2 _ _ _ _ bf t1;have C1:=eG (CA.1.dt (t0'.Z t0.C)) (CA.2.1.dt (t1'.Z t1.C)) (CA.2.2.dt kb);have U1:=bG (UA.1.T uR) (UA.2.T uR);let⟨N1,S1⟩:=aQ (NA.T uR) WC;have T1:=bG t0' t1';let⟨Q1',F1,B1⟩:=gC (hQO.Z JS af) (FA.Z (uR.sub al)) (BA.Z az);have z1:=az.size;have Ta:I v1 (Ad bw (ow+i))=dU id:=by exact(gG (by let⟨cur,hc⟩:=UA.1.2.1 bw rfl;exact(uR.2 _ _ _ _ bf hc).Z hc.C) _).Z hS.2.2.2.2.2.2.2.2
 refine bS hK ⟨C1.1.1 0 _ rfl,C1.1.1 1 _ rfl,C1.1.1 2 _ rfl,C1.1.1 3 _ rfl,C1.1.1 4 _ rfl,C1.1.1 5 _ rfl,C1.2.2.1 0 _ rfl,C1.2.2.1 1 _ rfl,Ta⟩ λhS=>?_;clear hK KK WC JS ac1 uR az kb t0 t1 t0' t1' Ta;refine fy 7 λKK hK=>?_;have vx:=C1.1.2;go_simp;let⟨v2,sa⟩:=aF (gL v1 (U (Q w)) (.U e) (.U g) (.U x) (.I t) (.S p n c) (.T gn m d));have C2:aT v2 (U (Q w)) [.U e,.U g,.U x,.I t,.S p n c,.T gn m d]:=sa▸cc5 C1.1;have C3:aT v2 (U (Q w)+1) [.U 0,.U 0,.U 0,.I 0,ay,ay]:=sa▸as3 C1.2.1 af;have C4:aT v2 (U (Q w)+2) [.I kd,.S pe ne ce]:=sa▸as3 C1.2.2 af;have z2:U (Q v2)=U (Q v1):=sa▸Vq;have T2:(∃cur,v2.heap[U (Q w)]?=dO cur 44)/\∃cur,v2.heap[U (Q w)+1]?=dO cur 44:=by rw[sa];exact⟨as2 ⟨_,T1.1⟩,_,(Hp af).Z T1.2⟩
 have cv8:I v2 (Ad bw (ow+i))=dU id:=by
  have hb:bw≠U (Q w):=λe2=>by let⟨cur,hc⟩:=U1.1.2.1 bw rfl;rw[e2,T1.1]at hc;simp at hc
  rw[sa];exact(gG (Hp hb) _).Z hS.2.2.2.2.2.2.2.2
 have R2:=IV C2 C3 C4 T2 (sa▸xB T1.1) (sa▸vE _ _ _ _ _ _ _);unfold gL at sa;rw[<-sa];refine bS hK ⟨C2.1 0 _ rfl,C2.1 1 _ rfl,C2.1 2 _ rfl,C2.1 3 _ rfl,C2.1 4 _ rfl,C2.1 5 _ rfl,C4.1 0 _ rfl,C4.1 1 _ rfl,cv8⟩ λhS=>?_;clear hK KK sa C2 C3 C4 T2 vx cv8;refine fQ ?_;clear hS;go_wp2;go_roundw;exact⟨i+1,Q1,af,by go_num,af,(by show fh _ _ _ _ _;rw[ae E1];exact S1.T R2.2.2.2.2.1),N1.T R2.2.2.2.2.1,⟨U1.1.T R2.2.2.2.2.1,U1.2.T R2.2.2.2.2.1⟩,Q1',⟨R2.1,R2.2.1,R2.2.2.1⟩,R2.2.2.2.1,⟨gq F1.1 R2.2.2.2.2.1.1,λb cur ty mm ht hb=>(R2.2.2.2.2.2.block b (uS hb)).Z (F1.2 b cur ty mm ht hb)⟩,B1.Z (R2.2.2.2.2.2.h hB)⟩;exact dy};{
 have ab6:=ga i nu;have SF:=ae qE;rw[nZ (by rw[ae eU];omega)]at SF
 change O _ at SF
 let⟨K0,kf⟩:=td.1;let⟨R0,rf⟩:=td.2.1;let⟨k0,k1,k2,k3,k4,k5⟩:=Cv K0;let⟨q0,q1,q2,q3,q4,q5⟩:=Cv R0;clear K0 R0;go_wp2;let⟨cu,tq⟩:=hTk.2;have hF:=xB (v0:=.U e) (v1:=.U g) (v2:=.U x) (v3:=.I t) (v4:=.S p n c) (v5:=.T gn m d) tq;have xk:Below (U (Q w)+1) wr (gL wr (U (Q w)+1) (.U e) (.U g) (.U x) (.I t) (.S p n c) (.T gn m d)):=vE _ _ _ _ _ _ _;refine cX (v:=cO e g x t (.S p n c) (.T gn m d)) (by simp[results,results166,go_sem,q0,q1,q2,q3,q4,q5]) rfl ?_;exact⟨rfl,⟨_,SF.T hF⟩,Ck.T hF,⟨gq mT.1 xk.size,λb cur ty mm ht hb=>(xk.block b (aM (uS hb))).Z (mT.2 b cur ty mm ht hb)⟩,ku.Z (xk.h af)⟩}}
variable {cs:List dV}
theorem Yc{iZ:iE}(ik:o.guard=dN){s x:Operand}(ho:o.op=.call {callee:=.builtin .append,args:=#[s,x],argTypes:=#[42,42]})(v:dV)(ek:Le ns k)(hs:a.eval s=v)(dw:du B0 B w v ns)(g:Nat)(hx:a.eval x=.T g 1 1)(iW:AE B0 w nd cs)(sV:∀j u,cs[j]?=Y u->I w (Ad g j)=Y u)(hk:k<2^22)(hB:B<=U (Q w))(h:∀p' c' w',du B0 B w' (.S p' (k+1) c') (ns++[nd])->jG w w' (jB v)->Fr [149] w w'->wpList dG ops iZ rest (a.put o.dst (.S p' (k+1) c')) w'):wpList dG ops iZ (o::rest) a w:=by
 let⟨i,hi,jk,fI,gv⟩:=mJ Tryz.infoNod;have ht:=dw.vW;obtain⟨rs,h1,h2,h3,h4⟩:=dw;have vM:J cs=8/\∀u∈cs,u.oneCell':=by obtain⟨P,V,H,iU,rfl,a1,a2,a3,a4⟩:=iW;obtain⟨_,_,rfl⟩:=a1.fq;obtain⟨_,_,rfl⟩:=a2.fq;obtain⟨_,_,rfl⟩:=a3.fq;obtain⟨_,_,rfl⟩:=a4.fq;exact⟨rfl,λu hu=>by simp at hu;obtain rfl|rfl|rfl|rfl|rfl|rfl|rfl|rfl:=hu<;>rfl⟩
 rw[ae ek]at h3;refine FO ik 42 ho i 8 underlying42 hi jk fI gv rfl bf v hs h3 g 1 1 cs hx vM.1 sV vM.2 kW af hB ?_;intro v' w' gF hg _;have hf:Fr [149] w w':=Fr.grown hg λb hb=>by let⟨cur,hc⟩:=ht b hb;exact⟨cur,_,hc,al⟩
 have sn:du B0 B w' v' (ns++[nd]):=RT.snoc h1 h2 h4 (AE.T hf bf bf) iW vM.1 (ae ek▸gF);obtain⟨p',c',rfl,-⟩:=RT.form sn;rw[fe,ae ek]at sn⊢;exact h p' c' w' sn hg hf
theorem dw3(h:ns[j]?=nd):jX (jT (j+1) ns) k=if j=k then jX (jT j ns) k else jX (jT j ns) k++[nd]:=by
 have m:=(bH.1 h).1;have i:J (jT j ns)=j:=by rw[tz];omega
 rw[rD,h,Option.toList_some];by_cases e:j=k;{subst e;rw[aK rfl,ci2 af,i,Ab,ba5 (l:=jT j ns) af];simp};{rw[aJ e];by_cases o:k<j;{rw[List.eraseIdx_append_of_lt_length af]};{rw[ci2 af,i,ba5 (l:=jT j ns) af,ba5 bL]}}
theorem ca0{e g t:Int}{n c:Nat}(em:Le ns m)(hN:O (ld B w (.S q m d) ns))(hm:Mg m):dQ dG 167 #[cO e g x t (.S p n c) (.S q m d),.I k] w λr w'=>∃p' c',r=dR (cO e g x t (.S p n c) (.S p' (J (jX ns k)) c'))/\du B (U (Q w)) w' (.S p' (J (jX ns k)) c') (jX ns k)/\Bw w w':=by
 let⟨W0,cT,b0,z0,C0,T0⟩:=cR w #[.U e,.U g,.U x,.I t,.S p n c,.S q m d] 44;let⟨W1,fT,b1,z1,C1,T1⟩:=cR W0 #[.U 0,.U 0,.U 0,.I 0,ay,ay] 44;rw[z0]at C1 T1 z1;have bW:=ai (aj b0 b1);have HC:=bG (C0.H af b1) C1;have HT:=bG ((b1.block _ af).Z T0) T1;go_in;go_wp2;rw[<-cT,<-fT]
 go_loopw[5,6](λov iv wr=>∃(j:Nat)(L:List au)(N:Nat)(y:OA)(E:Nat),j<=m/\iv=.I j/\ov=.S y N E/\Le L N/\O (jX (jT j ns) k=L)/\O (du B (U (Q w)+2) wr (.S y N E) L)/\O (Below (U (Q w)+2) W1 wr)) (λ_ iv _=>m-(jN (intOf iv)))
 exact⟨0,[],0,dN,0,de _,rfl,rfl,rfl,(ai (by simp)),RT.nil _ _ _ _ _,bD _ _⟩;{
 obtain⟨j,L,N,y,E,hj,rfl,rfl,X,hL,ho,M⟩:=hrel;have zr:=M.size;have wY:N<2^22:=by have h1:=(LO (jT j ns) k).length_le;have h2:=Rt j ns;rw[ae hL,ae X]at h1;omega
 have W:=bG (HC.1.H af (M.h af:Bw W1 wr)) (HC.2.H af (M.h af:Bw W1 wr));have s5:=W.1.1 5 _ rfl;by_cases aH:j<m;{
 have dm:=cM j m;obtain⟨nd,aI⟩:∃nd,ns[j]?=Y nd:=⟨_,bN (ae em▸aH)⟩;have cK:=dw3 (k:=k) aI;rw[ae hL]at cK;have kJ:=ai cK;by_cases he:j=k;{go_wp2;go_roundw;exact⟨j+1,L,N,y,E,af,by go_num,rfl,X,(by have:=ae kJ;rwa [aK he]at this),ho,M⟩;exact dy};{
 have hee:((j:Int) != (k:Int)):=by simp;omega
 have bwr:Bw w wr:=bW.Z (M.h af);obtain⟨gn,P,V,H,iU,rfl,-,-,c0,c1,c2,c3,c4,c5,c6,c7,tP,tV,tH,tU,-⟩:=du.at (hN.T (cG bwr)) aI;obtain⟨pP,cP,rfl⟩:=tP.fq;obtain⟨pV,cV,rfl⟩:=tV.fq;obtain⟨pH,cH,rfl⟩:=tH.fq;obtain⟨pU,cU,rfl⟩:=tU.fq;let⟨v3,Z⟩:=aF (jA wr (dO #[.S pP (J nd.A) cP,.S pV (J nd.V) cV,.U nd.D,.I nd.M,.S pH (J nd.y) cH,.U nd.P,.U nd.F,.S pU (J nd.X) cU] 149));have R:=ir Z;have HX:=eG (ho.T (cG R)) (show AE B v3 nd [.S pP (J nd.A) cP,.S pV (J nd.V) cV,.U nd.D,.I nd.M,.S pH (J nd.y) cH,.U nd.P,.U nd.F,.S pU (J nd.X) cU]from⟨_,_,_,_,rfl,tP.T (cG R),tV.T (cG R),tH.T (cG R),tU.T (cG R)⟩) (show aT v3 (U (Q wr)) _ by rw[Z];exact aT.alloc wr _ _);have z3:=R.size;go_wp2_with(at_builtin;rw[<-Z];refine Yc rfl rfl (.S y N E) X rfl HX.1 (U (Q wr)) rfl HX.2.1 HX.2.2.1 wY af ?_);intro p' c' w' o2 fx _;rw[<-Z]at fx;go_wp2;go_roundw;exact⟨j+1,L++[nd],N+1,p',c',af,by go_num,rfl,ai (by rw[fe,ae X];rfl),(by have:=ae kJ;rwa [aJ he]at this),o2,(M.Z (R.h af)).grown fx af (ai λb e=>(ho.lt b e).1)⟩;exact dy}};{have dm:=ga j m;have gH:=ae hL;rw[nZ (by rw[ae em];omega)]at gH;let⟨K0,kf⟩:=W.1;let⟨R0,rf⟩:=W.2;let⟨q0,q1,q2,q3,q4,q5⟩:=Cv R0;have XP:=bG ((M.block _ af).Z HT.1) ((M.block _ af).Z HT.2);go_wp2;subst gH;cases ae X;refine cX (v:=cO e g x t (.S p n c) (.S y (J (jX ns k)) E)) (by simp[results,results167,go_sem,q0,q1,q2,q3,q4,q5]) rfl ?_;exact⟨y,E,rfl,((ho.T (qL (j:=5) (u:=.S y (J (jX ns k)) E) ⟨_,XP.1⟩).2).T (xB (v0:=.U e) (v1:=.U g) (v2:=.U x) (v3:=.I t) (v4:=.S p n c) (v5:=.S y (J (jX ns k)) E) ((gh _ _ _ _ (by show U (Q w)+1≠U (Q w);omega)).Z XP.2))).h af,((bW.Z (M.h af)).setCell (p:=(Aw w 5)) aU (.S y (J (jX ns k)) E)).Z ((vE (U (Q w)+1) (.U e) (.U g) (.U x) (.I t) (.S p n c) (.S y (J (jX ns k)) E)).h af)⟩}}
end Go.Proofs.YthlkmijffhhimaaGreatDoor
