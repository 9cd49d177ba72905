import Derived.Test.YtdloolggnjjfoaaGreatDoorK3
open Array renaming size->U
open Bool renaming false->dF,true->dY
open Decidable renaming decide->dD
open Go renaming Calls->dQ,Value->dV,World->G
open Go.Ending renaming returned->dR
open Go.Obj renaming cells->dO
open Go.Proofs.Tryz renaming prog->dG
open Go.RowKit renaming Hid->O
open Go.Value renaming I->dI,T->dK,S->dS,U->dU
open Go.World renaming cell?->I
open List renaming length->J
open Option renaming none->dN,some->Y
namespace Go.Proofs.YtdloolggnjjfoaaGreatDoor
set_option maxHeartbeats 6400000
set_option linter.all false
set_option maxRecDepth 100000
open Go.ChangeShapes Go.WideShapes Go.ChangeAt Go.RowKit Go.Proofs.Tryz
variable {sz b a B B' M i j base m B0 b' d:Nat}{p q:OA}{A l A2 A':List Lf}{w w1 w2 wr V w':G}{k K k0 y x:Int}{kd k1 k2:IntKind}{xs ids:LI}{ty e:TypeId}{v u v0 v1 v2 v3 v4 v5:dV}{Ls:List (List Lf)}{c news Qs vs:List dV}{cs:List (List dV)}{es q':List Ev}{o:Oper}{ops:iQ}{rest:List Oper}{cur:iA}{r:Option Nat}{ns:List ar}{ss:List aB}{nd:ar}{s:aB}
theorem sP.len{α:Type}{P:α->Nat->Nat->List Lf->Prop}{n c:Nat}{xs:List α}(h:sP P sz (.S p n c) xs A)(s:∀x b a l,P x b a l->1<=J l):n<=J A:=by
  let ⟨u,B,i,r,q⟩:=h.at;have key:∀k,k<=n->k<=(u.take k).flatten.length:=by
    intro k
    induction k with
    |zero=>intro _;exact cO _
    | succ k ih=>
      intro y;obtain⟨b,o,x,l,-,-,-,m,j,-⟩:=q k af;rw[j,dm];have:=ih af;have:=s _ _ _ _ m;omega
  have:=key n aA;rw[<-i,wV,i]at this;rw[r];exact this
def Ew.pos{x:Ev}(h:Ew w x b a l):1<=J l:=by
  obtain⟨p,c,i,rfl,-⟩:=h;simp
def Di.pos{x:aB}(h:Di w x b a l):1<=J l:=by
  obtain⟨p,c,i,rfl,-⟩:=h;simp
def Eu.pos{x:ar}(h:Eu w x b a l):1<=J l:=by
  obtain⟨o,E,m,D,j,B,i,y,u,s,r,q,rfl,-⟩:=h;simp;omega
def Mk.trans'(h:Mk w w1 A k)(j:Mk w1 w2 A2 K)(e:K=k+J A)(i:ft w A)(m:ft w A2):Mk w w2 (A++A2) k:=by
  subst e;exact h.Z j i m
def Mk.set{acc l:List Lf}{o:Nat}(h:Mk wr V acc k0)(j:ft wr l)(i:∀a∈acc,a∈l)(hm:Lf.mk b o kd∈l)(e:K=k0+J acc):Mk wr (V.setCell (Ad b o) (.int kd (OQ kd K))) (acc++[⟨b,o,kd⟩]) k0:=by
  let⟨⟨n,q⟩,hf⟩:=j.mk h (j.sub i) _ hm;exact h.trans' (Mk.one q) e (j.sub i) (λa m=>j a (by simp at m;rw[m];exact hm))
def Mk.call{q:G}{acc i l:List Lf}(h:Mk wr V acc k0)(r:Mk V q i K)(o:ft wr l)(m:∀a∈acc,a∈l)(j:∀a∈i,a∈l)(e:K=k0+J acc):Mk wr q (acc++i) k0:=
  h.trans' r e (o.sub m) (o.sub j)
def mi{B:List Lf}(h:∀a∈A,a∈B:=by(intro a ha;first|(simp at ha;done)|(simp only[jd,fU,Pe,DE,Ib]at ha⊢;grind))):∀a∈A,a∈B:=h
theorem W8{q:Prop}(h':q:=by
    have hnA:=h.len (λx b a l hl=>by first|exact hl.pos|(rw[show l=_ from hl];simp));let⟨Ls,en,lL,eA,fD⟩:=h.at;have Js:=ag fD;have HA:=ag hA;have EA:=ag eA;have K1:k+(J Ls.flatten:Int)<=100000000:=eA▸k1;have hn:n<=100000000:=af;have LL:=ag lL;clear h fD hA eA en lL hnA;show dQ _ _ _ _ _;go_in;go_wp2
    go_loopw[1,5](λkk i wr=>∃j:Nat,j<=n/\i=.I j/\kk=.I (k+(((Ls.take j).flatten.length:Nat):Int))/\O (Mk w wr (Ls.take j).flatten k)) (λ_ i _=>n-(intOf i).toNat)
    exact⟨0,cO _,rfl,aj,Mk.refl _ _⟩;{
 obtain⟨j,hj,rfl,rfl,hM⟩:=hrel;have hle:=ax7 Ls j;by_cases aH:j<n;{
 have cL:=bM j n;obtain⟨b,o,x,l,rfl,hx,hl,hP,uP,rz⟩:=ae Js j aH;have zw:ft w (Ls.take j).flatten:=HA.sub (λa ha=>by rw[ae EA];exact aS7 ha);have xU:ft w l:=HA.sub rz;have fL:ft wr l:=xU.mk hM zw;have YY:(Ls.take (j+1)).flatten.length=(Ls.take j).flatten.length+J l:=by rw[uP,dm]
 have uM:k+((Ls.take j).flatten.length:Int)+(J l:Int)<=100000000:=by have:=ax7 Ls (j+1);omega
 have HT:=ag YY;have HPW:O (∀w',Mk wr w' l (k+((Ls.take j).flatten.length:Int))->Mk w w' (Ls.take (j+1)).flatten k):=by intro w' hw';rw[uP];exact hM.Z hw' zw xU
 generalize hT:(Ls.take j).flatten.length=T at*;clear hT hx hl uP rz YY;have hT0:0<=k+(T:Int):=af
 first
   | (have e1:l=[⟨b,o+j*1,.u8⟩]:=hP
      rw[J4]at e1;subst e1;let⟨⟨n0,ki⟩,Ct⟩:=fL ⟨b,o+j,.u8⟩ aj;dsimp only at ki Ct;have Jw:=ag (ae HPW _ (Mk.one ki));have MO:k+(T:Int)<=100000000:=by simp at uM;omega
      clear hP zw hM xU fL)
   | (have e1:l=[⟨b,o+j*1,.u64⟩]:=hP
      rw[J4]at e1;subst e1;let⟨⟨n0,ki⟩,Ct⟩:=fL ⟨b,o+j,.u64⟩ aj;dsimp only at ki Ct;have Jw:=ag (ae HPW _ (Mk.one ki));have MO:k+(T:Int)<=100000000:=by simp at uM;omega
      clear hP zw hM xU fL)
   | (have Cx:Ew wr x b _ l:=hP.mk hM zw
      obtain⟨q,d,lb,rfl,hd,xX⟩:=Cx;have HD:=ag hd;have xy:=ag xX;clear hd xX;clear hP zw hM xU;have hlen:k+(T:Int)+(1+(J lb:Int))<=100000000:=by simp only[dm,kJ]at uM;omega
      clear uM;have iT:=ag fL;have Hf:O (Mk wr wr [] (k+(T:Int))):=Mk.refl _ _;clear fL;have NU:ft wr (⟨b,o+j*2,.i64⟩::lb):=iT.mk Hf (iT.sub mi);let⟨⟨m0,ki⟩,Ct⟩:=NU ⟨b,o+j*2,.i64⟩ aj;dsimp only at ki Ct;have nG:I wr (Ad b (o+j*2+1))=dS q (J x.2) d:=Hf.head (iT.sub mi) HD;have EO:O (Mk wr (wr.setCell (Ad b (o+j*2)) (.I (k+(T:Int)))) ([]++[⟨b,o+j*2,.i64⟩]) (k+(T:Int))):=(Mk.set Hf iT mi (b:=b) (o:=o+j*2) (kd:=.i64) aj (K:=k+(T:Int)) aj);have Ob:O (ft (wr.setCell (Ad b (o+j*2)) (.I (k+(T:Int)))) lb):=(iT.sub (by intro a ha;simp[ha])).mk EO (iT.sub mi);clear NU;go_wp2_with fail;clear ki Ct nG;refine br (al6 xy Ob af af) λv0 N0=>?_;have SK:O (Mk wr v0 (([]++[⟨b,o+j*2,.i64⟩])++lb) (k+(T:Int))):=Mk.call EO N0 iT mi (by intro a ha;simp[ha]) (by simp;try omega);clear N0 EO Ob;have Jw:=ag (ae HPW _ (by simpa using ae SK)))
   | (have Cx:Di wr x b _ l:=hP.mk hM zw
      obtain⟨q,d,lb,rfl,hd,xX⟩:=Cx;have HD:=ag hd;have xy:=ag xX;clear hd xX;clear hP zw hM xU;have hlen:k+(T:Int)+(2+(J lb:Int))<=100000000:=by simp only[dm,kJ]at uM;omega
      clear uM;have iT:=ag fL;have Hf:O (Mk wr wr [] (k+(T:Int))):=Mk.refl _ _;clear fL;have NU:ft wr (⟨b,o+j*3,.u64⟩::⟨b,o+j*3+1,.i64⟩::lb):=iT.mk Hf (iT.sub mi);let⟨⟨m0,ki⟩,Ct⟩:=NU ⟨b,o+j*3,.u64⟩ aj;let⟨⟨m1,fM⟩,sE⟩:=NU ⟨b,o+j*3+1,.i64⟩ aj;dsimp only at ki Ct fM sE;have hh2:I wr (Ad b (o+j*3+2))=dS q (J x.2.2) d:=Hf.head (iT.sub mi) HD;have EO:O (Mk wr ((wr.setCell (Ad b (o+j*3)) (.U (k+(T:Int)))).setCell (Ad b (o+j*3+1)) (.I (k+(T:Int)+1))) (([]++[⟨b,o+j*3,.u64⟩])++[⟨b,o+j*3+1,.i64⟩]) (k+(T:Int))):=(Mk.set (Mk.set Hf iT mi (b:=b) (o:=o+j*3) (kd:=.u64) aj (K:=k+(T:Int)) aj) iT mi (b:=b) (o:=o+j*3+1) (kd:=.i64) aj (K:=k+(T:Int)+1) (by simp;try omega));have Ob:O (ft ((wr.setCell (Ad b (o+j*3)) (.U (k+(T:Int)))).setCell (Ad b (o+j*3+1)) (.I (k+(T:Int)+1))) lb):=(iT.sub (by intro a ha;simp[ha])).mk EO (iT.sub mi);clear NU;go_wp2_with fail;clear ki Ct fM sE hh2;refine br (ca1 (xy.mk EO (iT.sub mi)) Ob af af) λv0 N0=>?_;have SK:O (Mk wr v0 ((([]++[⟨b,o+j*3,.u64⟩])++[⟨b,o+j*3+1,.i64⟩])++lb) (k+(T:Int))):=Mk.call EO N0 iT mi (by intro a ha;simp[ha]) (by simp;try omega);clear N0 EO Ob;have Jw:=ag (ae HPW _ (by simpa using ae SK)))
   | (have Cx:Eu wr x b _ l:=hP.mk hM zw
      obtain⟨p0,c0,p1,c1,p4,c4,p7,c7,l0,l1,l4,l7,rfl,⟨h1,h2⟩,⟨h3,h4⟩,⟨h5,h6⟩,⟨h7,h8⟩⟩:=Cx;have HD:=gI h1 h3 h5 h7;have xy:=gI h2 h4 h6 h8;clear h1 h2 h3 h4 h5 h6 h7 h8;clear hP zw hM xU;have hlen:k+(T:Int)+(4+(J l0:Int)+(J l1:Int)+(J l4:Int)+(J l7:Int))<=100000000:=by simp only[dm,kJ]at uM;omega
      clear uM;have iT:=ag fL;have Hf:O (Mk wr wr [] (k+(T:Int))):=Mk.refl _ _;clear fL;have NU:ft wr (l0++(l1++(⟨b,o+j*8+2,.u64⟩::⟨b,o+j*8+3,.i64⟩::(l4++(⟨b,o+j*8+5,.u64⟩::⟨b,o+j*8+6,.u64⟩::l7))))):=iT.mk Hf (iT.sub mi);have hh0:I wr (Ad b (o+j*8))=dS p0 (J x.A) c0:=Hf.head (iT.sub mi) HD.1;have EO:O (Mk wr wr [] (k+(T:Int))):=(ae Hf);have Ob:O (ft wr l0):=(iT.sub (by intro a ha;simp[ha])).mk EO (iT.sub mi);clear NU;go_wp2_with fail;clear hh0;refine br (al6 xy.1 Ob af af) λv0 N0=>?_;have SK:O (Mk wr v0 ([]++l0) (k+(T:Int))):=Mk.call EO N0 iT mi (by intro a ha;simp[ha]) (by simp;try omega);clear N0 EO Ob;have IN1:ft v0 (l0++(l1++(⟨b,o+j*8+2,.u64⟩::⟨b,o+j*8+3,.i64⟩::(l4++(⟨b,o+j*8+5,.u64⟩::⟨b,o+j*8+6,.u64⟩::l7))))):=iT.mk SK (iT.sub mi);have nG:I v0 (Ad b (o+j*8+1))=dS p1 (J x.V) c1:=SK.head (iT.sub mi) HD.2.1;have AX1:O (Mk wr v0 ([]++l0) (k+(T:Int))):=(ae SK);have Jm:O (ft v0 l1):=(iT.sub (by intro a ha;simp[ha])).mk AX1 (iT.sub mi);clear IN1;go_wp2_with fail;clear nG;refine br (al6 xy.2.1 Jm af af) λv1 N1=>?_;have AC2:O (Mk wr v1 (([]++l0)++l1) (k+(T:Int))):=Mk.call AX1 N1 iT mi (by intro a ha;simp[ha]) (by simp;try omega);clear N1 AX1 Jm;have IN2:ft v1 (l0++(l1++(⟨b,o+j*8+2,.u64⟩::⟨b,o+j*8+3,.i64⟩::(l4++(⟨b,o+j*8+5,.u64⟩::⟨b,o+j*8+6,.u64⟩::l7))))):=iT.mk AC2 (iT.sub mi);let⟨⟨m2,gC⟩,AW⟩:=IN2 ⟨b,o+j*8+2,.u64⟩ aj;let⟨⟨m3,nK⟩,rT⟩:=IN2 ⟨b,o+j*8+3,.i64⟩ aj;dsimp only at gC AW nK rT;have hh4:I v1 (Ad b (o+j*8+4))=dS p4 (J x.y) c4:=AC2.head (iT.sub mi) HD.2.2.1;have AX2:O (Mk wr ((v1.setCell (Ad b (o+j*8+2)) (.U (k+(T:Int)+(J l0:Int)+(J l1:Int)))).setCell (Ad b (o+j*8+3)) (.I (k+(T:Int)+(J l0:Int)+(J l1:Int)+1))) (((([]++l0)++l1)++[⟨b,o+j*8+2,.u64⟩])++[⟨b,o+j*8+3,.i64⟩]) (k+(T:Int))):=(Mk.set (Mk.set AC2 iT mi (b:=b) (o:=o+j*8+2) (kd:=.u64) aj (K:=k+(T:Int)+(J l0:Int)+(J l1:Int)) (by simp;try omega)) iT mi (b:=b) (o:=o+j*8+3) (kd:=.i64) aj (K:=k+(T:Int)+(J l0:Int)+(J l1:Int)+1) (by simp;try omega));have HV2:O (ft ((v1.setCell (Ad b (o+j*8+2)) (.U (k+(T:Int)+(J l0:Int)+(J l1:Int)))).setCell (Ad b (o+j*8+3)) (.I (k+(T:Int)+(J l0:Int)+(J l1:Int)+1))) l4):=(iT.sub (by intro a ha;simp[ha])).mk AX2 (iT.sub mi);clear IN2;go_wp2_with fail;clear gC AW nK rT hh4;refine br (bZ9 p4 c4 (J x.y) (x.y) l4 (k+(T:Int)+(J l0:Int)+(J l1:Int)+1+1) _ xy.2.2.1 HV2 af af) λv2 N2=>?_;have AC3:O (Mk wr v2 ((((([]++l0)++l1)++[⟨b,o+j*8+2,.u64⟩])++[⟨b,o+j*8+3,.i64⟩])++l4) (k+(T:Int))):=Mk.call AX2 N2 iT mi (by intro a ha;simp[ha]) (by simp;try omega);clear N2 AX2 HV2;have IN3:ft v2 (l0++(l1++(⟨b,o+j*8+2,.u64⟩::⟨b,o+j*8+3,.i64⟩::(l4++(⟨b,o+j*8+5,.u64⟩::⟨b,o+j*8+6,.u64⟩::l7))))):=iT.mk AC3 (iT.sub mi);let⟨⟨m5,oI⟩,hf5⟩:=IN3 ⟨b,o+j*8+5,.u64⟩ aj;let⟨⟨m6,jH⟩,hf6⟩:=IN3 ⟨b,o+j*8+6,.u64⟩ aj;dsimp only at oI hf5 jH hf6;have hh7:I v2 (Ad b (o+j*8+7))=dS p7 (J x.X) c7:=AC3.head (iT.sub mi) HD.2.2.2;have AX3:O (Mk wr ((v2.setCell (Ad b (o+j*8+5)) (.U (k+(T:Int)+(J l0:Int)+(J l1:Int)+1+1+(J l4:Int)))).setCell (Ad b (o+j*8+6)) (.U (k+(T:Int)+(J l0:Int)+(J l1:Int)+1+1+(J l4:Int)+1))) ((((((([]++l0)++l1)++[⟨b,o+j*8+2,.u64⟩])++[⟨b,o+j*8+3,.i64⟩])++l4)++[⟨b,o+j*8+5,.u64⟩])++[⟨b,o+j*8+6,.u64⟩]) (k+(T:Int))):=(Mk.set (Mk.set AC3 iT mi (b:=b) (o:=o+j*8+5) (kd:=.u64) aj (K:=k+(T:Int)+(J l0:Int)+(J l1:Int)+1+1+(J l4:Int)) (by simp;try omega)) iT mi (b:=b) (o:=o+j*8+6) (kd:=.u64) aj (K:=k+(T:Int)+(J l0:Int)+(J l1:Int)+1+1+(J l4:Int)+1) (by simp;try omega));have HV3:O (ft ((v2.setCell (Ad b (o+j*8+5)) (.U (k+(T:Int)+(J l0:Int)+(J l1:Int)+1+1+(J l4:Int)))).setCell (Ad b (o+j*8+6)) (.U (k+(T:Int)+(J l0:Int)+(J l1:Int)+1+1+(J l4:Int)+1))) l7):=(iT.sub (by intro a ha;simp[ha])).mk AX3 (iT.sub mi);clear IN3;go_wp2_with fail;clear oI hf5 jH hf6 hh7;refine br (bZ9 p7 c7 (J x.X) (x.X) l7 (k+(T:Int)+(J l0:Int)+(J l1:Int)+1+1+(J l4:Int)+1+1) _ xy.2.2.2 HV3 af af) λv3 N3=>?_;have AC4:O (Mk wr v3 (((((((([]++l0)++l1)++[⟨b,o+j*8+2,.u64⟩])++[⟨b,o+j*8+3,.i64⟩])++l4)++[⟨b,o+j*8+5,.u64⟩])++[⟨b,o+j*8+6,.u64⟩])++l7) (k+(T:Int))):=Mk.call AX3 N3 iT mi (by intro a ha;simp[ha]) (by simp;try omega);clear N3 AX3 HV3;have Jw:=ag (ae HPW _ (by simpa using ae AC4)))
 go_wp2;go_roundw;exact⟨j+1,af,by go_num,by rw[ae HT];first|go_num|(simp;omega)|(congr 1;simp;omega),Jw⟩;exact cW};{
 obtain rfl:j=n:=af;have e2:(Ls.take j).flatten=A:=by rw[<-ae LL,wV];exact EA.C
 rw[e2]at hM⊢;clear hle Js HA;go_wp2;go_ret;exact⟨rfl,hM⟩}}):q:=h'
def al6{c n:Nat}(h:xw (.S p n c) xs A)(hA:ft w A)(m:0<=k)(k1:k+J A<=100000000):Cp 33 #[.S p n c,.I k] w λe w'=>e=dR (.I (k+J A))/\Mk w w' A k:=W8
def bZ9(p:OA)(c n:Nat)(xs:LI)(A:List Lf)(k:Int)(w:G)(h:Dg (.S p n c) xs A)(hA:ft w A)(m:0<=k)(k1:k+J A<=100000000):Cp 144 #[.S p n c,.I k] w λe w'=>e=dR (.I (k+J A))/\Mk w w' A k:=W8
def ca1{c n:Nat}{xs:List Ev}(h:qi w (.S p n c) xs A)(hA:ft w A)(m:0<=k)(k1:k+J A<=100000000):Cp 35 #[.S p n c,.I k] w λe w'=>e=dR (.I (k+J A))/\Mk w w' A k:=W8
def dC5(p:OA)(c n:Nat)(xs:List aB)(A:List Lf)(k:Int)(w:G)(h:kG w (.S p n c) xs A)(hA:ft w A)(m:0<=k)(k1:k+J A<=100000000):Cp 76 #[.S p n c,.I k] w λe w'=>e=dR (.I (k+J A))/\Mk w w' A k:=W8
def dC8(p:OA)(c n:Nat)(xs:List ar)(A:List Lf)(k:Int)(w:G)(h:lK w (.S p n c) xs A)(hA:ft w A)(m:0<=k)(k1:k+J A<=100000000):Cp 77 #[.S p n c,.I k] w λe w'=>e=dR (.I (k+J A))/\Mk w w' A k:=W8
def Tryz.infoU64:(Tryz.prog.info? 27).map (λi=>(i.zero,i.size,i.bytes))=Y (Y (.U 0),1,8):=by kernel_rfl
def Tryz.infoEv:(Tryz.prog.info? 119).map (λi=>(i.zero,i.size,i.bytes))=Y (Y (.agg #[.I 0,aq]),2,32):=by kernel_rfl
def Tryz.infoSes:(Tryz.prog.info? 97).map (λi=>(i.zero,i.size,i.bytes))=Y (Y (.agg #[.U 0,.I 0,aq]),3,40):=by kernel_rfl
def Tryz.infoNod:(Tryz.prog.info? 141).map (λi=>(i.zero,i.size,i.bytes))=Y (Y (.agg #[aq,aq,.U 0,.I 0,aq,.U 0,.U 0,aq]),8,128):=by kernel_rfl
def ei2(h:Bw w w'):w.grownBy w' dN:=⟨h.os,h.tape,h.output,h.size,λi j _=>h.block i j⟩
structure gh(B:Nat)(w:G)(A:List Lf):Prop where
 nd:(A.map λa=>(a.b,a.o)).Nodup
 lo:∀a∈A,B<=a.b
 jY:ft w A
def gh.nil(B:Nat)(w:G):gh B w []:=⟨by simp,λa ha=>by simp at ha,ft.nil w⟩
def gh.h(h:gh B w A)(j:B'<=B):gh B' w A:=⟨h.nd,λa i=>gv j (h.lo a i),h.jY⟩
def gh.app(h:gh B w A)(j:gh M w A2)(s:B<=M)(r:∀a∈A,a.b<M):gh B w (A++A2):=by
 refine⟨?_,λa i=>?_,ft.app.2 ⟨h.jY,j.jY⟩⟩;{rw[pK,Cd];refine⟨h.nd,j.nd,λx q y o=>?_⟩;obtain⟨a,i,rfl⟩:=fe.1 q;obtain⟨u,m,rfl⟩:=fe.1 o;intro e;have:=r a i;have:=j.lo u m;simp only[jy]at e;omega};{obtain i|i:=jd.1 i;{exact h.lo a i};{exact gv s (j.lo a i)}}
def ft.W(h:ft w A)(j:∀a∈A,w'.heap[a.b]?=w.heap[a.b]?):ft w' A:=λa i=>by
 let⟨⟨n,m⟩,hf⟩:=h a i;exact⟨⟨n,(Hz (w:=w) (a:=(Ad a.b a.o)) (j a i)).Z m⟩,(AO (w:=w) (a:=(Ad a.b a.o)) (j a i)).Z hf⟩
def gh.W(h:gh B w A)(i:∀a∈A,w'.heap[a.b]?=w.heap[a.b]?):gh B w' A:=⟨h.nd,h.lo,h.jY.W i⟩
def OwnT{α:Type}(el:G->α->List dV->List Lf->Prop)(ty:TypeId)(m B:Nat)(w:G)(v:dV)(xs:List α)(j:List (List Lf)):Prop:=
 ∃cs:List (List dV),J cs=J xs/\J j=J xs/\(∀c∈cs,J c=m)/\w.ownsRow B ty m v (J xs) cs.flatten∧
  (∀(i:Nat)(x:α)(c:List dV)(l:List Lf),xs[i]?=x->cs[i]?=Y c->j[i]?=l->el w x c l)/\gh B w j.flatten/\∀a∈j.flatten,v.ownBlock≠Y a.b
def OwnT.nil{α:Type}(el:G->α->List dV->List Lf->Prop)(ty:TypeId)(sz B:Nat)(w:G):OwnT el ty sz B w aq [] []:=
 ⟨[],rfl,rfl,λc hc=>by simp at hc,by simpa using lZ w B ty sz,λi x c l hx=>by simp at hx,by simpa using gh.nil B w,λa ha=>by simp at ha⟩
def OwnT.W{α:Type}{el:G->α->List dV->List Lf->Prop}{xs:List α}(h:OwnT el ty sz B w v xs Ls)(Z:∀x c l,el w x c l->(∀a∈l,w'.heap[a.b]?=w.heap[a.b]?)->el w' x c l)(hz:U w.heap<=U w'.heap)(hr:∀b,v.ownBlock=Y b->w'.heap[b]?=w.heap[b]?)(r:∀a∈Ls.flatten,w'.heap[a.b]?=w.heap[a.b]?):OwnT el ty sz B w' v xs Ls:=by
 obtain⟨cs,X,W,V,s,S,R,N⟩:=h;refine⟨cs,X,W,V,?_,λi x c l u hc q=>Z _ _ _ (S i x c l u hc q) (λa M=>r a (DD.2 ⟨l,bu q,M⟩)),R.W r,N⟩;refine⟨s.1,?_⟩;obtain y|⟨g,o,m,rfl,E,D,j⟩:=s.2;{exact .L y};{exact .R ⟨g,o,m,rfl,E,(hr g rfl).Z D,j⟩}
def OwnT.H{α:Type}{el:G->α->List dV->List Lf->Prop}{xs:List α}(h:OwnT el ty sz B w v xs Ls)(s:∀w w' x c l,el w x c l->(∀a∈l,w'.heap[a.b]?=w.heap[a.b]?)->el w' x c l)(i:Bw w w'):OwnT el ty sz B w' v xs Ls:=by
 have r:=h;obtain⟨cs,M,E,D,q,y,o,u⟩:=r;exact h.W (s w w') i.size (λb j=>i.block b (q.lt b j).2) (λa m=>i.block _ (o.jY.lt m))
def OwnT.snoc{α:Type}{el:G->α->List dV->List Lf->Prop}{v':dV}{xs:List α}{x:α} (Z:J cs=J xs)(X:J Ls=J xs)(h3:∀c∈cs,J c=sz)(h5:∀(i:Nat)(x:α)(c:List dV)(l:List Lf),xs[i]?=Y x->cs[i]?=Y c->Ls[i]?=Y l->el w x c l)(E:gh B w Ls.flatten)(W:∀a∈Ls.flatten,v.ownBlock≠Y a.b)(bj:∀w w' x c l,el w x c l->(∀a∈l,w'.heap[a.b]?=w.heap[a.b]?)->el w' x c l)(hx:el w x c l)(hc:J c=sz)(s:gh M w l)(D:B<=M)(hM:∀a∈Ls.flatten,a.b<M)(r:∀b,v.ownBlock=Y b->b<M)(gx:w'.ownsRow B ty sz v' (J xs+1) (cs.flatten++c))(V:w.grownBy w' v.ownBlock)(gP:∀g,v'.ownBlock=Y g->v.ownBlock=Y g\/U w.heap<=g):OwnT el ty sz B w' v' (xs++[x]) (Ls++[l]):=by
 have u:∀a∈Ls.flatten++l,w'.heap[a.b]?=w.heap[a.b]?:=λa j=>by obtain j|j:=jd.1 j;{exact V.block _ (E.jY.lt j) (λe=>W a j e.C)};{exact V.block _ (s.jY.lt j) (λe=>by have:=r a.b e.C;have:=s.lo a j;omega)}
 refine⟨cs++[c],by simp[Z],by simp[X],λR m=>?_,?_,λi y R S q m o=>?_,?_,λa j=>?_⟩;{obtain m|m:=jd.1 m;{exact h3 R m};{simp at m;subst m;exact hc}};{simpa using gx};{
 by_cases hi:i<J xs;{rw[mj hi]at q;rw[mj af]at m o;exact bj w w' _ _ _ (h5 i y R S q m o) (λa j=>u a (Me _ (DD.2 ⟨S,bu o,j⟩)))};{
 have ei:i=J xs:=by have:=(bg.1 q).1;simp at this;omega
 subst ei;simp at q;rw[<-Z]at m;simp at m;rw[<-X]at o;simp at o;subst q m o;exact bj w w' _ _ _ hx (λa j=>u a (Fu _ j))}};{
 have:(Ls++[l]).flatten=Ls.flatten++l:=by simp
 rw[this];exact(E.app s D hM).W u};{
 have:(Ls++[l]).flatten=Ls.flatten++l:=by simp
 rw[this]at j;intro e;obtain N|N:=gP _ e;{obtain j|j:=jd.1 j;{exact W a j N};{have:=r a.b N;have:=s.lo a j;omega}};{
 have:a.b<U w.heap:=by obtain j|j:=jd.1 j;{exact E.jY.lt j};{exact s.jY.lt j}
 omega}}
def OwnT.lt{α:Type}{el:G->α->List dV->List Lf->Prop}{xs:List α}(h:OwnT el ty sz B w v xs Ls):(∀b,v.ownBlock=Y b->B<=b/\b<U w.heap)/\∀a∈Ls.flatten,B<=a.b/\a.b<U w.heap:=by
 obtain⟨cs,x,u,s,o,r,j,q⟩:=h;exact⟨λb m=>o.lt b m,λa i=>⟨j.lo a i,j.jY.lt i⟩⟩
theorem ax9(h:∀c∈cs,J c=sz)(hc:cs[i]?=Y c)(m:j<sz):cs.flatten[i*sz+j]?=c[j]?:=by
 induction cs generalizing i with
 |nil=>simp at hc
 | cons d cs ih=>
  cases i with
  |zero=>
   simp at hc;subst hc;rw[tW,mj (by rw[h d aj];omega)];simp
  |succ i=>
   rw[tW,pI (by rw[h d aj,DC];omega),h d aj];have:=ih (λc hc=>h c (by simp[hc])) (by simpa using hc);rw[<-this];congr 1;rw[DC];omega
theorem OwnT.lv{α:Type}{el:G->α->List dV->List Lf->Prop}{xs:List α}(h:OwnT el ty sz B w v xs Ls)(P:α->Nat->Nat->List Lf->Prop)(iL:∀x c l b a,el w x c l->(∀j u,c[j]?=Y u->I w (Ad b (a+j))=Y u)->(∀o,w.frozen? (Ad b o)=dF)->(∀y∈l,y.b≠b)->ft w l->(l.map λa=>(a.b,a.o)).Nodup→
   ∃L,P x b a L/\(L.map λa=>(a.b,a.o)).Nodup/\ft w L/\∀y∈L,y∈l\/y.b=b/\a<=y.o/\y.o<a+sz):∃A,sP P sz v xs A/\gh B w A:=by
 obtain⟨cs,h1,h2,h3,h4,h5,h6,h7⟩:=h;obtain⟨rfl,h0⟩|⟨g,cap,cur,rfl,hb,hg,-,-,-,-⟩:=id h4.2;{obtain rfl:xs=[]:=sX.1 h0;exact⟨[],⟨dN,0,[],aj,rfl,rfl,.L rfl⟩,gh.nil _ _⟩};{
 have Kk:∀o,w.frozen? (Ad g o)=dF:=λo=>by simp[World.frozen?,hg]
 have key:∀k,k<=J xs->∃s:List (List Lf),J s=k/\(∀(i:Nat)(x:α)(l:List Lf),i<k->xs[i]?=Y x->s[i]?=Y l->P x g (0+i*sz) l)/\(s.flatten.map λa=>(a.b,a.o)).Nodup/\ft w s.flatten∧
   ∀y∈s.flatten,y∈(Ls.take k).flatten\/y.b=g/\y.o<k*sz:=by
  intro k
  induction k with
  |zero=>intro _;exact⟨[],rfl,λi x l hi=>af,aj,ft.nil w,λy r=>by simp at r⟩
  | succ k ih=>
   intro hk;let⟨s,V,q2,q3,Z,S⟩:=ih af;obtain⟨x,M⟩:∃x,xs[k]?=Y x:=⟨_,bD af⟩;obtain⟨c,hc⟩:∃x,cs[k]?=Y x:=⟨_,bD af⟩;obtain⟨l,N⟩:∃x,Ls[k]?=Y x:=⟨_,bD af⟩;have FR:∀y∈l,y∈Ls.flatten:=λy r=>DD.2 ⟨l,bu N,r⟩;have hlen:J c=sz:=h3 c (bu hc);have aJ:(Ls.take (k+1)).flatten=(Ls.take k).flatten++l:=by rw[pZ,N];simp
   have zw:(((Ls.take (k+1)).flatten.map λa=>(a.b,a.o))).Nodup:=by
    have:=h6.nd;have e:Ls.flatten=(Ls.take (k+1)).flatten++(Ls.drop (k+1)).flatten:=by rw[<-J1,Ic]
    rw[e,pK,Cd]at this;exact this.1
   rw[aJ,pK,Cd]at zw;obtain⟨n1,n2,n3⟩:=zw;let⟨L,r1,r2,r3,X⟩:=iL x c l g (0+k*sz) (h5 k x c l M hc N) (λj u hu=>by
    have hj:j<sz:=aK (bg.1 hu).1;have hks:k*sz+sz<=J xs*sz:=by rw[<-DC];exact Pd _ hk
    rw[mO,h4.cellAt (k*sz+j) af,ax9 h3 hc hj];exact hu) Kk (λy r e=>h7 y (FR y r) (by simp[Value.ownBlock,e])) (h6.jY.sub FR) n2
   refine⟨s++[L],by simp[V],λi y m hi r hm=>?_,?_,?_,λy r=>?_⟩;{
 by_cases hik:i<k;{rw[mj af]at hm;exact q2 i y m hik r hm};{
 have:i=k:=by omega
 subst this;rw[M]at r;cases r;rw[<-V]at hm;simp at hm;subst hm;exact r1}};{have e:(s++[L]).flatten=s.flatten++L:=aj;rw[e,pK,Cd];refine⟨q3,r2,λy r z hz=>?_⟩;obtain⟨W,m1,rfl⟩:=fe.1 r;obtain⟨E,m2,rfl⟩:=fe.1 hz;intro R;simp only[jy]at R;obtain u1|⟨u1,u2⟩:=S W m1;{obtain D|⟨D,v2,v3⟩:=X E m2;{exact n3 (W.b,W.o) (Xs u1) (E.b,E.o) (Xs D) (by rw[R.1,R.2])};{exact h7 W (aS7 u1) (by simp[Value.ownBlock,R.1,D])}};{obtain D|⟨D,v2,v3⟩:=X E m2;{exact h7 E (FR E D) (by simp[Value.ownBlock,<-R.1,u1])};{omega}}};{have e:(s++[L]).flatten=s.flatten++L:=aj;rw[e];exact ft.app.2 ⟨Z,r3⟩};{have e:(s++[L]).flatten=s.flatten++L:=aj;rw[e]at r;obtain r|r:=jd.1 r;{obtain u1|⟨u1,u2⟩:=S y r;{exact .L (by rw[aJ];exact Me _ u1)};{exact .R ⟨u1,by rw[DC];omega⟩}};{obtain D|⟨D,v2,v3⟩:=X y r;{exact .L (by rw[aJ];exact Fu _ D)};{exact .R ⟨D,by rw[DC];omega⟩}}}
 let⟨s,V,q2,q3,Z,S⟩:=key (J xs) aA;refine⟨s.flatten,⟨Y (Ad g 0),cap,s,rfl,V,rfl,.R ⟨g,0,rfl,λi x l M N=>q2 i x l (bg.1 M).1 M N⟩⟩,q3,λa ha=>?_,Z⟩;obtain u1|⟨u1,u2⟩:=S a ha;{exact h6.lo a (aS7 u1)};{rw[u1];exact hb}}
variable {l:LI}
theorem WI{n c:Nat}(h:w.ownsRow B e 1 (.S p n c) (J l) (l.map (Value.int kd))):∃A,sP (LvI kd) 1 (.S p n c) l A/\gh B w A/\J A=J l/\∀a∈A,(Value.slice p n c).ownBlock=a.b:=by
 obtain⟨s,N⟩|⟨g,V,R,s,M,E,hr⟩:=id h.2;{obtain⟨rfl,rfl,rfl⟩:=jJ s;obtain rfl:=sX.1 N;exact⟨[],⟨dN,0,[],rfl,rfl,rfl,.L rfl⟩,gh.nil _ _,rfl,λa m=>by simp at m⟩};{
 obtain⟨rfl,rfl,rfl⟩:=jJ s;refine⟨(List.range (J l)).map λi=>⟨g,0+i,kd⟩,⟨Y (Ad g 0),c,(List.range (J l)).map λi=>[⟨g,0+i,kd⟩],rfl,aj,?_,.R ⟨g,0,rfl,λi x X Z D=>?_⟩⟩,⟨?_,λa m=>?_,λa m=>?_⟩,aj,λa m=>?_⟩;{
 induction(List.range (J l))with
 |nil=>rfl
 |cons i r ih=>rw[kI,kI,tW,<-ih];rfl}
 {let⟨q,e⟩:=bg.1 D;simp at e;rw[<-e,J4,mO];rfl};{rw[uB,List.Nodup,AH];exact aV6.imp (λ{i j}y=>by simpa using y)};{obtain⟨i,q,rfl⟩:=fe.1 m;exact M};{
 obtain⟨i,q,rfl⟩:=fe.1 m;have W:i<J l:=by simpa using q
 refine⟨⟨l[i],?_⟩,by simp[World.frozen?,E]⟩;have:=L5 h i af;simp only[mO];rw[this];simp[W]};{obtain⟨i,q,rfl⟩:=fe.1 m;rfl}}
def Q6(w:G)(x:Int)(c:List dV)(l:List Lf):Prop:=c=[.U x]/\l=[]
def Q6.W(w w':G)(x:Int)(c:List dV)(l:List Lf)(h:Q6 w x c l)(_:∀a∈l,w'.heap[a.b]?=w.heap[a.b]?):Q6 w' x c l:=h
def Rd.kR(h:Rd w v xs)(r:xw v xs A)(s:∀a∈A,w'.heap[a.b]?=w.heap[a.b]?):Rd w' v xs:=by
 obtain⟨p,c,rfl,j⟩:=h;refine⟨p,c,rfl,?_⟩;obtain j|⟨b,o,rfl,j⟩:=j;{exact .L j};{refine .R ⟨b,o,rfl,λi m=>?_⟩;let⟨V,N,M,R,y⟩:=r.at;obtain⟨S,E,x,l,B,-,D,u,-,q⟩:=y i m;obtain⟨rfl,rfl⟩:=Ao B;have:w'.heap[b]?=w.heap[b]?:=s ⟨b,o+i*1,.u8⟩ (q _ (by rw[show l=_ from u];simp));exact(gj this _).Z (j i m)}
def iZ.kR(h:iZ w v xs)(r:Dg v xs A)(s:∀a∈A,w'.heap[a.b]?=w.heap[a.b]?):iZ w' v xs:=by
 obtain⟨p,c,rfl,j⟩:=h;refine⟨p,c,rfl,?_⟩;obtain j|⟨b,o,rfl,j⟩:=j;{exact .L j};{refine .R ⟨b,o,rfl,λi m=>?_⟩;let⟨V,N,M,R,y⟩:=r.at;obtain⟨S,E,x,l,B,-,D,u,-,q⟩:=y i m;obtain⟨rfl,rfl⟩:=Ao B;have:w'.heap[b]?=w.heap[b]?:=s ⟨b,o+i*1,.u64⟩ (q _ (by rw[show l=_ from u];simp));exact(gj this _).Z (j i m)}
def CJ(w:G)(x:Ev)(c:List dV)(l:List Lf):Prop:=
 ∃p i,c=[.I x.1,.S p (J x.2) i]/\Rd w (.S p (J x.2) i) x.2/\tG (.S p (J x.2) i)/\xw (.S p (J x.2) i) x.2 l
def CJ.W(w w':G)(x:Ev)(c:List dV)(l:List Lf)(h:CJ w x c l)(j:∀a∈l,w'.heap[a.b]?=w.heap[a.b]?):CJ w' x c l:=by
 obtain⟨p,r,q,o,m,i⟩:=h;exact⟨p,r,q,o.kR i j,m,i⟩
variable {xs:List Ev}
def qi.W(h:qi w v xs A)(o:∀a∈A,w'.heap[a.b]?=w.heap[a.b]?):qi w' v xs A:=by
 refine h.imp λx b a l u j q=>?_;obtain⟨p,c,m,i,s,r⟩:=q;refine⟨p,c,m,i,?_,r⟩;have:w'.heap[b]?=w.heap[b]?:=o ⟨b,a,.i64⟩ (j _ (by rw[i];simp));exact(gj this _).Z s
def sj.kR(h:sj w v xs)(R:qi w v xs A)(y:∀a∈A,w'.heap[a.b]?=w.heap[a.b]?):sj w' v xs:=by
 obtain⟨p,c,rfl,j⟩:=h;refine⟨p,c,rfl,?_⟩;obtain j|⟨b,o,rfl,j⟩:=j;{exact .L j};{
 refine .R ⟨b,o,rfl,λi e he=>?_⟩;let⟨Ls,en,lL,eA,fD⟩:=R.at;obtain⟨b',o',x,l,e1,s,rD,W,-,r⟩:=fD i (bg.1 he).1;obtain⟨rfl,rfl⟩:=Ao e1;rw[he]at s;cases s;obtain⟨q,cc,lb,D,Z,X⟩:=W;have B:w'.heap[b]?=w.heap[b]?:=y ⟨b,o+i*2,.i64⟩ (r _ (by rw[D];simp));let⟨N,u,m,M,E⟩:=j i e he;have:u=.S q (J e.2) cc:=by rw[Z]at m;exact(AG m).C
 subst this;exact⟨(gj B _).Z N,_,(gj B _).Z m,M.kR X (λa V=>y a (r a (by rw[D];simp[V]))),E⟩}
def mg(w:G)(x:aB)(c:List dV)(l:List Lf):Prop:=
 ∃p i,c=[.U x.1,.I x.2.1,.S p (J x.2.2) i]/\sj w (.S p (J x.2.2) i) x.2.2/\qi w (.S p (J x.2.2) i) x.2.2 l
def mg.W(w w':G)(x:aB)(c:List dV)(l:List Lf)(h:mg w x c l)(i:∀a∈l,w'.heap[a.b]?=w.heap[a.b]?):mg w' x c l:=by
 obtain⟨p,q,o,m,j⟩:=h;exact⟨p,q,o,m.kR j i,qi.W j i⟩
def kF(w:G)(x:ar)(c:List dV)(l:List Lf):Prop:=
 ∃i j q u o s m r E D B y,l=E++(D++(B++y))/\c=[.S i (J x.A) j,.S q (J x.V) u,.U x.D,.I x.M,.S o (J x.y) s,.U x.P,.U x.F,.S m (J x.X) r]∧
  (Rd w (.S i (J x.A) j) x.A/\tG (.S i (J x.A) j)/\xw (.S i (J x.A) j) x.A E)/\(Rd w (.S q (J x.V) u) x.V/\xw (.S q (J x.V) u) x.V D)∧
  (iZ w (.S o (J x.y) s) x.y/\Dg (.S o (J x.y) s) x.y B)/\(iZ w (.S m (J x.X) r) x.X/\Dg (.S m (J x.X) r) x.X y)
def kF.W(w w':G)(x:ar)(c:List dV)(l:List Lf)(h:kF w x c l)(j:∀a∈l,w'.heap[a.b]?=w.heap[a.b]?):kF w' x c l:=by
 obtain⟨B,c0,y,c1,u,c4,s,Z,N,M,E,D,rfl,X,⟨W,V,q⟩,⟨S,o⟩,⟨R,m⟩,⟨Ec,r⟩⟩:=h;exact⟨B,c0,y,c1,u,c4,s,Z,N,M,E,D,rfl,X,⟨W.kR q (λa i=>j a (by simp[i])),V,q⟩,⟨S.kR o (λa i=>j a (by simp[i])),o⟩,⟨R.kR m (λa i=>j a (by simp[i])),m⟩,⟨Ec.kR r (λa i=>j a (by simp[i])),r⟩⟩
def OwnT.read{α:Type}{el:G->α->List dV->List Lf->Prop}{xs:List α}(h:OwnT el ty sz B w v xs Ls):∃p m,v=.S p (J xs) m/\(xs=[]\/∃g,p=(Ad g 0)/\∀(i:Nat)(x:α),xs[i]?=Y x->∃c l,el w x c l/\∀(j:Nat)(u:dV),c[j]?=Y u->I w (Ad g (0+i*sz+j))=Y u):=by
 obtain⟨cs,h1,h2,D,y,W,h6,h7⟩:=h;obtain⟨rfl,E⟩|⟨g,m,X,rfl,hb,Z,-,-,-,-⟩:=id y.2;{exact⟨dN,0,by rw[E],.L (sX.1 E)⟩};{
 refine⟨_,m,rfl,.R ⟨g,rfl,λi x o=>?_⟩⟩;have V:=(bg.1 o).1;obtain⟨c,hc⟩:∃x,cs[i]?=Y x:=⟨_,bD af⟩;obtain⟨l,M⟩:∃x,Ls[i]?=Y x:=⟨_,bD af⟩;refine⟨c,l,W i x c l o hc M,λj u r=>?_⟩;have s:J c=sz:=D c (bu hc);have R:j<sz:=aK (bg.1 r).1;have N:i*sz+sz<=J xs*sz:=by rw[<-DC];exact Pd _ V
 rw[mO,y.cellAt (i*sz+j) af,ax9 D hc R];exact r}
def OwnT.ev(h:OwnT CJ 119 2 B w v es Ls):sj w v es/\∃A,qi w v es A/\gh B w A:=by
 refine⟨?_,h.lv (Ew w) λx c l b a M hc hf R N S=>?_⟩;{obtain⟨p,o,rfl,m⟩:=h.read;refine⟨p,o,rfl,?_⟩;obtain m|⟨g,rfl,m⟩:=m;{exact .L m};{refine .R ⟨g,0,rfl,λi e he=>?_⟩;obtain⟨c,l,⟨q,E,rfl,u,s,r⟩,D⟩:=m i e he;exact⟨D 0 _ rfl,_,D 1 _ rfl,u,s⟩}};{obtain⟨q,E,rfl,u,s,r⟩:=M;refine⟨⟨b,a,.i64⟩::l,⟨q,E,l,rfl,hc 1 _ rfl,r⟩,?_,?_,λy j=>?_⟩;{rw[kI,AL];refine⟨λhm=>?_,S⟩;let⟨y,j,e⟩:=fe.1 hm;simp only[jy]at e;exact R y j e.1};{intro y j;obtain rfl|j:=fU.1 j;{exact⟨⟨_,hc 0 _ rfl⟩,hf _⟩};{exact N y j}};{obtain rfl|j:=fU.1 j;{exact .R ⟨rfl,aj,aj⟩};{exact .L j}}}
variable {es:List aB}
def OwnT.se(h:OwnT mg 97 3 B w v es Ls):kV w v es/\∃A,kG w v es A/\gh B w A:=by
 refine⟨?_,h.lv (Di w) λx c l b a M hc hf E N R=>?_⟩;{obtain⟨p,q,rfl,m⟩:=h.read;refine⟨p,q,rfl,?_⟩;obtain m|⟨g,rfl,m⟩:=m;{exact .L m};{refine .R ⟨g,0,rfl,λi e he=>?_⟩;obtain⟨c,l,⟨r,D,rfl,u,s⟩,o⟩:=m i e he;exact⟨o 0 _ rfl,o 1 _ rfl,_,o 2 _ rfl,u⟩}};{obtain⟨r,D,rfl,u,s⟩:=M;refine⟨⟨b,a,.u64⟩::⟨b,a+1,.i64⟩::l,⟨r,D,l,rfl,hc 2 _ rfl,s⟩,?_,?_,λy j=>?_⟩;{rw[kI,AL,kI,AL];refine⟨λhm=>?_,λhm=>?_,R⟩;{obtain e|hm:=fU.1 hm;{simp at e};{let⟨y,j,e⟩:=fe.1 hm;simp only[jy]at e;exact E y j e.1}};{let⟨y,j,e⟩:=fe.1 hm;simp only[jy]at e;exact E y j e.1}};{intro y j;obtain rfl|j:=fU.1 j;{exact⟨⟨_,hc 0 _ rfl⟩,hf _⟩};{obtain rfl|j:=fU.1 j;{exact⟨⟨_,hc 1 _ rfl⟩,hf _⟩};{exact N y j}}};{obtain rfl|j:=fU.1 j;{exact .R ⟨rfl,aj,aj⟩};{obtain rfl|j:=fU.1 j;{exact .R ⟨rfl,aj,aj⟩};{exact .L j}}}}
def bX6(E:i≠j)(h:((A++A').map λa=>(a.b,a.o)).Nodup)(q:∀y∈A++A',y.b≠b\/(y.o≠a+i/\y.o≠a+j)):((A++(⟨b,a+i,k1⟩::⟨b,a+j,k2⟩::A')).map λa=>(a.b,a.o)).Nodup:=by
 rw[pK,Cd]at h⊢;obtain⟨D,B,u⟩:=h;refine⟨D,?_,λx M y m=>?_⟩;{rw[kI,AL,kI,AL];refine⟨λhm=>?_,λhm=>?_,B⟩;{obtain e|hm:=fU.1 hm;{simp at e;exact E e};{let⟨y,m,e⟩:=fe.1 hm;simp only[jy]at e;obtain h|h:=q y (by simp[m]);{exact h e.1};{exact h.1 e.2}}};{let⟨y,m,e⟩:=fe.1 hm;simp only[jy]at e;obtain h|h:=q y (by simp[m]);{exact h e.1};{exact h.2 e.2}}};{obtain⟨z,s,rfl⟩:=fe.1 M;have r:=q z (by simp[s]);rw[kI,kI]at m;obtain rfl|m:=fU.1 m;{intro e;simp only[jy]at e;obtain h|h:=r;{exact h e.1};{exact h.1 e.2}};{obtain rfl|m:=fU.1 m;{intro e;simp only[jy]at e;obtain h|h:=r;{exact h e.1};{exact h.2 e.2}};{exact u _ (Xs s) _ m}}}
def OwnT.no{es:List ar}(h:OwnT kF 141 8 B w v es Ls):gJ w v es/\∃A,lK w v es A/\gh B w A:=by
 refine⟨?_,h.lv (Eu w) λx c l b a iL hc hf M N aJ=>?_⟩;{obtain⟨p,R,rfl,E⟩:=h.read;refine⟨p,R,rfl,?_⟩;obtain E|⟨g,rfl,E⟩:=E;{exact .L E};{refine .R ⟨g,0,rfl,λi e he=>?_⟩;obtain⟨c,l,⟨X,c0,W,c1,V,c4,S,c7,D,u,s,r,-,rfl,⟨h3,h4,h5⟩,⟨h6,h7⟩,⟨h8,Z⟩,⟨Ec,KE⟩⟩,q⟩:=E i e he;exact⟨_,_,_,_,⟨q 0 _ rfl,q 1 _ rfl,q 2 _ rfl,q 3 _ rfl,q 4 _ rfl,q 5 _ rfl,q 6 _ rfl,q 7 _ rfl,h3,h6,h8,Ec,h4⟩⟩}};{
 obtain⟨X,c0,W,c1,V,c4,S,c7,D,u,s,r,rfl,rfl,⟨h3,h4,h5⟩,⟨h6,h7⟩,⟨h8,Z⟩,⟨Ec,KE⟩⟩:=iL;refine⟨D++(u++(⟨b,a+2,.u64⟩::⟨b,a+3,.i64⟩::(s++(⟨b,a+5,.u64⟩::⟨b,a+6,.u64⟩::r)))),
  ⟨X,c0,W,c1,V,c4,S,c7,D,u,s,r,rfl,⟨hc 0 _ rfl,h5⟩,⟨hc 1 _ rfl,h7⟩,⟨hc 4 _ rfl,Z⟩,⟨hc 7 _ rfl,KE⟩⟩,?_,?_,λy m=>?_⟩
 {
 have s1:(((D++(u++s))++(⟨b,a+5,.u64⟩::⟨b,a+6,.u64⟩::r)).map λa=>(a.b,a.o)).Nodup:=bX6 bf (by simpa using aJ) (λy m=>.L (M y (by simpa using m)));have s2:=bX6 (A:=D++u) (A':=s++(⟨b,a+5,.u64⟩::⟨b,a+6,.u64⟩::r)) (b:=b) (a:=a) (k1:=.u64) (k2:=.i64) (i:=2) (j:=3) bf (by simpa using s1) (λy m=>by simp only[jd,fU]at m;obtain(m|m)|m|rfl|rfl|m:=m;{exact .L (M y (by simp[m]))};{exact .L (M y (by simp[m]))};{exact .L (M y (by simp[m]))};{exact .R aj};{exact .R aj};{exact .L (M y (by simp[m]))})
 simpa using s2};{intro y m;simp only[jd,fU]at m;obtain m|m|rfl|rfl|m|rfl|rfl|m:=m;{exact N y (by simp[m])};{exact N y (by simp[m])};{exact⟨⟨_,hc 2 _ rfl⟩,hf _⟩};{exact⟨⟨_,hc 3 _ rfl⟩,hf _⟩};{exact N y (by simp[m])};{exact⟨⟨_,hc 5 _ rfl⟩,hf _⟩};{exact⟨⟨_,hc 6 _ rfl⟩,hf _⟩};{exact N y (by simp[m])}};{simp only[jd,fU]at m;obtain m|m|rfl|rfl|m|rfl|rfl|m:=m;{exact .L (by simp[m])};{exact .L (by simp[m])};{exact .R ⟨rfl,aj,aj⟩};{exact .R ⟨rfl,aj,aj⟩};{exact .L (by simp[m])};{exact .R ⟨rfl,aj,aj⟩};{exact .R ⟨rfl,aj,aj⟩};{exact .L (by simp[m])}}}
variable {xs:List aB}
def kG.W(h:kG w v xs A)(m:∀a∈A,w'.heap[a.b]?=w.heap[a.b]?):kG w' v xs A:=by
 refine h.imp λx b a l B j r=>?_;obtain⟨p,c,o,i,u,s⟩:=r;refine⟨p,c,o,i,?_,qi.W s (λy q=>m y (j y (by rw[i];simp[q])))⟩;have:w'.heap[b]?=w.heap[b]?:=m ⟨b,a,.u64⟩ (j _ (by rw[i];simp));exact(gj this _).Z u
def lK.W{xs:List ar}(h:lK w v xs A)(D:∀a∈A,w'.heap[a.b]?=w.heap[a.b]?):lK w' v xs A:=by
 refine h.imp λx b a l hx j E=>?_;obtain⟨r,c0,q,c1,o,c4,m,c7,B,y,u,s,i,⟨Z,X⟩,⟨W,V⟩,⟨S,R⟩,⟨N,M⟩⟩:=E;have:w'.heap[b]?=w.heap[b]?:=D ⟨b,a+2,.u64⟩ (j _ (by rw[i];simp));have hc:=gj this;exact⟨r,c0,q,c1,o,c4,m,c7,B,y,u,s,i,⟨(hc _).Z Z,X⟩,⟨(hc _).Z W,V⟩,⟨(hc _).Z S,R⟩,⟨(hc _).Z N,M⟩⟩
def kV.kR(h:kV w v xs)(R:kG w v xs A)(D:∀a∈A,w'.heap[a.b]?=w.heap[a.b]?):kV w' v xs:=by
 obtain⟨p,c,rfl,j⟩:=h;refine⟨p,c,rfl,?_⟩;obtain j|⟨b,o,rfl,j⟩:=j;{exact .L j};{
 refine .R ⟨b,o,rfl,λi e he=>?_⟩;let⟨Ls,en,lL,eA,fD⟩:=R.at;obtain⟨b',o',x,l,e1,B,rD,W,-,y⟩:=fD i (bg.1 he).1;obtain⟨rfl,rfl⟩:=Ao e1;rw[he]at B;cases B;obtain⟨q,cc,lb,E,Z,X⟩:=W;have s:w'.heap[b]?=w.heap[b]?:=D ⟨b,o+i*3,.u64⟩ (y _ (by rw[E];simp));let⟨N,r,u,m,M⟩:=j i e he;have:u=.S q (J e.2.2) cc:=by rw[Z]at m;exact(AG m).C
 subst this;exact⟨(gj s _).Z N,(gj s _).Z r,_,(gj s _).Z m,M.kR X (λa V=>D a (y a (by rw[E];simp[V])))⟩}
variable {xs:List ar}
def gJ.kR(h:gJ w v xs)(hl:lK w v xs A)(D:∀a∈A,w'.heap[a.b]?=w.heap[a.b]?):gJ w' v xs:=by
 obtain⟨p,c,rfl,r⟩:=h;refine⟨p,c,rfl,?_⟩;obtain r|⟨b,o,rfl,r⟩:=r;{exact .L r};{
 refine .R ⟨b,o,rfl,λi e he=>?_⟩;let⟨Ls,en,lL,eA,fD⟩:=hl.at;obtain⟨b',o',x,l,e1,B,rD,hP,-,u⟩:=fD i (bg.1 he).1;obtain⟨rfl,rfl⟩:=Ao e1;rw[he]at B;cases B;obtain⟨p0,c0,p1,c1,p4,c4,p7,c7,l0,Z,X,W,E,⟨h2,h3⟩,⟨h4,h5⟩,⟨h6,h7⟩,⟨h8,h9⟩⟩:=hP;have hb:w'.heap[b]?=w.heap[b]?:=D ⟨b,o+i*8+2,.u64⟩ (u _ (by rw[E];simp));have hc:=gj hb;let⟨P,V,H,iU,j⟩:=r i e he;have S:P=_:=AG (j.c0.C.Z h2);have R:V=_:=AG (j.c1.C.Z h4);have N:H=_:=AG (j.c4.C.Z h6);have M:iU=_:=AG (j.c7.C.Z h8);subst S R N M;have s:∀y,(y∈l0\/y∈Z\/y∈X\/y∈W)->w'.heap[y.b]?=w.heap[y.b]?:=λy q=>D y (u y (by rw[E];obtain q|q|q|q:=q<;>simp[q]));exact⟨_,_,_,_,⟨(hc _).Z j.c0,(hc _).Z j.c1,(hc _).Z j.c2,(hc _).Z j.c3,(hc _).Z j.c4,(hc _).Z j.c5,(hc _).Z j.c6,(hc _).Z j.c7,
  j.r0.kR h3 (λa m=>s a (.L m)),j.r1.kR h5 (λa m=>s a (.R (.L m))),j.r4.kR h7 (λa m=>s a (.R (.R (.L m)))),j.r7.kR h9 (λa m=>s a (.R (.R (.R m)))),j.k0⟩⟩}
theorem ek4(h:∀c∈cs,J c=sz)(hc:cs[i]?=Y c)(m:j<sz)(u:dV):(cs.set i (c.set j u)).flatten=cs.flatten.set (i*sz+j) u:=by
 induction cs generalizing i with
 |nil=>simp at hc
 | cons d cs ih=>
  cases i with
  |zero=>
   simp at hc;subst hc;rw[Pu,tW,tW,List.set_append_left _ _ (by rw[h d aj];omega)];simp
  |succ i=>
   rw[aV0,tW,tW,Xw _ _ (by rw[h d aj,DC];omega),h d aj,ih (λc hc=>h c (by simp[hc])) (by simpa using hc)];congr 2;rw[DC];omega
def OwnT.ptr{α:Type}{el:G->α->List dV->List Lf->Prop}{n cap:Nat}{xs:List α}(h:OwnT el ty sz B w (.S p n cap) xs Ls)(u:J xs=n)(V:0<n):∃g,p=(Ad g 0)/\B<=g/\g<U w.heap/\n<=cap:=by
 have j:=h.lt;obtain⟨cs,R,N,M,o,E,D,y⟩:=h;obtain⟨i,q⟩|⟨g,W,r,i,m,x,s,_⟩:=o.2;{omega};{simp only[rj]at i;obtain⟨rfl,-,rfl⟩:=i;exact⟨g,rfl,m,(j.1 g rfl).2,af⟩}
def OwnT.px(h:OwnT mg 97 3 B w v es Ls)(hM:∀a∈Ls.flatten,a.b<M)(Z:∀b,v.ownBlock=Y b->b<M):∃A,kG w v es A/\gh B w A/\∀a∈A,a.b<M:=by
 have h':OwnT (λw x c l=>mg w x c l/\∀y∈l,y.b<M) 97 3 B w v es Ls:=by obtain⟨cs,h1,R,D,h4,h5,h6,h7⟩:=h;exact⟨cs,h1,R,D,h4,λi x c l q hc r=>⟨h5 i x c l q hc r,λy j=>hM y (DD.2 ⟨l,bu r,j⟩)⟩,h6,h7⟩
 let⟨A,N,u⟩:=h'.lv (λx b a l=>Di w x b a l/\∀y∈l,y.b=b\/y.b<M) λx c l b a X hc hf S fL aJ=>by obtain⟨⟨W,cc,rfl,R,D⟩,s⟩:=X;refine⟨⟨b,a,.u64⟩::⟨b,a+1,.i64⟩::l,⟨⟨W,cc,l,rfl,hc 2 _ rfl,D⟩,λy j=>?_⟩,?_,?_,λy j=>?_⟩;{obtain rfl|j:=fU.1 j;{exact .L rfl};{obtain rfl|j:=fU.1 j;{exact .L rfl};{exact .R (s y j)}}};{rw[kI,AL,kI,AL];refine⟨λhm=>?_,λhm=>?_,aJ⟩;{obtain e|hm:=fU.1 hm;{simp at e};{let⟨y,j,e⟩:=fe.1 hm;simp only[jy]at e;exact S y j e.1}};{let⟨y,j,e⟩:=fe.1 hm;simp only[jy]at e;exact S y j e.1}};{intro y j;obtain rfl|j:=fU.1 j;{exact⟨⟨_,hc 0 _ rfl⟩,hf _⟩};{obtain rfl|j:=fU.1 j;{exact⟨⟨_,hc 1 _ rfl⟩,hf _⟩};{exact fL y j}}};{obtain rfl|j:=fU.1 j;{exact .R ⟨rfl,aj,aj⟩};{obtain rfl|j:=fU.1 j;{exact .R ⟨rfl,aj,aj⟩};{exact .L j}}}
 refine⟨A,N.imp λx b a l _ _ h=>h.1,u,λa ha=>?_⟩;obtain⟨p,c,LL,rfl,q1,rfl,m⟩:=N;let⟨l,r,V⟩:=DD.1 ha;let⟨i,E⟩:=wR r;have rE:=(bg.1 E).1;obtain⟨x,q⟩:∃x,es[i]?=Y x:=⟨_,bD af⟩;obtain m|⟨b,o,rfl,m⟩:=m;{subst m;simp at q};{obtain e|e:=(m i x l q E).2 a V;{rw[e];exact Z b rfl};{exact e}}
abbrev gK(B:Nat)(w:G)(v:dV)(l:LI):Prop:=w.ownsRow B 27 1 v (J l) (l.map (Value.int .u64))
def gK.form(h:gK B w v l):∃p c,v=.S p (J l) c:=by
 obtain⟨rfl,i⟩|⟨g,m,j,rfl,_⟩:=h.2;{exact⟨dN,0,by rw[i]⟩};{exact⟨_,_,rfl⟩}
variable {a:Act}
theorem bI5{Q:iE}(gR:o.guard=dN)(s x:Operand)(ho:o.op=.call {callee:=.builtin .append,args:=#[s,x],argTypes:=#[61,61]})(B:Nat)(v:dV)(l lm:LI)(y:Int)(mT:O (lm=l++[y]))(g:Nat)(hs:a.eval s=v)(hx:a.eval x=.T g 1 1)(cX:gK B w v l)(hc:I w (Ad g 0)=dU y)(hl:J l<4194304)(hB:B<=U w.heap)(h:∀p' c' w',gK B w' (.S p' (J lm) c') lm->w.grownBy w' v.ownBlock->wpList dG ops Q rest (a.put o.dst (.S p' (J lm) c')) w'):wpList dG ops Q (o::rest) a w:=by
 let⟨i,hi,iD,fw,fI⟩:=kx Tryz.infoU64;refine Dt gR 61 ho i (z:=.U 0) 1 underlying61 hi iD fw fI rfl bf v hs cX g 1 1 [.U y] hx rfl (λj u hu=>?_) (λu hu=>by simp at hu;subst hu;rfl) jC af hB ?_;{
 cases j with
 |zero=>simp at hu;subst hu;exact hc
 |succ j=>simp at hu}
 {
 intro v' w' h1 h2 _;obtain rfl:=ae mT;have iW:gK B w' v' (l++[y]):=by unfold gK;rw[dm,pK];exact h1
 obtain⟨p',c',rfl⟩:=iW.form;exact h p' c' w' iW h2}
def gK.h(h:gK B w v l)(o:B'<=B):gK B' w v l:=by
 refine⟨h.1,?_⟩;obtain h|⟨g,j,i,rfl,m,r⟩:=h.2;{exact .L h};{exact .R ⟨g,j,i,rfl,af,r⟩}
def gK.H(h:gK B w v l)(i:Bw w w'):gK B w' v l:=
 Pa (row:=dN) h (ei2 i) (by by_cases e:v.ownBlock=dN<;>simp[e])
def ZT(w:G)(v:dV):Prop:=(∀(a:Addr)(n c:Nat),v=.S a n c->a.off=0/\a.spot=dN/\∀j,n<=j->j<c->I w (Ad a.block j)=dU 0)/\∀(n c:Nat),v=.S dN n c->c=0
def ZT.W(h:ZT w v)(i:∀b,v.ownBlock=Y b->w'.heap[b]?=w.heap[b]?):ZT w' v:=⟨λa n c e=>by
 let⟨r,q,o⟩:=h.1 a n c e;refine⟨r,q,λj m hc=>(Hz (i _ (by rw[e];rfl))).Z (o j m hc)⟩,h.2⟩
def ZT.nil(w:G):ZT w aq:=⟨λa n c e=>by simp at e,λn c e=>by simp only[rj]at e;exact e.2.2.C⟩
def oU(B:Nat)(w:G)(v:dV)(l:LI):Prop:=gK B w v l/\ZT w v
variable {k:Nat}
def cT3(h:j<k):(Builtin.zeroCells (Value.cells (.U 0)) k)[j]?=dU 0:=by
 have e:Value.cells (.U 0)=#[.U 0]:=rfl;rw[e,Builtin.zeroCells];simp[h,Nat.mod_one]
variable {xs:List dV}
def bR0(i:TypeInfo)(V:Tryz.prog.info? 27=i)(hz:i.zero=dU 0)(E:i.size=1)(hb:i.bytes=8){n:Nat}(M:w.ownsRow base 27 1 v n xs)(Z:ZT w v){a:Addr}(c:Nat)(hl:J news=m*1)(N:∀j u,news[j]?=Y u->I w (a.add j)=Y u)(h1:∀u∈news,u.oneCell')(IN:n+m<=maxLen)(IE:(n+m)*8<=140737488355328)(MK:base<=U w.heap):∃D w',(Builtin.append_ #[61,61] ty #[v,.S (Y a) m c]).run dG w=.ok D w'/\w'.ownsRow base 27 1 D (n+m) (xs++news)/\w.grownBy w' v.ownBlock/\ZT w' D:=by
 let⟨D,w',R,h2,h3,h4⟩:=aT8 (P:=dG) w base 61 ty 27 i (.U 0) 1 8 Tryz.underlying61 V hz E hb rfl bf v n xs M a m c news hl N h1 IN IE MK;refine⟨D,w',R,h2,h3,?_⟩;have fp9:n+m<=9223372036854775807:=by simp only[maxLen]at IN;omega
 have X:J news=m*i.size:=E▸hl;have s:∀(xs:List dV)(k K:Nat),J xs=k->∀(W:G),ZT (W.alloc (dO (xs.toArray++Builtin.zeroCells (Value.cells (.U 0)) (K-k)) 27)) (.T (U W.heap) k K):=λxs k K hk W=>by refine⟨λa n c e=>?_,λn c e=>by simp at e⟩;simp only[rj,mn]at e;obtain⟨rfl,rfl,rfl⟩:=e;refine⟨rfl,rfl,λj hj hc=>?_⟩;rw[cell_of_row _ _ _ _ _ _ (heap_alloc_new W _),Array.getElem?_append_right (by simpa[hk]using hj)];simp only[List.size_toArray,hk];exact cT3 af
 obtain⟨rfl,rfl⟩|⟨g,B,y,rfl,IF,hg,nE,nI,UP,dP9⟩:=M.2;{by_cases hm:m=0;{rw[h4.2 ⟨rfl,hm⟩];exact ZT.nil _};{have r:=run_append_nil (P:=dG) w 61 ty 27 i (.U 0) Tryz.underlying61 V hz a m c news X N af af (by rw[hb];omega);rw[R]at r;simp only[TW]at r;obtain⟨rfl,rfl⟩:=r;exact s news m _ af w.drew}};{
 by_cases ar3:n+m<=B;{
 have bg7:n*i.size+J news<=y.size:=by rw[E,hl,UP];omega
 have r:=run_append_room (P:=dG) w 61 ty 27 i Tryz.underlying61 V g n B y hg a m c news X N h1 ar3 bg7;rw[R]at r;simp only[TW]at r;obtain⟨rfl,rfl⟩:=r;refine⟨λb n' c' e=>?_,λn c e=>by simp at e⟩;simp only[rj,mn]at e;obtain⟨rfl,rfl,rfl⟩:=e;obtain⟨-,-,q⟩:=Z.1 _ _ _ rfl;refine⟨rfl,rfl,λj hj hc=>?_⟩;have q1:=q j af hc;rw[cell_of_row _ _ _ _ _ _ hg]at q1;rw[cell_of_row _ _ _ _ _ _ (setRow_heap w g y _ _ _ hg),E,sV,pI bq,JS];rw[<-q1,<-aX0];congr 1;simp;omega};{have x:∀j u,xs[j]?=Y u->I w (((Ad g 0):Addr).add j)=Y u:=M.cells (g:=g) rfl;have XV:J xs=n*i.size:=E▸M.1;have r:=run_append_grow (P:=dG) w 61 ty 27 i (.U 0) Tryz.underlying61 V hz (Ad g 0) n B xs XV x a m c news X N af af (growslice_fits af (hb▸IE));rw[R]at r;simp only[TW]at r;obtain⟨rfl,rfl⟩:=r;have hx1:=M.1;have e:xs.toArray++news.toArray=(xs++news).toArray:=aj;rw[e];exact s (xs++news) (n+m) _ (by rw[dm];omega) w.drew}}
theorem Tb{Q:iE}(gR:o.guard=dN){s x:Operand}(ho:o.op=.call {callee:=.builtin .append,args:=#[s,x],argTypes:=#[61,61]})(v:dV){lm:LI}(mT:O (lm=l++[y]))(g:Nat)(hs:a.eval s=v)(hx:a.eval x=.T g 1 1)(cX:oU B w v l)(hc:I w (Ad g 0)=dU y)(hl:J l<4194304)(hB:B<=U w.heap)(h:∀p' c' w',oU B w' (.S p' (J lm) c') lm->w.grownBy w' v.ownBlock->wpList dG ops Q rest (a.put o.dst (.S p' (J lm) c')) w'):wpList dG ops Q (o::rest) a w:=by
 let⟨i,hi,iD,fw,fI⟩:=kx Tryz.infoU64;let⟨v',w',hr,h1,h2,h3⟩:=bR0 (ty:=o.type) i hi iD fw fI cX.1 cX.2 (a:=Ad g 0) (m:=1) 1 (news:=[.U y]) rfl (λj u hu=>by
  cases j with
  |zero=>simp at hu;subst hu;rw[Fx];exact hc
  |succ j=>simp at hu) (λu hu=>by simp at hu;subst hu;rfl) jC af hB
 refine Lib.wpList_append_run w gR s x _ _ ho _ _ hs hx _ _ hr ?_;obtain rfl:=ae mT;have iW:gK B w' v' (l++[y]):=by unfold gK;rw[dm,pK];exact h1
 obtain⟨p',c',rfl⟩:=iW.form;exact h p' c' w' ⟨iW,h3⟩ h2
def oU.H(h:oU B w v l)(i:Bw w w'):oU B w' v l:=⟨h.1.H i,h.2.W λb e=>i.block b (h.1.lt b e).2⟩
def oU.form(h:oU B w v l):∃p c,v=.S p (J l) c:=h.1.form
def oU.lt(h:oU B w v l):∀k,v.ownBlock=Y k->B<=k/\k<U w.heap:=LY h.1
def oU.nil(B:Nat)(w:G):oU B w aq []:=⟨by simpa[gK]using lZ w B 27 1,ZT.nil w⟩
def RT{α:Type}(el:G->α->List dV->Prop)(ty:TypeId)(j B:Nat)(w:G)(v:dV)(xs:List α):Prop:=
 ∃cs:List (List dV),J cs=J xs/\(∀c∈cs,J c=j)/\w.ownsRow B ty j v (J xs) cs.flatten/\∀(i:Nat)(x:α)(c:List dV),xs[i]?=x->cs[i]?=Y c->el w x c
section
variable {α:Type}{el:World->α->List Value->Prop}{ty:TypeId}{sz B:Nat}{w w':World}{v:Value}{xs:List α}
def RT.nil(el:G->α->List dV->Prop)(ty:TypeId)(sz B:Nat)(w:G):RT el ty sz B w aq []:=
 ⟨[],rfl,λc hc=>by simp at hc,by simpa using lZ w B ty sz,λi x c hx=>by simp at hx⟩
def RT.lt(h:RT el ty sz B w v xs):∀b,v.ownBlock=Y b->B<=b/\b<U w.heap:=by
 obtain⟨cs,o,m,i,j⟩:=h;exact i.lt
def RT.vr(h:RT el ty sz B w v xs):∀b,v.ownBlock=Y b->∃cur,w.heap[b]?=dO cur ty:=λb i=>by
 obtain⟨cs,s,r,m,q⟩:=h;obtain⟨rfl,-⟩|⟨g,o,cur,rfl,-,j,-⟩:=m.2;{simp[Value.ownBlock]at i};{simp only[Value.ownBlock,mn]at i;subst i;exact⟨cur,j⟩}
def RT.form(h:RT el ty sz B w v xs):∃p c,v=.S p (J xs) c/\J xs<=c/\c<=maxLen/\(0<J xs->∃g,p=(Ad g 0)):=by
 obtain⟨cs,u,s,j,r⟩:=h;obtain⟨rfl,e⟩|⟨g,i,m,rfl,-,q,a,b,-⟩:=j.2;{exact⟨dN,0,by rw[e],af,jC,λo=>af⟩};{exact⟨_,i,rfl,a,b,λ_=>⟨g,rfl⟩⟩}
def RT.W(h:RT el ty sz B w v xs)(r:∀x c,el w x c->el w' x c)(hr:∀b,v.ownBlock=Y b->w'.heap[b]?=w.heap[b]?):RT el ty sz B w' v xs:=by
 obtain⟨cs,N,M,q,E⟩:=h;refine⟨cs,N,M,⟨q.1,?_⟩,λi x c s hc=>r x c (E i x c s hc)⟩;obtain u|⟨g,o,m,rfl,D,y,j⟩:=q.2;{exact .L u};{exact .R ⟨g,o,m,rfl,D,(hr g rfl).Z y,j⟩}
variable {B':Nat}
def RT.h(h:RT el ty sz B w v xs)(s:B'<=B):RT el ty sz B' w v xs:=by
 obtain⟨cs,y,x,o,u⟩:=h;refine⟨cs,y,x,⟨o.1,?_⟩,u⟩;obtain q|⟨g,m,j,rfl,r,i⟩:=o.2;{exact .L q};{exact .R ⟨g,m,j,rfl,gv s r,i⟩}
variable {v':dV}{c:List dV}{cs:List (List dV)}
def RT.snoc{x:α}(r:J cs=J xs)(E:∀c∈cs,J c=sz)(D:∀(i:Nat)(x:α)(c:List dV),xs[i]?=Y x->cs[i]?=Y c->el w x c)(q:∀x c,el w x c->el w' x c)(s:el w x c)(hc:J c=sz)(M:w'.ownsRow B ty sz v' (J xs+1) (cs.flatten++c)):RT el ty sz B w' v' (xs++[x]):=by
 refine⟨cs++[c],by simp[r],λo j=>?_,by simpa using M,λi y o m j=>?_⟩;{obtain j|j:=jd.1 j;{exact E o j};{simp at j;subst j;exact hc}};{
 by_cases u:i<J xs;{rw[mj u]at m;rw[mj af]at j;exact q _ _ (D i y o m j)};{
 have N:i=J xs:=by have:=(bg.1 m).1;simp at this;omega
 subst N;rw[pI aA,xL]at m;rw[pI af,r,xL]at j;simp at m j;subst m j;exact q _ _ s}}
def RT.n{g n cap:Nat}(h:RT el ty sz B w (.T g n cap) xs):n=J xs:=by
 obtain⟨p,c,e,-⟩:=h.form;simp only[rj]at e;exact e.2.1
variable {i:Nat}
def RT.at{g n cap:Nat}(h:RT el ty sz B w (.T g n cap) xs){x:α}(r:xs[i]?=Y x):∃c,J c=sz/\el w x c/\(∀(j:Nat)(u:dV),c[j]?=Y u->I w (Ad g (i*sz+j))=Y u)/\∀o,w.frozen? (Ad g o)=dF:=by
 obtain rfl:=h.n;obtain⟨cs,S,D,y,R⟩:=h;have N:=(bg.1 r).1;obtain⟨c,hc⟩:∃x,cs[i]?=Y x:=⟨_,bD af⟩;have m:=D c (bu hc);refine⟨c,m,R i x c r hc,λj u s=>?_,λo=>y.frozenAt o⟩;have M:j<sz:=aK (bg.1 s).1;have E:i*sz+sz<=J xs*sz:=by rw[<-DC];exact Pd _ N
 rw[y.cellAt (i*sz+j) af,ax9 D hc M];exact s
variable {j:Nat}
def RT.put{g n cap:Nat}(h:RT el ty sz B w (.T g n cap) xs){x:α}(D:xs[i]?=Y x)(R:j<sz)(u:dV)(s:α)(M:∀y c,el w y c->el (w.setCell (Ad g (i*sz+j)) u) y c)(N:∀c,J c=sz->el w x c->el (w.setCell (Ad g (i*sz+j)) u) s (c.set j u)):RT el ty sz B (w.setCell (Ad g (i*sz+j)) u) (.T g n cap) (xs.set i s):=by
 obtain rfl:=h.n;obtain⟨cs,V,r,S,E⟩:=h;have W:=(bg.1 D).1;obtain⟨c,hc⟩:∃x,cs[i]?=Y x:=⟨_,bD af⟩;have o:=r c (bu hc);refine⟨cs.set i (c.set j u),by simp[V],λd m=>?_,?_,λk y d q m=>?_⟩;{obtain m|rfl:=Xn m;{exact r d m};{rw[rK,o]}};{rw[ek4 r hc R,rK];exact(S.stored _ u).1};{rw[uE]at q m;by_cases e:i=k;{subst e;rw[aM rfl,aM af]at q m;cases q;cases m;exact N c o (E i x c D hc)};{rw[aL e]at q m;exact M _ _ (E k y d q m)}}
end
def sF{o:Obj}(h:w.heap[b]?=o):b<U w.heap:=(JU.1 h).1
def Fr(T:List TypeId)(w w':G):Prop:=U w.heap<=U w'.heap/\∀(b:Nat)(i:iA)(j:TypeId)(m:Nat×Nat),j∉T->w.heap[b]?=dO i j m->w'.heap[b]?=dO i j m
def Fr.H{T:List TypeId}(h:Bw w w'):Fr T w w':=⟨h.size,λb j o m _ i=>(h.block b (sF i)).Z i⟩
def bH(h:Bw w w'):Fr [] w w':=Fr.H h
def Fr.refl(T:List TypeId)(w:G):Fr T w w:=⟨eG _,λ_ _ _ _ _ h=>h⟩
def Fr.Z{T:List TypeId}(h:Fr T w w1)(q:Fr T w1 w2):Fr T w w2:=⟨gv h.1 q.1,λb i j m o r=>q.2 b i j m o (h.2 b i j m o r)⟩
def Fr.sub{T T':List TypeId}(h:Fr T w w')(q:∀t∈T,t∈T'):Fr T' w w':=⟨h.1,λb i j m o r=>h.2 b i j m (λe=>o (q _ e)) r⟩
def Fr.set{T:List TypeId}{g:Nat}(r:w.heap[g]?=dO cur ty)(o:ty∈T):Fr T w (w.setCell (Ad g j) u):=by
 refine⟨aj,λb y x m q i=>?_⟩;have s:b≠g:=λe=>by subst e;rw[r]at i;simp at i;exact q (i.2.1▸o)
 exact(fT _ _ _ _ s).Z i
def Fr.grown{T:List TypeId}(j:w.grownBy w' r)(o:∀b,r=Y b->∃cur ty,w.heap[b]?=dO cur ty/\ty∈T):Fr T w w':=by
 refine⟨j.size,λb cur ty m q i=>?_⟩;refine(j.block b (sF i) (λe=>?_)).Z i;let⟨y,x,u,s⟩:=o b e.C;rw[u]at i;simp at i;exact q (i.2.1▸s)
def TB(w:G)(v:dV)(l:LI):Prop:=Rd w v l/\(∀b,v.ownBlock=Y b->l=[]\/∃i m,w.heap[b]?=dO i 5 m)/\tG v
def TU(B:Nat)(w:G)(v:dV)(l:LI):Prop:=iZ w v l/\(∀b,v.ownBlock=Y b->∃i,w.heap[b]?=dO i 27)/\ZT w v/\∀b,v.ownBlock=Y b->B<=b
def TB.T{T:List TypeId}(h:TB w v l)(hf:Fr T w w')(ht:5∉T:=by decide):TB w' v l:=by
 obtain⟨⟨p,c,rfl,hd⟩,h2,hc⟩:=h;by_cases hl:l=[];{exact⟨⟨p,c,rfl,.L hl⟩,λb _=>.L hl,hc⟩};obtain hd|⟨b,o,rfl,hd⟩:=hd;{exact absurd hd hl};obtain e|⟨cur,m,hb⟩:=h2 b rfl;{exact absurd e hl};have aP:=hf.2 b cur _ m ht hb;refine⟨⟨_,c,rfl,.R ⟨b,o,rfl,λi hi=>(gj (aP.Z hb.C) _).Z (hd i hi)⟩⟩,λb' e=>.R ?_,hc⟩;simp only[Value.ownBlock,mn]at e;subst e;exact⟨cur,m,aP⟩
def TU.T{T:List TypeId}(h:TU B w v l)(hf:Fr T w w')(ht:27∉T:=by decide):TU B w' v l:=by
 obtain⟨⟨p,c,rfl,hd⟩,h2,hz,h3⟩:=h;have hk:∀b,(Value.slice p (J l) c).ownBlock=Y b->w'.heap[b]?=w.heap[b]?:=λb e=>by let⟨cur,hb⟩:=h2 b e;exact(hf.2 b cur _ _ ht hb).Z hb.C
 refine⟨⟨p,c,rfl,?_⟩,λb e=>?_,hz.W hk,h3⟩;{obtain hd|⟨b,o,rfl,hd⟩:=hd;{exact .L hd};{exact .R ⟨b,o,rfl,λi hi=>(gj (hk b rfl) _).Z (hd i hi)⟩}};{let⟨cur,hb⟩:=h2 b e;exact⟨cur,(hk b e).Z hb⟩}
def Own.cF7(h:Own B w v l):tG v:=by
 obtain⟨rfl,-⟩|⟨g,j,i,rfl,-,m,hc,hm,-⟩:=h.2;{exact⟨_,_,_,rfl,eG _,cO _⟩};{exact⟨_,_,_,rfl,hc,hm⟩}
def Own.tb(h:Own B w v l):TB w v l:=⟨h.rd,λb e=>.R (by
 obtain⟨rfl,-⟩|⟨g,m,i,rfl,-,j,-⟩:=h.2;{simp[Value.ownBlock]at e};{simp only[Value.ownBlock,mn]at e;subst e;exact⟨i,_,j⟩}),h.cF7⟩
def TB.nil(w:G):TB w aq []:=⟨Rd.nil _,λb e=>.L rfl,_,_,_,rfl,eG _,cO _⟩
def TU.nil(w:G):TU B w aq []:=⟨⟨dN,0,rfl,.L rfl⟩,λb e=>by simp[Value.ownBlock]at e,ZT.nil w,λb e=>by simp[Value.ownBlock]at e⟩
def TU.h(h:TU B w v l)(i:B'<=B):TU B' w v l:=⟨h.1,h.2.1,h.2.2.1,λb e=>gv i (h.2.2.2 b e)⟩
def TC(B:Nat)(w:G)(v:dV)(l:LI):Prop:=Rd w v l/\(∀b,v.ownBlock=Y b->l=[]\/(B<=b/\∃i m,w.heap[b]?=dO i 5 m))/\tG v
def TC.tb(h:TC B w v l):TB w v l:=⟨h.1,λb e=>(h.2.1 b e).imp id And.right,h.2.2⟩
def TC.T{T:List TypeId}(h:TC B w v l)(hf:Fr T w w')(ht:5∉T:=by decide):TC B w' v l:=⟨(h.tb.T hf ht).1,λb e=>(h.2.1 b e).imp id λk=>⟨k.1,k.2.imp λcur k=>k.imp λm k=>hf.2 b cur _ m ht k⟩,h.2.2⟩
def TC.h(h:TC B w v l)(i:B'<=B):TC B' w v l:=⟨h.1,λb e=>(h.2.1 b e).imp id λk=>⟨gv i k.1,k.2⟩,h.2.2⟩
def TC.nil(w:G):TC B w aq []:=⟨Rd.nil _,λb e=>.L rfl,_,_,_,rfl,eG _,cO _⟩
def TC.dy(h:TC B w v l):∃p c,v=.S p (J l) c:=by
 obtain⟨⟨p,c,e,-⟩,-⟩:=h;exact⟨p,c,e⟩
def Own.tc(h:Own B' w v l)(i:B<=B'):TC B w v l:=⟨h.rd,λb e=>(h.tb.2.1 b e).imp id λk=>⟨gv i (h.lt b e).1,k⟩,h.cF7⟩
def KO(B:Nat)(w:G)(e:Ev)(c:List dV):Prop:=∃P,c=[.I e.1,P]/\TC B w P e.2
def CH(_:G)(x:aB×dV)(c:List dV):Prop:=c=[.U x.1.1,.I x.1.2.1,x.2]
def yk(B:Nat)(w:G)(nd:ar)(c:List dV):Prop:=∃P V H iU,c=[P,V,.U nd.D,.I nd.M,H,.U nd.P,.U nd.F,iU]/\TC B w P nd.A/\TC B w V nd.V/\TU B w H nd.y/\TU B w iU nd.X
abbrev mZ(B:Nat)(w:G)(v:dV)(es:List Ev):Prop:=RT (KO B) 119 2 B w v es
structure eh(B:Nat)(w:G)(v:dV)(ss:List aB)(Qs:List dV):Prop where
 len:J Qs=J ss
 row:RT CH 97 3 B w v (ss.zip Qs)
 tM:∀(i:Nat)(s:aB)(Q:dV),ss[i]?=s->Qs[i]?=Q->mZ B w Q s.2.2
 my:∀(i j:Nat)(Q Q':dV)(b:Nat),i≠j->Qs[i]?=Q->Qs[j]?=Q'->Q.ownBlock=b->Q'.ownBlock≠Y b
abbrev dh(B0 B:Nat)(w:G)(v:dV)(ns:List ar):Prop:=RT (yk B0) 141 8 B w v ns
abbrev jK(B:Nat)(w:G)(v:dV)(ns:List ar):Prop:=dh B B w v ns
def RT.T{α:Type}{el:G->α->List dV->Prop}{xs:List α}{T:List TypeId}(h:RT el ty sz B w v xs)(hf:Fr T w w')(ht:ty∉T)(iL:∀x c,el w x c->el w' x c):RT el ty sz B w' v xs:=
 h.W iL λb hb=>by let⟨cur,hc⟩:=h.vr b hb;exact(hf.2 b cur ty _ ht hc).Z hc.C
def KO.T{T:List TypeId}(hf:Fr T w w')(ht:5∉T)(x:Ev)(c:List dV)(h:KO B w x c):KO B w' x c:=by
 obtain⟨P,e,h1⟩:=h;exact⟨P,e,h1.T hf ht⟩
def yk.T{T:List TypeId}(hf:Fr T w w')(ht:5∉T)(hu:27∉T)(x:ar)(c:List dV)(h:yk B w x c):yk B w' x c:=by
 obtain⟨P,V,H,iU,e,h1,h2,h3,h4⟩:=h;exact⟨P,V,H,iU,e,h1.T hf ht,h2.T hf ht,h3.T hf hu,h4.T hf hu⟩
def dh.T{T:List TypeId}(h:dh B0 B w v ns)(hf:Fr T w w')(ht:5∉T/\27∉T/\141∉T:=by decide):dh B0 B w' v ns:=
 RT.T h hf ht.2.2 (yk.T hf ht.1 ht.2.1)
variable {es:List Ev}
def mZ.T{T:List TypeId}(h:mZ B w v es)(hf:Fr T w w')(ht:5∉T/\119∉T:=by decide):mZ B w' v es:=RT.T h hf ht.2 (KO.T hf ht.1)
def mZ.h(h:mZ B w v es)(j:B'<=B):mZ B' w v es:=by
 let⟨cs,s,r,q,o⟩:=RT.h h j;exact⟨cs,s,r,q,λi x c m hc=>(o i x c m hc).imp λP k=>⟨k.1,k.2.h j⟩⟩
def eh.T{T:List TypeId}(h:eh B w v ss Qs)(hf:Fr T w w')(ht:5∉T/\119∉T/\97∉T:=by decide):eh B w' v ss Qs:=
 ⟨h.len,RT.T h.row hf ht.2.2 (λ_ _ h=>h),λi s Q hs hq=>(h.tM i s Q hs hq).T hf ⟨ht.1,ht.2.1⟩,h.my⟩
def eh.nil(B:Nat)(w:G):eh B w aq [] []:=⟨rfl,RT.nil _ _ _ _ _,λi s Q h=>by simp at h,λi j Q Q' b _ h=>by simp at h⟩
def dh.put{g n cap:Nat}(h:dh B0 B w (.T g n cap) ns)(q:ns[i]?=nd)(s:j<8)(u:dV)(nd':ar)(r:∀w' P V H iU,TC B0 w' P nd.A->TC B0 w' V nd.V->TU B0 w' H nd.y->TU B0 w' iU nd.X->Fr [141] w w'->yk B0 w' nd' ([P,V,.U nd.D,.I nd.M,H,.U nd.P,.U nd.F,iU].set j u)):dh B0 B (w.setCell (Ad g (i*8+j)) u) (.T g n cap) (ns.set i nd')/\Fr [141] w (w.setCell (Ad g (i*8+j)) u):=by
 let⟨cur,hc⟩:=h.vr g rfl;have hf:Fr [141] w (w.setCell (Ad g (i*8+j)) u):=Fr.set hc aj;have o:5∉[141]:=bf;have m:27∉[141]:=bf;refine⟨RT.put h q s u nd' (yk.T hf o m) (λc _ he=>?_),hf⟩;obtain⟨P,V,H,iU,rfl,E,D,y,x⟩:=he;exact r _ P V H iU (E.T hf o) (D.T hf o) (y.T hf m) (x.T hf m) hf
theorem aG8{α β:Type}:∀(l:List α)(m:List β)(i:Nat)(a:α)(b:β),(l.zip m).set i (a,b)=(l.set i a).zip (m.set i b)
 |[],m,i,a,b=>aj
 |x::l,[],i,a,b=>by cases i<;>simp
 |x::l,y::m,0,a,b=>aj
 |x::l,y::m,i+1,a,b=>by simp[aG8 l m i a b]
def Tp{α:Type}{l:List α}{a:α}(h:l[i]?=a):l.set i a=l:=by
 let⟨m,j⟩:=bg.1 h;rw[<-j,List.set_getElem_self]
def eh.aJ2{g n cap:Nat}(h:eh B w (.T g n cap) ss Qs)(R:ss[i]?=s){Q v':dV}(N:Qs[i]?=Q) (kh:mZ B w1 v' q')(hg:w.grownBy w1 Q.ownBlock)(gP:∀b,v'.ownBlock=Y b->Q.ownBlock=Y b\/U w.heap<=b):eh B (w1.setCell (Ad g (i*3+2)) v') (.T g n cap) (ss.set i (s.1,s.2.1,q')) (Qs.set i v')/\Fr [119,97] w (w1.setCell (Ad g (i*3+2)) v'):=by
 have M:=(bg.1 R).1;have V:Fr [119] w w1:=Fr.grown hg λb m=>by let⟨cur,hc⟩:=(h.tM i s Q R N).vr b m;exact⟨cur,_,hc,aj⟩
 have X:RT CH 97 3 B w1 (.T g n cap) (ss.zip Qs):=RT.T h.row V bf (λ_ _ h=>h);let⟨cur,hc⟩:=X.vr g rfl;have S:Fr [97] w1 (w1.setCell (Ad g (i*3+2)) v'):=Fr.set hc aj;have hz:(ss.zip Qs)[i]?=Y (s,Q):=by rw[Ma];exact⟨R,N⟩
 have o:∀(k:Nat)(q:dV)(b:Nat),i≠k->Qs[k]?=Y q->q.ownBlock=Y b->v'.ownBlock≠Y b:=λk q b E hq m e=>by obtain e|e:=gP b e;{exact h.my i k Q q b E N hq e m};{obtain⟨y,qO⟩:∃y,ss[k]?=Y y:=⟨_,bD (h.len▸(bg.1 hq).1)⟩;have:=((h.tM k y q qO hq).lt b m).2;omega}
 refine⟨⟨by rw[rK,rK];exact h.len,?_,λk y q D hq=>?_,λk j Q1 Q2 b r x u m=>?_⟩,(V.sub aj).Z (S.sub aj)⟩;{
 have:=RT.put X hz (j:=2) af v' ((s.1,s.2.1,q'),v') (λ_ _ h=>h) (λc _ he=>by unfold CH at he⊢;subst he;rfl)
 rwa [aG8]at this};{rw[uE]at D hq;by_cases e:i=k;{subst e;rw[aM rfl,aM M]at D;rw[aM rfl,aM (h.len▸M)]at hq;cases D;cases hq;exact mZ.T kh S};{rw[aL e]at D hq;have E:=h.tM k y q D hq;refine mZ.T (RT.W E (KO.T V bf) λb m=>hg.block b (E.lt b m).2 (λW=>h.my i k Q q b e N hq W.C m)) S}};{rw[uE]at x u;by_cases e:i=k;{subst e;rw[aM rfl,aM (h.len▸M)]at x;rw[aL r]at u;cases x;exactλW=>o j Q2 b r u W m};{rw[aL e]at x;by_cases Z:i=j;{subst Z;rw[aM rfl,aM (h.len▸M)]at u;cases u;exact o k Q1 b e x m};{rw[aL Z]at u;exact h.my k j Q1 Q2 b r x u m}}}
def eh.dl{g n cap:Nat}(h:eh B w (.T g n cap) ss Qs)(o:ss[i]?=s)(d:Int):eh B (w.setCell (Ad g (i*3+1)) (.I d)) (.T g n cap) (ss.set i (s.1,d,s.2.2)) Qs/\Fr [97] w (w.setCell (Ad g (i*3+1)) (.I d)):=by
 let⟨cur,hc⟩:=h.row.vr g rfl;have hf:Fr [97] w (w.setCell (Ad g (i*3+1)) (.I d)):=Fr.set hc aj;have q:=(bg.1 o).1;obtain⟨Q,r⟩:∃Q,Qs[i]?=Y Q:=⟨_,bD (h.len▸q)⟩;have y:(ss.zip Qs)[i]?=Y (s,Q):=by rw[Ma];exact⟨o,r⟩
 refine⟨⟨by rw[rK];exact h.len,?_,λk x u m hq=>?_,h.my⟩,hf⟩;{
 have:=RT.put h.row y (j:=1) af (.I d) ((s.1,d,s.2.2),Q) (λ_ _ h=>h) (λc _ he=>by unfold CH at he⊢;subst he;rfl)
 rwa [aG8,Tp r]at this};{rw[uE]at m;by_cases e:i=k;{subst e;rw[aM rfl,aM q]at m;cases m;exact mZ.T (h.tM i s u o hq) hf};{rw[aL e]at m;exact mZ.T (h.tM k x u m hq) hf}}
def gK.rdu(h:gK B w v l):iZ w v l:=by
 obtain⟨rfl,m⟩|⟨g,j,q,rfl,u,s,r⟩:=h.2;{exact⟨dN,0,by rw[m],.L (sX.1 m)⟩};{refine⟨_,j,rfl,.R ⟨g,0,rfl,λi o=>?_⟩⟩;have:=L5 h i af;rw[mO,this];simp[im,o]}
def iZ.at{n c:Nat}(h:iZ w (.S p n c) l)(j:l[k]?=x):∃b o,p=(Ad b o)/\I w (Ad b (o+k))=dU x:=by
 obtain⟨u,y,e,m⟩:=h;have i:=(bg.1 j).1;obtain s|⟨b,o,r,q⟩:=m;{rw[s]at i;simp at i};{simp only[rj]at e;have:=q k i;rw[im,j,rJ]at this;exact⟨b,o,e.1.Z r,this⟩}
def eC6{x id:Int}(i:l[k]?=x)(h:(l.take k).contains id=dF)(j:¬x=id):(l.take (k+1)).contains id=dF:=by
 rw[pZ,i,List.contains_append,h];simpa using λe:id=x=>j e.C
def aZ0{c n:Nat}(r:Le l n){id:Int}(h:iZ w (.S p n c) l)(W:Mg n){B:Bool}(s:O (l.contains id=B)):dQ dG 168 #[.S p n c,.U id] w (Rb (.bool B) w):=by
 have R:=ag λ(y:G)(D:Bw w y)=>h.H D;go_in;go_wp2
 go_loopw[5](λj wr=>∃k:Nat,k<=n/\j=.I k/\O ((l.take k).contains id=dF)/\O (Bw w wr)) (λj _=>n-(intOf j).toNat)
 exact⟨0,cO _,rfl,(by show _=_;simp),aR _ _⟩;{obtain⟨k,X,rfl,hc,i⟩:=hrel;by_cases N:k<n;{have E:=bM k n;obtain⟨x,m⟩:∃x,l[k]?=Y x:=⟨_,bD (ae r▸N)⟩;obtain⟨b,o,rfl,V⟩:=(ae R _ i).at m;have u:=ag m;by_cases he:x=id;{subst he;have Z:(x==x):=aj;go_wp2;go_ret;refine⟨?_,i⟩;rw[<-ae s,aT3.2 (bu (ae u))];rfl};{have M:=ag (eC6 u hc he);go_wp2;go_roundw;exact⟨k+1,af,by go_num,M,i⟩;exact cW}};{have E:=fq k n;have q:=ae hc;rw[lY (by rw[ae r];omega),ae s]at q;subst q;go_wp2;go_ret;exact⟨rfl,i⟩}}
def cX4{x id:Int}(i:l[k]?=x):jF (l.take (k+1)) id=if x=id then jF (l.take k) id else jF (l.take k) id++[x]:=by
 rw[pZ,i,jF,Xl];by_cases h:x=id<;>simp[jF,h]
def We{id:Int}:J (jF l id)<=J l:=Uc _ _
def cd7{c n:Nat}(M:Le l n){id:Int}(h:iZ w (.S p n c) l)(hl:Mg n):dQ dG 160 #[.S p n c,.U id] w λr w'=>∃p' c',r=dR (.S p' (J (jF l id)) c')/\oU (U w.heap) w' (.S p' (J (jF l id)) c') (jF l id)/\Bw w w':=by
 have HR:=ag λ(w':G)(hb:Bw w w')=>h.H hb;go_in;go_wp2
 go_loopw[5,6](λov D wr=>∃(k:Nat)(L:LI),k<=n/\D=.I k/\O (jF (l.take k) id=L)/\O (oU (U w.heap) wr ov L)/\O (Bw w wr)) (λ_ D _=>n-(intOf D).toNat)
 exact⟨0,[],cO _,rfl,(by show _=_;simp[jF]),(oU.nil _ _),aR _ _⟩;{
 obtain⟨k,L,hk,rfl,E,ho,q⟩:=hrel;obtain⟨Z,cv,rfl⟩:=ho.form;have zr:=q.size;have X:J L<4194304:=by have h1:=We (l:=l.take k) (id:=id);have h2:=J3 k l;rw[ae E]at h1;have:=ae M;omega
 by_cases aH:k<n;{
 have cL:=bM k n;obtain⟨x,hx⟩:∃x,l[k]?=Y x:=⟨_,bD (ae M▸aH)⟩;obtain⟨b,o,rfl,qz⟩:=(ae HR _ q).at hx;have W:=cX4 (id:=id) hx;rw[ae E]at W;have R:=ag W;by_cases he:x=id;{
 subst he;have N:O (jF (l.take (k+1)) x=L):=by have:=ae R;rwa [aM rfl]at this
 go_wp2;go_roundw;exact⟨k+1,L,af,by go_num,N,ho,q⟩;exact cW};{
 have N:O (jF (l.take (k+1)) id=L++[x]):=by have:=ae R;rwa [aL he]at this
 go_wp2_with(at_builtin;refine Tb rfl rfl (B:=U w.heap) (.S Z (J L) cv) (l:=L) (lm:=L++[x]) (y:=x) rfl (U wr.heap) rfl rfl (oU.H ho (aD.alloc aA _)) aj X bq ?_);intro p' c' w' o2 dt;have bA:Bw wr (wr.alloc (dO #[.U x] 27)):=aD.alloc aA _;have b4:=ag ((ai (ae q) bA).grown dt bq (λb' e=>(ho.lt b' e).1));have O2:=ag o2;go_wp2;go_roundw;exact⟨k+1,L++[x],af,by go_num,N,O2,b4⟩;exact cW}};{have cL:=fq k n;have V:=ae E;rw[lY (by rw[ae M];omega)]at V;subst V;go_wp2;go_ret;exact⟨_,_,rfl,ho,q⟩}}
def qY(id:Int)(s:LI×Bool)(x:Int):LI×Bool:=if s.2=dF/\id<=x then(if x=id then(s.1++[id],dY)else(s.1++[id]++[x],dY))else(if x=id then s else(s.1++[x],s.2))
def Dw(l:LI)(id:Int):LI×Bool:=l.foldl (qY id) ([],dF)
theorem ag2(id:Int):∀(l acc:LI),l.foldl (qY id) (acc,dY)=(acc++jF l id,dY)
 |[],acc=>by simp[jF]
 |x::r,acc=>by rw[JR];by_cases h:x=id;{rw[show qY id (acc,dY) x=(acc,dY) by simp[qY,h],ag2 id r acc];simp[jF,h]};{rw[show qY id (acc,dY) x=(acc++[x],dY) by simp[qY,h],ag2 id r (acc++[x])];simp[jF,h]}
theorem cX8(l:LI)(id:Int):(if(Dw l id).2 then(Dw l id).1 else(Dw l id).1++[id])=mh l id:=by
 have key:∀(l acc:LI),(if(l.foldl (qY id) (acc,dF)).2 then(l.foldl (qY id) (acc,dF)).1 else(l.foldl (qY id) (acc,dF)).1++[id])=acc++mh l id:=by
  intro l
  induction l with
  |nil=>intro acc;simp[mh]
  |cons x r ih=>
   intro acc;rw[JR,mh];by_cases h:id<=x;{by_cases e:x=id;{rw[show qY id (acc,dF) x=(acc++[id],dY) by simp[qY,e],ag2,aM h];simp[jF,e]};{rw[show qY id (acc,dF) x=(acc++[id]++[x],dY) by simp[qY,e,h],ag2,aM h];simp[jF,e]}};{have e:¬x=id:=af;rw[show qY id (acc,dF) x=(acc++[x],dF) by simp[qY,e,h],ih (acc++[x]),aL h];simp}
 have:=key l [];rw[DE]at this;exact this
def cX6{x id:Int}(i:l[k]?=x):Dw (l.take (k+1)) id=qY id (Dw (l.take k) id) x:=by
 rw[pZ,i,Dw,Ud];rfl
def cX7{id:Int}{s:LI×Bool}:(qY id s x).1.length<=J s.1+2:=by
 unfold qY;split<;>split<;>simp
theorem bJ1(id:Int):∀(l:LI)(s:LI×Bool),(l.foldl (qY id) s).1.length<=J s.1+2*J l
 |[],s=>aj
 |x::r,s=>by have:=bJ1 id r (qY id s x);have:=cX7 (id:=id) (s:=s) (x:=x);rw[JR,kJ];omega
def dH7{c n:Nat}(en:Le l n){id:Int}(h:iZ w (.S p n c) l)(hl:Mg n):dQ dG 169 #[.S p n c,.U id] w λr w'=>∃p' c',r=dR (.S p' (J (mh l id)) c')/\oU (U w.heap) w' (.S p' (J (mh l id)) c') (mh l id)/\Bw w w':=by
 have HR:=ag λ(w':G)(hb:Bw w w')=>h.H hb;go_in;go_wp2
 go_loopw[5,6,7](λov dv iv wr=>∃(k:Nat)(L:LI)(d:Bool),k<=n/\iv=.I k/\dv=.bool d/\O (Dw (l.take k) id=(L,d))/\O (oU (U w.heap) wr ov L)/\O (Bw w wr)) (λ_ _ iv _=>n-(intOf iv).toNat)
 exact⟨0,[],dF,cO _,rfl,rfl,cM,(oU.nil _ _),aR _ _⟩;{
 obtain⟨k,L,d,hk,rfl,rfl,hL,ho,M⟩:=hrel;obtain⟨W,cv,rfl⟩:=ho.form;have zr:=M.size;have rQ:J L+1<4194304:=by have h1:=bJ1 id (l.take k) ([],dF);have h2:=J3 k l;have h3:=ae hL;unfold Dw at h3;rw[h3]at h1;have:=ae en;simp only[yS]at h1;omega
 by_cases aH:k<n;{
 have cL:=bM k n;obtain⟨x,hx⟩:∃x,l[k]?=Y x:=⟨_,bD (ae en▸aH)⟩;obtain⟨b,o,rfl,qz⟩:=(ae HR _ M).at hx;have bj:=cX6 (id:=id) hx;rw[ae hL]at bj;have iM:=ag bj;have HX:=ag hx;have AP:∀(y:Int)(wz:G)(Lz:LI)(pz:OA)(cz:Nat),O (oU (U w.heap) wz (.S pz (J Lz) cz) Lz)->Bw w wz->Bw wz (wz.alloc (dO #[.U y] 27)):=λy wz Lz pz cz _ _=>aD.alloc aA _;by_cases hd:d=dF/\id<=x;{
 obtain⟨rfl,hix⟩:=hd;have fs6:dD (id<=x):=by simpa using hix
 obtain⟨D,N⟩:∃D,O (D=L++[id]):=⟨_,rfl⟩;have lL1:=ag (by rw[ae N];simp:J D=J L+1);go_wp2_with(at_builtin;refine Tb rfl rfl (.S W (J L) cv) N (U wr.heap) rfl rfl (oU.H ho (aD.alloc aA _)) aj af bq ?_);intro p' c' w' X dt;have b4:=ag ((ai (ae M) (AP id wr L W cv ho M)).grown dt bq (λR e=>(ho.lt R e).1));have V:=ag X;have z4:=b4.size;have ft5:I w' (Ad b (o+k))=dU x:=by let⟨R,o',e',gi⟩:=(ae HR _ b4).at HX;obtain⟨rfl,rfl⟩:=Ao e';exact gi
 by_cases he:x=id;{subst he;have E:=ag (by have:=ae iM;rw[ae N];simpa[qY]using this:Dw (l.take (k+1)) x=(D,dY));have Gi:(x != x)=dF:=aj;go_wp2;go_roundw;exact⟨k+1,D,dY,af,by go_num,rfl,E,V,b4⟩;exact cW};{have E:=ag (by have:=ae iM;rw[ae N];simpa[qY,he,hix]using this:Dw (l.take (k+1)) id=(D++[x],dY));obtain⟨L2,IV⟩:∃L2,O (L2=D++[x]):=⟨_,rfl⟩;rw[<-ae IV]at E;go_wp2_with(at_builtin;refine Tb rfl rfl (.S p' (J D) c') IV (U w'.heap) rfl rfl (oU.H V (aD.alloc aA _)) aj (aK (ae lL1)) bq ?_);intro p'' c'' w'' o3 oF;have b5:=ag ((ai (ae b4) (AP x w' _ p' c' V b4)).grown oF bq (λR e=>(V.lt R e).1));have O3:=ag o3;go_wp2;go_roundw;exact⟨k+1,_,dY,af,by go_num,rfl,E,O3,b5⟩;exact cW}};{
 have hdd:(!d&&dD (id<=x))=dF:=by cases d<;>simp_all
 have hd2:d=dY\/¬id<=x:=by cases d<;>simp_all
 by_cases he:x=id;{subst he;obtain rfl:d:=hd2.resolve_right af;have E:=ag (by have:=ae iM;simpa[qY]using this:Dw (l.take (k+1)) x=(L,dY));have Gi:(x != x)=dF:=aj;go_wp2;go_roundw;exact⟨k+1,L,dY,af,by go_num,rfl,E,ho,M⟩;exact cW};{
 have E:=ag (by have:=ae iM;simpa[qY,he,hd]using this:Dw (l.take (k+1)) id=(L++[x],d));obtain⟨D,N⟩:∃D,O (D=L++[x]):=⟨_,rfl⟩;rw[<-ae N]at E;have hdq:d=dF->dD (id<=x)=dF:=λe=>by subst e;simpa using hd
 cases d;{have hix:=hdq rfl;go_wp2_with(at_builtin;refine Tb rfl rfl (.S W (J L) cv) N (U wr.heap) rfl rfl (oU.H ho (aD.alloc aA _)) aj af bq ?_);intro p' c' w' X dt;have b4:=ag ((ai (ae M) (AP x wr L W cv ho M)).grown dt bq (λR e=>(ho.lt R e).1));have V:=ag X;go_wp2;go_roundw;exact⟨k+1,_,dF,af,by go_num,rfl,E,V,b4⟩;exact cW};{go_wp2_with(at_builtin;refine Tb rfl rfl (.S W (J L) cv) N (U wr.heap) rfl rfl (oU.H ho (aD.alloc aA _)) aj af bq ?_);intro p' c' w' X dt;have b4:=ag ((ai (ae M) (AP x wr L W cv ho M)).grown dt bq (λR e=>(ho.lt R e).1));have V:=ag X;go_wp2;go_roundw;exact⟨k+1,_,dY,af,by go_num,rfl,E,V,b4⟩;exact cW}}}};{have cL:=fq k n;have gi:=ae hL;rw[lY (by rw[ae en];omega)]at gi;have Z:=cX8 l id;rw[gi]at Z;cases d;{obtain⟨D,N⟩:∃D,O (D=L++[id]):=⟨_,rfl⟩;have E:=ag (by rw[ae N];simpa using Z.C:mh l id=D);go_wp2_with(at_builtin;refine Tb rfl rfl (.S W (J L) cv) N (U wr.heap) rfl rfl (oU.H ho (aD.alloc aA _)) aj af bq ?_);intro p' c' w' X dt;have b4:=ag ((ai (ae M) ((aR (U wr.heap) wr).alloc aA _)).grown dt bq (λR e=>(ho.lt R e).1));have V:=ag X;go_wp2;go_ret;rw[ae E];exact⟨_,_,rfl,V,b4⟩};{have E:=ag (by simpa using Z.C:mh l id=L);go_wp2;go_ret;rw[ae E];exact⟨_,_,rfl,ho,M⟩}}}
def qD{α:Type}(f:α->α)(k:Nat)(xs:List α):List α:=(xs.take k).map f++xs.drop k
def cx1{α:Type}(f:α->α){xs:List α}{x:α}(h:xs[k]?=x):(qD f k xs)[k]?=x:=by
 have i:=(bg.1 h).1;rw[qD,pI bq,ir,rM,aU9 af,JS];simpa using h
def cx0{α:Type}(f:α->α){xs:List α}{x:α}(h:xs[k]?=x):qD f (k+1) xs=(qD f k xs).set k (f x):=by
 let⟨i,e⟩:=bg.1 h;rw[qD,qD,pZ,h,Xw _ _ bq,ir,rM,aU9 af,xL,Hu i,Pu,pK];simp
def cx2{α:Type}(f:α->α){xs:List α}(h:J xs<=k):qD f k xs=xs.map f:=by
 rw[qD,lY h,Xj h,yQ]
def ek8{α:Type}(f:α->α)(k:Nat)(xs:List α):J (qD f k xs)=J xs:=by
 rw[qD,dm,ir,<-dm,Ic]
def bQ(w:G)(cs:iA)(ty:TypeId):∃W,W=w.alloc (dO cs ty)/\Bw w W/\U W.heap=U w.heap+1/\aQ W (U w.heap) cs.toList/\W.heap[U w.heap]?=dO cs ty:=
 ⟨_,rfl,aD.alloc aA _,aj,aQ.alloc w cs ty,by show(w.heap.push _)[U w.heap]?=_;simp⟩
def aQ.de(h:aQ w b vs)(j:w'.heap[b]?=w.heap[b]?):aQ w' b vs:=
 ⟨λi v m=>(gj j _).Z (h.1 i v m),λo=>(AO j).Z (h.2 o)⟩
def gu(w:G)(b:Nat)(v0 v1 v2 v3 v4 v5:dV):G:=(((((w.setCell (Ad b 0) v0).setCell (Ad b 1) v1).setCell (Ad b 2) v2).setCell (Ad b 3) v3).setCell (Ad b 4) v4).setCell (Ad b 5) v5
def tR(b:Nat)(v0 v1 v2 v3 v4 v5:dV):Below b w (gu w b v0 v1 v2 v3 v4 v5):=
 ((((((aR b w).setCell (p:=(Ad b 0)) aA _).setCell (p:=(Ad b 1)) aA _).setCell (p:=(Ad b 2)) aA _).setCell (p:=(Ad b 3)) aA _).setCell (p:=(Ad b 4)) aA _).setCell (p:=(Ad b 5)) aA _
def nW(h:∃cur,w.heap[b]?=dO cur ty):(∃cur,(w.setCell (Ad b j) u).heap[b]?=dO cur ty)/\Fr [ty] w (w.setCell (Ad b j) u):=by
 obtain⟨cur,hc⟩:=h;refine⟨?_,Fr.set hc aj⟩;simp only[World.setCell,AK,od,hc,Hx];exact⟨_,rfl⟩
def vx(h:w.heap[b]?=dO cur ty):Fr [ty] w (gu w b v0 v1 v2 v3 v4 v5):=by
 have r:=nW (j:=0) (u:=v0) ⟨cur,h⟩;have q:=nW (j:=1) (u:=v1) r.1;have o:=nW (j:=2) (u:=v2) q.1;have m:=nW (j:=3) (u:=v3) o.1;have i:=nW (j:=4) (u:=v4) m.1;have s:=nW (j:=5) (u:=v5) i.1;exact((((r.2.Z q.2).Z o.2).Z m.2).Z i.2).Z s.2
def Sb(Qs o:List dV)(N:Nat):Prop:=∀(i:Nat)(Q:dV)(b:Nat),o[i]?=Q->Q.ownBlock=b->(∃(j:Nat)(m:dV),Qs[j]?=m/\m.ownBlock=b)\/N<=b
def cK6(Qs:List dV)(S:dV)(w w':G):Prop:=∀b,b<U w.heap->(∀(i:Nat)(Q:dV),Qs[i]?=Q->Q.ownBlock≠Y b)->S.ownBlock≠Y b->w'.heap[b]?=w.heap[b]?
def uj(id:Int)(ev:Ev)(s:aB):aB:=if s.1=id then(s.1,s.2.1,tS s.2.2 ev)else s
def ei9(ss:List aB)(id:Int)(ev:Ev):ss.map (uj id ev)=Ed ss id ev:=rfl
def ei7(e g x t:Int)(p:OA)(n c:Nat)(q:OA)(m d:Nat)(ss:List aB)(Qs:List dV)(en:Le ss n)(id K:Int)(pe:OA)(ne ce:Nat)(P:LI)(eP:Le P ne)(B:Nat)(w:G)(hS:O (eh B w (.S p n c) ss Qs))(hP:O (TB w (.S pe ne ce) P))(hB:B<=U w.heap)(hn:Mg n)(aN:ne<=1048576):dQ dG 206 #[bS e g x t (.S p n c) (.S q m d),.U id,.agg #[.I K,.S pe ne ce]] w λr w'=>r=dR (bS e g x t (.S p n c) (.S q m d))/\(∃sk,eh B w' (.S p n c) (Ed ss id (K,P)) sk/\Sb Qs sk (U w.heap))/\cK6 Qs (.S p n c) w w'/\Fr [119,97] w w'/\Below B w w':=by
 let⟨ie,UK,iD,fw,fI⟩:=kx Tryz.infoEv;let⟨W0,cI,b0,z0,C0,T0⟩:=bQ w #[.U e,.U g,.U x,.I t,.S p n c,.S q m d] 41;let⟨W1,fx,b1,z1,C1,T1⟩:=bQ W0 #[.I K,.S pe ne ce] 119;let⟨W,hW,b2,z2,C2,T2⟩:=bQ W1 #[.U 0,.U 0,.U 0,.I 0,aq,aq] 41;rw[z0]at C1 T1 z1;rw[z1]at C2 T2 z2;have bW:=ai (ai b0 b1) b2;have VW:=du (((C0.H af b1).H af b2)) (C1.H af b2) C2;have Ll:=du ((b2.block _ af).Z ((b1.block _ af).Z T0)) ((b2.block _ af).Z T1) T2;have SW:=ag (hS.T (bH bW));have PW:=ag (hP.T (bH bW));have HQ0:O (∀(i:Nat)(Q:dV),Qs[i]?=Y Q->∀b,Q.ownBlock=Y b->b<U w.heap):=λi Q hq b M=>by obtain⟨s,hs⟩:∃s,ss[i]?=Y s:=⟨_,bD (hS.len▸(bg.1 hq).1)⟩;exact((hS.tM i s Q hs hq).lt b M).2
 have HP0:O (∀b,(Value.slice p n c).ownBlock=Y b->b<U w.heap):=λb M=>(hS.row.lt b M).2;go_in;go_wp2;rw[<-cI,<-fx,<-hW]
 go_loopw[7](λiv wr=>∃(k:Nat)(Qk:List dV),k<=n/\iv=.I k/\U W.heap<=U wr.heap/\O (eh B wr (.S p n c) (qD (uj id (K,P)) k ss) Qk)/\O (Sb Qs Qk (U W.heap))/\O (Fr [119,97] W wr)/\O (cK6 Qs (.S p n c) W wr)/\O (Below B W wr)) (λiv _=>n-(intOf iv).toNat)
 exact⟨0,Qs,cO _,rfl,eG _,(by show eh _ _ _ _ _;rw[show qD (uj id (K,P)) 0 ss=ss by simp[qD]];exact ae SW),(λi Q b hq e=>.L ⟨i,Q,hq,e⟩),Fr.refl _ _,(λb _ _ _=>rfl),aR _ _⟩;{
 obtain⟨k,Qk,hk,rfl,zr,oO,rU,kM,tz,jl⟩:=hrel;have hQe:O (∀(i:Nat)(Q:dV),Qk[i]?=Y Q->Q.ownBlock≠Y (U w.heap+1)):=λi Q hq e=>by obtain⟨j,Q',hj,e'⟩|h:=ae rU i Q _ hq e;{have:=ae HQ0 j Q' hj _ e';omega};{omega}
 have IL:O (wr.heap[U w.heap+1]?=W.heap[U w.heap+1]?):=ae tz _ af (λi Q hq e=>aK (ae HQ0 i Q hq _ e)) (λe=>aK (ae HP0 _ e));have wk:IntKind.i64.wrap ((k:Int)+1)=((k+1:Nat):Int):=by rw[kP _ af];omega
 have D0:=ag (VW.1.de ((kM.2 _ _ _ _ bf Ll.1).Z Ll.1.C));have D1:=ag (VW.2.1.de IL);have D2:=ag (VW.2.2.de ((kM.2 _ _ _ _ bf Ll.2.2).Z Ll.2.2.C));have s4:=D0.1 4 _ rfl;by_cases Ki:k<n;{
 have dU9:=bM k n;obtain⟨⟨iI,Dl,qu⟩,hs⟩:∃s,ss[k]?=Y s:=⟨_,bD (ae en▸Ki)⟩;have hf:=cx1 (uj id (K,P)) hs;have bj:=cx0 (uj id (K,P)) hs;obtain⟨Q,hQ⟩:∃Q,Qk[k]?=Y Q:=⟨_,bD (by rw[oO.len,ek8,ae en];exact Ki)⟩;have hz:((qD (uj id (K,P)) k ss).zip Qk)[k]?=Y ((iI,Dl,qu),Q):=by rw[Ma];exact⟨hf,hQ⟩
 obtain⟨y,rfl⟩:∃y,p=(Ad y 0):=by obtain⟨p',c',e',-,-,hp⟩:=oO.row.form;simp only[rj]at e';let⟨y,hg⟩:=hp (aK (bg.1 hz).1);exact⟨y,e'.1.Z hg⟩
 obtain⟨cs,-,iL,kL,Kk⟩:=oO.row.at hz;unfold CH at iL;subst iL;have r0:=kL 0 _ rfl;have r2:=kL 2 _ rfl;rw[DL]at r0;have hq:=oO.tM k _ Q hf hQ;obtain⟨pq,cq,rfl,nE,nI,-⟩:=hq.form;let⟨nq,CF⟩:=aY (J qu);simp only at r0 r2 hq hQ hf nE;rw[CF]at r2 nE hQ hq;have HQ:=gI hQ hf hq CF;have iM:=ag bj;clear kL hz bj hf hQ hq CF hs;by_cases he:iI=id;{
 subst he;have Gi:(iI != iI)=dF:=aj;by_cases h7:nq<7;{
 have h7':(nq:Int)<7:=af;have E1:=ag (by rw[ae iM];simp only[uj,od,tS,HQ.2.2.2,h7]:qD (uj iI (K,P)) (k+1) ss=(qD (uj iI (K,P)) k ss).set k (iI,Dl,qu++[(K,P)]));go_wp2_with fail;let⟨vA,dr⟩:=aG wr.drew;have cR:=lG dr;have zA:=cR.size;have V:O (∀v,Bw vA v->(I v (Aw w 4)=dK y n c/\I v (Ax w 0)=dI K/\I v (Ax w 1)=dS pe ne ce)/\I v (Ad y (k*3+2))=dS pq nq cq/\TB v (.S pe ne ce) P/\eh B v (.T y n c) (qD (uj iI (K,P)) k ss) Qk/\mZ B v (.S pq nq cq) qu/\(∀o,v.frozen? (Ad y o)=dF)/\v.heap[U w.heap]?=wr.heap[U w.heap]?/\v.heap[U w.heap+1]?=wr.heap[U w.heap+1]?/\Bw wr v):=λv hv=>by have X:Bw wr v:=ai cR hv;have rR:y<U wr.heap:=(oO.row.lt y rfl).2;exact⟨⟨al s4 X,al (D1.1 0 _ rfl) X,al (D1.1 1 _ rfl) X⟩,al r2 X,((PW.T kM).T (bH X)),oO.T (bH X),HQ.2.2.1.T (bH X),λo=>(X.frozen (p:=(Ad y o)) rR).Z (Kk o),X.block _ af,X.block _ af,X⟩
 have GW:O ((∃cur,wr.heap[U w.heap]?=dO cur 41)/\∃cur,wr.heap[y]?=dO cur 97):=⟨⟨_,kM.2 _ _ _ _ bf Ll.1⟩,oO.row.vr y rfl⟩;refine fk (λw'=>I w' (Aw w 4)=dK y n c/\I w' (Ax w 0)=dI K/\I w' (Ax w 1)=dS pe ne ce) (dr▸(ae V vA aD).1) λhS=>?_;rw[<-dr]at hS⊢;clear dr cR r0 r2 s4;refine iR 0 1 2 3 4 5 6 7 hS ?_;refine iC 9 10 11 12 hS ?_;refine ry [8,13] ?_;refine cn (λD hK=>?_) ?_;rotate_left;refine cn (λD hK=>?_) ?_;rotate_left;exact fg;have cq:=(ae V _ aD).2.1;go_simp;refine bL hK (by exact(ae V _ aD).1) λhS=>?_;clear hK D cq;refine ry [13] ?_;refine cn (λD hK=>?_) ?_;rotate_left;exact fg;rotate_right;refine jg (Ci eP (ae V _ aD).2.2.1.1 af) ?_;rintro r v1⟨p6,c6,rfl,o6,gr⟩;refine⟨_,rfl,?_⟩;have O6:=ag o6;have B6:=ag gr;refine bL hK (by exact(ae V v1 gr).1) λhS=>?_;refine tn 14 hS ?_;refine ry [15] ?_;refine cn (λD hK=>?_) ?_;rotate_left;exact fg;rotate_right;go_simp;obtain⟨Z,hZ,bZ,zZ,CZ,-⟩:=bQ v1 #[.I K,.S p6 ne c6] 119;rw[<-hZ];have BZ:=ag (ai B6 bZ);have xz:=ag CZ;have TZ:=ag ((O6.tc (B:=B) af).T (bH bZ));refine bL hK (by exact(ae V Z BZ).1) λhS=>?_;rotate_left;refine jg (Ci eP (ae V _ aD).2.2.1.1 af) ?_;rintro r v1⟨p6,c6,rfl,o6,gr⟩;refine⟨_,rfl,?_⟩;have O6:=ag o6;have B6:=ag gr;refine bL hK (by exact(ae V v1 gr).1) λhS=>?_;refine tn 14 hS ?_;refine ry [8,15] ?_;refine cn (λD hK=>?_) ?_;rotate_left;refine cn (λD hK=>?_) ?_;rotate_left;exact fg;rotate_left;have cq:=(ae V _ B6).2.1;go_simp;refine bL hK (by exact(ae V _ B6).1) λhS=>?_;clear hK D cq;refine ry [15] ?_;refine cn (λD hK=>?_) ?_;rotate_left;exact fg;rotate_right;go_simp;obtain⟨Z,hZ,bZ,zZ,CZ,-⟩:=bQ v1 #[.I K,.S p6 ne c6] 119;rw[<-hZ];have BZ:=ag (ai B6 bZ);have xz:=ag CZ;have TZ:=ag ((O6.tc (B:=B) af).T (bH bZ));refine bL hK (by exact(ae V Z BZ).1) λhS=>?_;clear hK D hZ bZ CZ;rotate_left;go_simp;obtain⟨Z,hZ,bZ,zZ,CZ,-⟩:=bQ v1 #[.I K,.S p6 ne c6] 119;rw[<-hZ];have BZ:=ag (ai B6 bZ);have xz:=ag CZ;have TZ:=ag ((O6.tc (B:=B) af).T (bH bZ));refine bL hK (by exact(ae V Z BZ).1) λhS=>?_;clear hK D hZ bZ CZ;refine ry [8] ?_;refine cn (λD hK=>?_) ?_;rotate_left;exact fg;rotate_right;have cq:=(ae V _ BZ).2.1;go_simp;refine bL hK (by exact(ae V _ BZ).1) λhS=>?_;clear hK D cq
 all_goals(
  obtain⟨-,r2,-,SZ,sq,fz,Wm,Wl,wZ⟩:=ae V Z BZ;let⟨cs,g1,g2,g3,g4⟩:=id sq;rw[HQ.2.2.2]at g3;have zZ2:=BZ.size;refine ry [16] ?_;refine cn (λD hK=>?_) ?_;rotate_left;exact fg;rotate_right;refine Tn aS aS ie 2 underlying45 UK iD fw fI rfl bf aS g3 (g:=U v1.heap) 1 1 [.I K,.S p6 ne c6] aS rfl (λj u hu=>xz.1 j u hu) (λu hu=>by simp at hu;obtain rfl|rfl:=hu<;>rfl) jC af af ?_;intro v' N gx hg gP;have f9:Fr [119] Z N:=Fr.grown hg λb M=>by let⟨cur,hc⟩:=sq.vr b M;exact⟨cur,_,hc,aj⟩
  have JG:mZ B N v' (qu++[(K,P)]):=RT.snoc g1 g2 g4 (KO.T f9 bf) ⟨_,rfl,TZ⟩ rfl (HQ.2.2.2▸gx);have zE:∀b,(Value.slice pq nq cq).ownBlock=Y b->b≠U w.heap/\b≠U w.heap+1/\b≠y:=λb M=>by let⟨cur,hc⟩:=sq.vr b M;refine⟨λe=>?_,λe=>?_,λe=>?_⟩;{let⟨Ek,gi⟩:=GW.1;rw[e,Wm,gi]at hc;simp at hc};{exact hQe k _ HQ.1 (e▸M)};{let⟨Ek,gi⟩:=GW.2;rw[e,(wZ.block y (sF gi)),gi]at hc;simp at hc}
  have k0:N.heap[U w.heap]?=Z.heap[U w.heap]?:=hg.block _ af (λe=>(zE _ e.C).1 rfl);have k1:N.heap[U w.heap+1]?=Z.heap[U w.heap+1]?:=hg.block _ af (λe=>(zE _ e.C).2.1 rfl);have Cr:y<U Z.heap:=(SZ.row.lt y rfl).2;have kg:N.heap[y]?=Z.heap[y]?:=hg.block _ Cr (λe=>(zE _ e.C).2.2 rfl);have S9:I N (Aw w 4)=dK y n c/\I N (Ax w 0)=dI K/\I N (Ax w 1)=dS pe ne ce:=⟨(gj k0 _).Z hS.1,(gj k1 _).Z hS.2.1,(gj k1 _).Z hS.2.2⟩;obtain⟨pN,cN,rfl,-⟩:=JG.form;have lN:J (qu++[(K,P)])=nq+1:=by rw[dm,HQ.2.2.2];rfl
  rw[lN]at JG gP gx⊢;let⟨ST,FT⟩:=eh.aJ2 SZ HQ.2.1 HQ.1 JG hg gP;have TU2:=bG ST FT;have r9:=(gj kg _).Z r2;have f9z:∀o,N.frozen? (Ad y o)=dF:=λo=>(AO kg).Z (fz o);have B9:=ag ((jl.Z (wZ.h af)).grown hg af (λb M=>(sq.lt b M).1));have VR:=gI gP zE k1 Wl;have qP:y≠U w.heap/\y≠U w.heap+1:=⟨λe=>by
   let⟨cur,hc⟩:=GW.1;let⟨Ek,gi⟩:=GW.2;rw[e,hc]at gi;simp at gi,λe=>by
   let⟨Ek,gi⟩:=GW.2;rw[e,ae IL,Ll.2.1]at gi;simp at gi⟩
  have z9:=hg.size;have lg:=(SZ.row.lt y rfl).1;refine bL hK (by exact S9) λhS=>?_;clear hK D gx gP g1 g2 g3 g4 f9 sq JG zE k0 k1 kg ST FT SZ r2 fz Wm Wl lN;refine fO 17 18 hS ?_;refine ry [19] ?_;refine cn (λD hK=>?_) ?_;rotate_left;exact fg;rotate_right;go_simp;have S10:I (N.setCell (Ad y (k*3+2)) (.S pN (nq+1) cN)) (Aw w 4)=dK y n c/\I (N.setCell (Ad y (k*3+2)) (.S pN (nq+1) cN)) (Ax w 0)=dI K/\I (N.setCell (Ad y (k*3+2)) (.S pN (nq+1) cN)) (Ax w 1)=dS pe ne ce:=⟨(gj (fT _ _ _ _ (Fw qP.1)) _).Z hS.1,(gj (fT _ _ _ _ (Fw qP.2)) _).Z hS.2.1,(gj (fT _ _ _ _ (Fw qP.2)) _).Z hS.2.2⟩;refine bL hK (by exact S10) λhS=>?_;clear hK D r9 f9z;refine fy ?_;clear hS S9 S10;go_wp2;go_roundw
  case rel=>exact⟨k+1,Qk.set k (.S pN (nq+1) cN),af,by go_num,bq,(by show eh _ _ _ _ _;rw[ae E1];exact TU2.1),(λi Q b hq e=>by
   rw[uE]at hq;split at hq;{split at hq;{cases hq;obtain e2|e2:=VR.1 _ e;{exact rU k _ _ HQ.1 e2};{exact .R af}};{cases hq}};{exact rU i Q b hq e}),(kM.Z (Fr.H wZ)).Z TU2.2,(λb M hq hp=>by
   have IF:b≠y:=λe=>hp (by rw[e];rfl);exact(fT _ _ _ _ IF).Z ((hg.block b af (λe=>by obtain⟨j,Q',hj,e'⟩|h:=ae rU k _ _ HQ.1 e.C;{exact hq j Q' hj e'};{omega})).Z ((wZ.block b af).Z (ae tz b M hq hp)))),B9.setCell lg _⟩
  case measure=>simp[intOf];omega)}
 {
 have h7':¬(nq:Int)<7:=af;by_cases h8:nq=7;{
 have QN:((nq:Int)==7):=by simp;omega
 have E1:=ag (by rw[ae iM];simp[uj,tS,HQ.2.2.2,h8]:qD (uj iI (K,P)) (k+1) ss=(qD (uj iI (K,P)) k ss).set k (iI,Dl,qu++[(4,[])]));have hnq:nq<=7:=af;clear h8;go_wp2_with fail;let⟨vA,dr⟩:=aG wr.drew;have cR:=lG dr;have zA:=cR.size;have V:O (∀v,Bw vA v->(I v (Aw w 4)=dK y n c/\I v (Ax w 0)=dI K/\I v (Ax w 1)=dS pe ne ce)/\I v (Ad y (k*3+2))=dS pq nq cq/\TB v (.S pe ne ce) P/\eh B v (.T y n c) (qD (uj iI (K,P)) k ss) Qk/\mZ B v (.S pq nq cq) qu/\(∀o,v.frozen? (Ad y o)=dF)/\v.heap[U w.heap]?=wr.heap[U w.heap]?/\v.heap[U w.heap+1]?=wr.heap[U w.heap+1]?/\Bw wr v):=λv hv=>by have X:Bw wr v:=ai cR hv;have rR:y<U wr.heap:=(oO.row.lt y rfl).2;exact⟨⟨al s4 X,al (D1.1 0 _ rfl) X,al (D1.1 1 _ rfl) X⟩,al r2 X,((PW.T kM).T (bH X)),oO.T (bH X),HQ.2.2.1.T (bH X),λo=>(X.frozen (p:=(Ad y o)) rR).Z (Kk o),X.block _ af,X.block _ af,X⟩
 have GW:O ((∃cur,wr.heap[U w.heap]?=dO cur 41)/\∃cur,wr.heap[y]?=dO cur 97):=⟨⟨_,kM.2 _ _ _ _ bf Ll.1⟩,oO.row.vr y rfl⟩;refine fk (λw'=>I w' (Aw w 4)=dK y n c/\I w' (Ax w 0)=dI K/\I w' (Ax w 1)=dS pe ne ce) (dr▸(ae V vA aD).1) λhS=>?_;rw[<-dr]at hS⊢;clear dr cR r0 r2 s4;refine iR 0 1 2 3 4 5 6 7 hS ?_;refine tn 9 hS ?_;refine ry [8,10] ?_;refine cn (λD hK=>?_) ?_;rotate_left;refine cn (λD hK=>?_) ?_;rotate_left;exact fg;have cq:=(ae V _ aD).2.1;go_simp;refine bL hK (by exact(ae V _ aD).1) λhS=>?_;clear hK D cq;refine ry [10] ?_;refine cn (λD hK=>?_) ?_;rotate_left;exact fg;rotate_right;go_simp;obtain⟨Z,hZ,bZ,zZ,CZ,-⟩:=bQ vA #[.I 4,aq] 119;rw[<-hZ];have BZ:=ag (bZ);have xz:=ag CZ;have TZ:=ag (TC.nil (B:=B) Z);refine bL hK (by exact(ae V Z BZ).1) λhS=>?_;clear hK D hZ bZ CZ;rotate_left;go_simp;obtain⟨Z,hZ,bZ,zZ,CZ,-⟩:=bQ vA #[.I 4,aq] 119;rw[<-hZ];have BZ:=ag (bZ);have xz:=ag CZ;have TZ:=ag (TC.nil (B:=B) Z);refine bL hK (by exact(ae V Z BZ).1) λhS=>?_;clear hK D hZ bZ CZ;refine ry [8] ?_;refine cn (λD hK=>?_) ?_;rotate_left;exact fg;rotate_right;have cq:=(ae V _ BZ).2.1;go_simp;refine bL hK (by exact(ae V _ BZ).1) λhS=>?_;clear hK D cq
 all_goals(
  obtain⟨-,r2,-,SZ,sq,fz,Wm,Wl,wZ⟩:=ae V Z BZ;let⟨cs,g1,g2,g3,g4⟩:=id sq;rw[HQ.2.2.2]at g3;have zZ2:=BZ.size;refine ry [11] ?_;refine cn (λD hK=>?_) ?_;rotate_left;exact fg;rotate_right;refine Tn aS aS ie 2 underlying45 UK iD fw fI rfl bf aS g3 (g:=U vA.heap) 1 1 [.I 4,aq] aS rfl (λj u hu=>xz.1 j u hu) (λu hu=>by simp at hu;obtain rfl|rfl:=hu<;>rfl) jC af af ?_;intro v' N gx hg gP;have f9:Fr [119] Z N:=Fr.grown hg λb M=>by let⟨cur,hc⟩:=sq.vr b M;exact⟨cur,_,hc,aj⟩
  have JG:mZ B N v' (qu++[(4,[])]):=RT.snoc g1 g2 g4 (KO.T f9 bf) ⟨_,rfl,TZ⟩ rfl (HQ.2.2.2▸gx);have zE:∀b,(Value.slice pq nq cq).ownBlock=Y b->b≠U w.heap/\b≠U w.heap+1/\b≠y:=λb M=>by let⟨cur,hc⟩:=sq.vr b M;refine⟨λe=>?_,λe=>?_,λe=>?_⟩;{let⟨Ek,gi⟩:=GW.1;rw[e,Wm,gi]at hc;simp at hc};{exact hQe k _ HQ.1 (e▸M)};{let⟨Ek,gi⟩:=GW.2;rw[e,(wZ.block y (sF gi)),gi]at hc;simp at hc}
  have k0:N.heap[U w.heap]?=Z.heap[U w.heap]?:=hg.block _ af (λe=>(zE _ e.C).1 rfl);have k1:N.heap[U w.heap+1]?=Z.heap[U w.heap+1]?:=hg.block _ af (λe=>(zE _ e.C).2.1 rfl);have Cr:y<U Z.heap:=(SZ.row.lt y rfl).2;have kg:N.heap[y]?=Z.heap[y]?:=hg.block _ Cr (λe=>(zE _ e.C).2.2 rfl);have S9:I N (Aw w 4)=dK y n c/\I N (Ax w 0)=dI K/\I N (Ax w 1)=dS pe ne ce:=⟨(gj k0 _).Z hS.1,(gj k1 _).Z hS.2.1,(gj k1 _).Z hS.2.2⟩;obtain⟨pN,cN,rfl,-⟩:=JG.form;have lN:J (qu++[(4,[])])=nq+1:=by rw[dm,HQ.2.2.2];rfl
  rw[lN]at JG gP gx⊢;let⟨ST,FT⟩:=eh.aJ2 SZ HQ.2.1 HQ.1 JG hg gP;have TU2:=bG ST FT;have r9:=(gj kg _).Z r2;have f9z:∀o,N.frozen? (Ad y o)=dF:=λo=>(AO kg).Z (fz o);have B9:=ag ((jl.Z (wZ.h af)).grown hg af (λb M=>(sq.lt b M).1));have VR:=gI gP zE k1 Wl;have qP:y≠U w.heap/\y≠U w.heap+1:=⟨λe=>by
   let⟨cur,hc⟩:=GW.1;let⟨Ek,gi⟩:=GW.2;rw[e,hc]at gi;simp at gi,λe=>by
   let⟨Ek,gi⟩:=GW.2;rw[e,ae IL,Ll.2.1]at gi;simp at gi⟩
  have z9:=hg.size;have lg:=(SZ.row.lt y rfl).1;refine bL hK (by exact S9) λhS=>?_;clear hK D gx gP g1 g2 g3 g4 f9 sq JG zE k0 k1 kg ST FT SZ r2 fz Wm Wl lN;refine fO 12 13 hS ?_;refine ry [14] ?_;refine cn (λD hK=>?_) ?_;rotate_left;exact fg;rotate_right;go_simp;have S10:I (N.setCell (Ad y (k*3+2)) (.S pN (nq+1) cN)) (Aw w 4)=dK y n c/\I (N.setCell (Ad y (k*3+2)) (.S pN (nq+1) cN)) (Ax w 0)=dI K/\I (N.setCell (Ad y (k*3+2)) (.S pN (nq+1) cN)) (Ax w 1)=dS pe ne ce:=⟨(gj (fT _ _ _ _ (Fw qP.1)) _).Z hS.1,(gj (fT _ _ _ _ (Fw qP.2)) _).Z hS.2.1,(gj (fT _ _ _ _ (Fw qP.2)) _).Z hS.2.2⟩;refine bL hK (by exact S10) λhS=>?_;clear hK D r9 f9z;refine fy ?_;clear hS S9 S10;go_wp2;go_roundw
  case rel=>exact⟨k+1,Qk.set k (.S pN (nq+1) cN),af,by go_num,bq,(by show eh _ _ _ _ _;rw[ae E1];exact TU2.1),(λi Q b hq e=>by
   rw[uE]at hq;split at hq;{split at hq;{cases hq;obtain e2|e2:=VR.1 _ e;{exact rU k _ _ HQ.1 e2};{exact .R af}};{cases hq}};{exact rU i Q b hq e}),(kM.Z (Fr.H wZ)).Z TU2.2,(λb M hq hp=>by
   have IF:b≠y:=λe=>hp (by rw[e];rfl);exact(fT _ _ _ _ IF).Z ((hg.block b af (λe=>by obtain⟨j,Q',hj,e'⟩|h:=ae rU k _ _ HQ.1 e.C;{exact hq j Q' hj e'};{omega})).Z ((wZ.block b af).Z (ae tz b M hq hp)))),B9.setCell lg _⟩
  case measure=>simp[intOf];omega)}
 {
 have QN:((nq:Int)==7)=dF:=by simp;omega
 have E1:=ag (by rw[ae iM];simp only[uj,od,tS,HQ.2.2.2,h7,h8,yT];exact Tp HQ.2.1:qD (uj iI (K,P)) (k+1) ss=qD (uj iI (K,P)) k ss);go_wp2;go_roundw;exact⟨k+1,Qk,af,by go_num,zr,(by show eh _ _ _ _ _;rw[ae E1];exact ae oO),rU,kM,tz,jl⟩;exact cW}}};{
 have Gi:(iI != id):=by simpa using he
 have E1:=ag (by rw[ae iM];simp only[uj,he,yT];exact Tp HQ.2.1:qD (uj id (K,P)) (k+1) ss=qD (uj id (K,P)) k ss);go_wp2;go_roundw;exact⟨k+1,Qk,af,by go_num,zr,(by show eh _ _ _ _ _;rw[ae E1];exact ae oO),rU,kM,tz,jl⟩;exact cW}};{have dU9:=fq k n;have SF:=ae oO;rw[cx2 _ (by rw[ae en];omega),ei9]at SF;have HSF:=ag SF;clear SF;let⟨K0,kf⟩:=ae D0;let⟨R0,rf⟩:=ae D2;let⟨k0,k1,k2,k3⟩:=eM5 K0;have k5:=K0 5 _ rfl;let⟨q0,q1,q2,q3,q4,q5⟩:=yx R0;clear K0 R0;go_wp2;have hF:=vx (v0:=.U e) (v1:=.U g) (v2:=.U x) (v3:=.I t) (v4:=.S p n c) (v5:=.S q m d) (kM.2 _ _ _ _ bf Ll.2.2);have tj:Below (U w.heap+1+1) wr (gu wr (U w.heap+1+1) (.U e) (.U g) (.U x) (.I t) (.S p n c) (.S q m d)):=tR _ _ _ _ _ _ _;refine cg (v:=bS e g x t (.S p n c) (.S q m d)) (by simp[results,results206,go_sem,q0,q1,q2,q3,q4,q5]) rfl ?_;refine⟨rfl,⟨_,HSF.T hF,(λi Q b hq e=>by obtain h|h:=ae rU i Q b hq e;{exact .L h};{exact .R af})⟩,(λb M hq hp=>(tj.block b af).Z ((ae tz b af hq hp).Z (bW.block b M))),⟨gv af tj.size,λb cur ty m' ht M=>(tj.block b (aK (sF M))).Z (kM.2 b cur ty m' ht ((bW.block b (sF M)).Z M))⟩,((bW.h hB).Z jl).Z (tj.h af)⟩}}
def bU8{m o1 o2 j i o5:dV}(h:aQ w b [m,o1,o2,j,i,o5]):aQ (gu w b v0 v1 v2 v3 v4 v5) b [v0,v1,v2,v3,v4,v5]:=
 (((((h.db 0 aj v0).db 1 aj v1).db 2 aj v2).db 3 aj v3).db 4 aj v4).db 5 aj v5
def ak4(h:aQ w b' vs)(i:b'≠b):aQ (gu w b v0 v1 v2 v3 v4 v5) b' vs:=
 (((((h.my (a:=(Ad b 0)) i v0).my (a:=(Ad b 1)) i v1).my (a:=(Ad b 2)) i v2).my (a:=(Ad b 3)) i v3).my (a:=(Ad b 4)) i v4).my (a:=(Ad b 5)) i v5
def Tz:U (gu w b v0 v1 v2 v3 v4 v5).heap=U w.heap:=by simp[gu]
def Fg(i:b'≠b):(gu w b v0 v1 v2 v3 v4 v5).heap[b']?=w.heap[b']?:=by
 unfold gu
 iterate 6 rw[fT _ _ _ _ (show b'≠_ from i)]
def ak3(h:∃cur,w.heap[b]?=dO cur ty):∃cur,(gu w b v0 v1 v2 v3 v4 v5).heap[b]?=dO cur ty:=
 (nW (nW (nW (nW (nW (nW h).1).1).1).1).1).1
def Sb.Z{m o:List dV}{N:Nat}(h:Sb Qs m N)(s:Sb m o M)(y:N<=M):Sb Qs o N:=λi Q b hq r=>by
 obtain⟨j,x,q,u⟩|B:=s i Q b hq r;{exact h j x b q u};{exact .R af}
def dh.at{n c:Nat}(h:dh B0 B w (.S p n c) ns)(m:ns[i]?=nd):∃g P V H iU,p=(Ad g 0)/\n=J ns/\n<=c/\I w (Ad g (i*8))=Y P/\I w (Ad g (i*8+1))=Y V/\I w (Ad g (i*8+2))=dU nd.D/\I w (Ad g (i*8+3))=dI nd.M/\I w (Ad g (i*8+4))=Y H/\I w (Ad g (i*8+5))=dU nd.P/\I w (Ad g (i*8+6))=dU nd.F/\I w (Ad g (i*8+7))=Y iU/\TC B0 w P nd.A/\TC B0 w V nd.V/\TU B0 w H nd.y/\TU B0 w iU nd.X/\∀o,w.frozen? (Ad g o)=dF:=by
 obtain⟨D,E,e,hc,-,r⟩:=h.form;obtain⟨rfl,rfl,rfl⟩:=jJ e;obtain⟨g,rfl⟩:=r (aK (bg.1 m).1);obtain⟨cs,-,⟨P,V,H,iU,rfl,y,x,u,s⟩,j,hf⟩:=RT.at h m;exact⟨g,P,V,H,iU,rfl,rfl,hc,j 0 _ rfl,j 1 _ rfl,j 2 _ rfl,j 3 _ rfl,j 4 _ rfl,j 5 _ rfl,j 6 _ rfl,j 7 _ rfl,y,x,u,s,hf⟩
def TB.dy(h:TB w v l):∃p c,v=.S p (J l) c:=by
 obtain⟨⟨p,c,e,-⟩,-⟩:=h;exact⟨p,c,e⟩
def dh.Tx(h:dh B0 B w v ns):gJ w v ns:=by
 obtain⟨p,c,rfl,-,-,s⟩:=RT.form h;refine⟨p,c,rfl,?_⟩;by_cases m:ns=[];{exact .L m};{obtain⟨g,rfl⟩:=s (Pb.2 m);refine .R ⟨g,0,rfl,λi W u=>?_⟩;obtain⟨X,P,V,H,iU,e,-,-,S,R,N,M,E,D,y,x,j,o,r,q,-⟩:=dh.at h u;obtain⟨rfl,-⟩:=Ao e;rw[mO];exact⟨P,V,H,iU,S,R,N,M,E,D,y,x,j.1,o.1,r.1,q.1,j.2.2⟩}
def TU.dy(h:TU B w v l):∃p c,v=.S p (J l) c:=by
 obtain⟨⟨p,c,e,-⟩,-⟩:=h;exact⟨p,c,e⟩
def ei8(ss:List aB)(id:Int)(ev:Ev):J (Ed ss id ev)=J ss:=by simp[Ed]
theorem Wj(ids:LI)(ev:Ev):∀ss:List aB,J (we ss ids ev)=J ss:=by
 unfold we
 induction ids with
 |nil=>intro ss;rfl
 |cons a r ih=>intro ss;rw[JR,ih,ei8]
def bL0{ev:Ev}{id:Int}(h:ids[k]?=id):we ss (ids.take (k+1)) ev=Ed (we ss (ids.take k) ev) id ev:=by
 rw[we,pZ,h,Ud];rfl
def ah0(e g x t:Int){n c:Nat}(en:Le ss n)(kd:Int)(nd:ar)(hk:O (ns[k]?=nd))(B:Nat)(w:G)(hS:O (eh B w (.S p n c) ss Qs))(hN:O (jK B w (.S q m d) ns))(hB:B<=U w.heap)(hn:Mg n)(hm:Mg m)(hp:J nd.A<=1048576)(hw:J nd.X<=1048576):dQ dG 162 #[bS e g x t (.S p n c) (.S q m d),.I k,.I kd] w λr w'=>r=dR (bS e g x t (.S p n c) (.S q m d))/\(∃sk,eh B w' (.S p n c) (we ss nd.X (kd,nd.A)) sk)/\jK B w' (.S q m d) (ns.set k {nd with X:=[]})/\Fr [119,97,141] w w'/\Below B w w':=by
 obtain⟨gn,Pv,Vv,Hv,Uv,rfl,em,hmd,c0,-,-,-,-,-,-,c7,tP,-,-,tU,El⟩:=dh.at hN hk;have hkm:k<m:=by rw[em];exact(bg.1 hk).1
 have be8:=bM k m;clear em;obtain⟨pe,ce,rfl⟩:=tP.dy;obtain⟨pu,cu,rfl⟩:=tU.dy;let⟨ne,eP⟩:=cG (J nd.A);let⟨nu,eU⟩:=cG (J nd.X);rw[ae eP]at hp tP c0;rw[ae eU]at hw tU c7;have D5:gn<U w.heap:=(hN.lt gn rfl).2;let⟨W0,cI,b0,z0,C0,T0⟩:=bQ w #[.U e,.U g,.U x,.I t,.S p n c,.T gn m d] 41;let⟨W1,fx,b1,z1,C1,T1⟩:=bQ W0 #[.U 0,.U 0,.U 0,.I 0,aq,aq] 41;let⟨W2,fE,b2,z2,C2,T2⟩:=bQ W1 #[.I kd,.S pe ne ce] 119;rw[z0]at C1 T1 z1;rw[z1]at C2 T2 z2;have bW:=ai (ai b0 b1) b2;have k0:=λ(ob o2:Obj)=>al (al c0 ((aR _ w).alloc aA ob)) (aD.alloc aA o2);have k7:=λ(ob o2 o3:Obj)=>al (al (al c7 ((aR _ w).alloc aA ob)) (aD.alloc aA o2)) (aD.alloc aA o3);have kz:=λ(ob o2 o3:Obj)=>((((((aR (U w.heap) w).alloc aA ob).alloc aj o2).alloc bq o3)).frozen (p:=(Ad gn (k*8+7))) D5).Z (El _);have NW:=hN.T (bH bW);let⟨NX,FX⟩:=dh.put NW hk (j:=7) af aq {nd with X:=[]} (λw' P V H iU h1 h2 h3 h4 _=>⟨P,V,H,aq,rfl,h1,h2,h3,TU.nil _⟩);let⟨X,hX⟩:=aG (W2.setCell (Ad gn (k*8+7)) aq);rw[<-hX]at NX FX;have SX:=(hS.T (bH bW)).T FX;have aN:∀b,U w.heap<=b->X.heap[b]?=W2.heap[b]?:=λb hb=>by rw[hX];exact fT _ _ _ _ (by show b≠gn;omega)
 have HX:=gI NX SX (tU.T (bH bW) bf |>.T FX) (tP.tb.T (bH bW) bf |>.T FX);have HC:=du (((C0.H af b1).H af b2).de (aN _ aA)) ((C1.H af b2).de (aN _ af)) (C2.de (aN _ af));have HT:=du ((aN _ aA).Z ((b2.block _ af).Z ((b1.block _ af).Z T0))) ((aN _ af).Z ((b2.block _ af).Z T1)) ((aN _ af).Z T2);have BX:Below B w X:=hX▸(bW.h hB).setCell (hN.lt gn rfl).1 _;have FW:Fr [119,97,141] w X:=(Fr.H bW).Z (FX.sub aj);have zX:U X.heap=U w.heap+3:=by rw[hX];simp;omega
 have HQ0:O (∀(i:Nat)(Q:dV),Qs[i]?=Y Q->∀b,Q.ownBlock=Y b->b<U w.heap):=λi Q hq b hb=>by obtain⟨s,hs⟩:∃s,ss[i]?=Y s:=⟨_,bD (hS.len▸(bg.1 hq).1)⟩;exact((hS.tM i s Q hs hq).lt b hb).2
 have HP0:O (∀b,(Value.slice p n c).ownBlock=Y b->b<U w.heap):=λb hb=>(hS.row.lt b hb).2;clear b0 b1 b2 C0 C1 C2 T0 T1 T2 NX SX NW aN c0 c7 El tP tU;go_in;go_wp2;rw[<-cI,<-fx,<-fE,<-hX];clear cI fx fE hX k0 k7 kz;have jG:∀(vs:iA)(w:G),(callFunc 206 vs).run dG w=.ok (.enter 206 vs) w:=λvs w=>aU;have Lq:=ag jG;clear jG
 go_loopw[9](λiv wr=>∃(i:Nat)(Qk:List dV),i<=nu/\iv=.I i/\U X.heap<=U wr.heap/\O (eh B wr (.S p n c) (we ss (nd.X.take i) (kd,nd.A)) Qk)/\O (jK B wr (.T gn m d) (ns.set k {nd with X:=[]}))/\O (TU B wr (.S pu nu cu) nd.X/\TB wr (.S pe ne ce) nd.A)/\O (Sb Qs Qk (U X.heap))∧
  O (aQ wr (U w.heap) [.U e,.U g,.U x,.I t,.S p n c,.T gn m d]/\aQ wr (U w.heap+1) [.U 0,.U 0,.U 0,.I 0,aq,aq]/\aQ wr (U w.heap+2) [.I kd,.S pe ne ce])∧
  O ((∃cur,wr.heap[U w.heap]?=dO cur 41)/\(∃cur,wr.heap[U w.heap+1]?=dO cur 41))/\O (Fr [119,97,141] w wr)/\O (Below B w wr)) (λiv _=>nu-(intOf iv).toNat)
 exact⟨0,Qs,cO _,rfl,eG _,(by show eh _ _ _ _ _;exact HX.2.1),HX.1,HX.2.2,(λi Q b hq hb=>.L ⟨i,Q,hq,hb⟩),HC,⟨⟨_,HT.1⟩,⟨_,HT.2.1⟩⟩,FW,BX⟩;{
 obtain⟨i,Qk,hi,rfl,zr,oO,Ab,hU,hQO,qQ,hTk,kM,jl⟩:=hrel;have wi:IntKind.i64.wrap ((i:Int)+1)=((i+1:Nat):Int):=by rw[kP _ af];omega
 by_cases fL:i<nu;{
 have bg0:=bM i nu;obtain⟨id,hid⟩:∃id,nd.X[i]?=Y id:=⟨_,bD (ae eU▸fL)⟩;obtain⟨bw,ow,rfl,Qv⟩:=hU.1.1.at hid;have E1:=ag (bL0 (ss:=ss) (ev:=(kd,nd.A)) hid);clear hid;let⟨vA,dr⟩:=aG wr.drew;have cR:=lG dr;have zA:=cR.size;have CA:=du (qQ.1.H af cR) (qQ.2.1.H af cR) (qQ.2.2.H af cR);have UA:=bG (hU.1.T (bH cR)) (hU.2.T (bH cR));have SA:=ag (oO.T (bH cR));have NA:=ag (Ab.T (bH cR));have TA:=bG (hTk.1.imp λcur h=>(cR.block _ af).Z h) (hTk.2.imp λcur h=>(cR.block _ af).Z h);have FA:=ag (kM.Z (Fr.H cR));have BA:=ag (jl.Z (cR.h (aK jl.size)));have hwA:=al Qv cR;have HG:=ag (ei7 e g x t p n c (Ad gn 0) m d _ Qk (ag (by rw[Wj,ae en])) id kd pe ne ce nd.A eP B vA SA UA.2 (aK BA.size) hn hp);go_wp2_with fail;refine fk (λw'=>I w' (Aw w 0)=dU e/\I w' (Aw w 1)=dU g/\I w' (Aw w 2)=dU x/\I w' (Aw w 3)=dI t/\I w' (Aw w 4)=dS p n c/\I w' (Aw w 5)=dK gn m d/\I w' (Ad (U w.heap+2) 0)=dI kd/\I w' (Ad (U w.heap+2) 1)=dS pe ne ce/\I w' (Ad bw (ow+i))=dU id) (by rw[<-dr];exact⟨CA.1.1 0 _ rfl,CA.1.1 1 _ rfl,CA.1.1 2 _ rfl,CA.1.1 3 _ rfl,CA.1.1 4 _ rfl,CA.1.1 5 _ rfl,CA.2.2.1 0 _ rfl,CA.2.2.1 1 _ rfl,hwA⟩) λhS=>?_;rw[<-dr]at hS⊢;clear dr cR Qv hwA;refine iC 0 1 2 3 hS ?_;refine fO 4 5 hS ?_;refine ew 6 λKK hK=>?_;refine df2 aS 206 _ _ _ _ aS (bS e g x t (.S p n c) (.T gn m d)) (.U id) (.agg #[.I kd,.S pe ne ce]) aS aS aS (λ_=>ae Lq _ _) HG ?_;rintro r v1⟨rfl,⟨Q1,QC,Im⟩,YD,sE,au⟩;refine⟨_,rfl,?_⟩;have kb:v1.heap[U w.heap+2]?=vA.heap[U w.heap+2]?:=YD _ af (λj Q hq e=>by obtain⟨j',Q',hj,e'⟩|h:=ae hQO j Q _ hq e;{have:=ae HQ0 j' Q' hj _ e';omega};{omega}) (λe=>aK (ae HP0 _ e))
 let⟨⟨cu0,t0⟩,⟨cu1,t1⟩⟩:=ae TA;have t0':=sE.2 _ _ _ _ bf t0;have t1':=sE.2 _ _ _ _ bf t1;have C1:=du (CA.1.de (t0'.Z t0.C)) (CA.2.1.de (t1'.Z t1.C)) (CA.2.2.de kb);have U1:=bG (UA.1.T sE) (UA.2.T sE);have N1:=ag (NA.T sE);have S1:=ag QC;have T1:=bG t0' t1';have Q1':=ag (hQO.Z Im af);have F1:=ag (FA.Z (sE.sub aj));have B1:=ag (BA.Z au);have z1:=au.size;have Qv:I v1 (Ad bw (ow+i))=dU id:=by obtain⟨-,h2⟩:=U1.1;exact(gj (by let⟨cur,hc⟩:=UA.1.2.1 bw rfl;exact(sE.2 _ _ _ _ bf hc).Z hc.C) _).Z hS.2.2.2.2.2.2.2.2
 refine bL hK (by exact⟨C1.1.1 0 _ rfl,C1.1.1 1 _ rfl,C1.1.1 2 _ rfl,C1.1.1 3 _ rfl,C1.1.1 4 _ rfl,C1.1.1 5 _ rfl,C1.2.2.1 0 _ rfl,C1.2.2.1 1 _ rfl,Qv⟩) λhS=>?_;clear hK KK QC Im YD sE au kb t0 t1 t0' t1' Qv;refine ew 7 λKK hK=>?_;have El:=C1.1.2;go_simp;let⟨v2,qx⟩:=aG (gu v1 (U w.heap) (.U e) (.U g) (.U x) (.I t) (.S p n c) (.T gn m d));have F2:Fr [41] v1 v2:=qx▸vx T1.1;have B2:Below (U w.heap) v1 v2:=qx▸tR _ _ _ _ _ _ _;have C2:aQ v2 (U w.heap) [.U e,.U g,.U x,.I t,.S p n c,.T gn m d]:=qx▸bU8 C1.1;have C3:aQ v2 (U w.heap+1) [.U 0,.U 0,.U 0,.I 0,aq,aq]:=qx▸ak4 C1.2.1 af;have C4:aQ v2 (U w.heap+2) [.I kd,.S pe ne ce]:=qx▸ak4 C1.2.2 af;have z2:U v2.heap=U v1.heap:=qx▸Tz;have T2:(∃cur,v2.heap[U w.heap]?=dO cur 41)/\∃cur,v2.heap[U w.heap+1]?=dO cur 41:=by rw[qx];exact⟨ak3 ⟨_,T1.1⟩,_,(Fg af).Z T1.2⟩
 have cn5:I v2 (Ad bw (ow+i))=dU id:=by
  have hb:bw≠U w.heap:=λe2=>by let⟨cur,hc⟩:=U1.1.2.1 bw rfl;rw[e2,T1.1]at hc;simp at hc
  rw[qx];exact(gj (Fg hb) _).Z hS.2.2.2.2.2.2.2.2
 have R2:=Nw C2 C3 C4 T2 F2 B2;unfold gu at qx;rw[<-qx];refine bL hK (by exact⟨C2.1 0 _ rfl,C2.1 1 _ rfl,C2.1 2 _ rfl,C2.1 3 _ rfl,C2.1 4 _ rfl,C2.1 5 _ rfl,C4.1 0 _ rfl,C4.1 1 _ rfl,cn5⟩) λhS=>?_;clear hK KK qx C2 C3 C4 T2 F2 B2 El cn5;refine fy ?_;clear hS;go_wp2;go_roundw;exact⟨i+1,Q1,af,by go_num,af,(by show eh _ _ _ _ _;rw[ae E1];exact S1.T R2.2.2.2.2.1),N1.T R2.2.2.2.2.1,⟨U1.1.T R2.2.2.2.2.1,U1.2.T R2.2.2.2.2.1⟩,Q1',⟨R2.1,R2.2.1,R2.2.2.1⟩,R2.2.2.2.1,⟨gv F1.1 R2.2.2.2.2.1.1,λb cur ty mm ht hb=>(R2.2.2.2.2.2.block b (sF hb)).Z (F1.2 b cur ty mm ht hb)⟩,B1.Z (R2.2.2.2.2.2.h hB)⟩;exact cW};{have bg0:=fq i nu;have SF:=ae oO;rw[lY (by rw[ae eU];omega)]at SF;have HSF:=ag SF;clear SF;let⟨K0,kf⟩:=qQ.1;let⟨R0,rf⟩:=qQ.2.1;let⟨k0,k1,k2,k3,k4,k5⟩:=yx K0;let⟨q0,q1,q2,q3,q4,q5⟩:=yx R0;clear K0 R0;go_wp2;let⟨cu,tq⟩:=hTk.2;have hF:=vx (v0:=.U e) (v1:=.U g) (v2:=.U x) (v3:=.I t) (v4:=.S p n c) (v5:=.T gn m d) tq;have tj:Below (U w.heap+1) wr (gu wr (U w.heap+1) (.U e) (.U g) (.U x) (.I t) (.S p n c) (.T gn m d)):=tR _ _ _ _ _ _ _;refine cg (v:=bS e g x t (.S p n c) (.T gn m d)) (by simp[results,results162,go_sem,q0,q1,q2,q3,q4,q5]) rfl ?_;exact⟨rfl,⟨_,HSF.T hF⟩,Ab.T hF,⟨gv kM.1 tj.size,λb cur ty mm ht hb=>(tj.block b (aK (sF hb))).Z (kM.2 b cur ty mm ht hb)⟩,jl.Z (tj.h af)⟩}}
variable {cs:List dV}
def Wc{Q:iE}(gR:o.guard=dN){s x:Operand}(ho:o.op=.call {callee:=.builtin .append,args:=#[s,x],argTypes:=#[39,39]})(v:dV)(ek:Le ns k)(hs:a.eval s=v)(cX:dh B0 B w v ns)(g:Nat)(hx:a.eval x=.T g 1 1)(iL:yk B0 w nd cs)(rP:∀j u,cs[j]?=Y u->I w (Ad g j)=Y u)(hk:k<4194304)(hB:B<=U w.heap)(h:∀p' c' w',dh B0 B w' (.S p' (k+1) c') (ns++[nd])->w.grownBy w' v.ownBlock->Fr [141] w w'->wpList dG ops Q rest (a.put o.dst (.S p' (k+1) c')) w'):wpList dG ops Q (o::rest) a w:=by
 let⟨i,hi,iD,fw,fI⟩:=kx Tryz.infoNod;have ht:=cX.vr;obtain⟨rs,h1,h2,h3,h4⟩:=cX;have sG:J cs=8/\∀u∈cs,u.oneCell':=by obtain⟨P,V,H,iU,rfl,a1,a2,a3,a4⟩:=iL;obtain⟨_,_,rfl⟩:=a1.dy;obtain⟨_,_,rfl⟩:=a2.dy;obtain⟨_,_,rfl⟩:=a3.dy;obtain⟨_,_,rfl⟩:=a4.dy;exact⟨rfl,λu hu=>by simp at hu;obtain rfl|rfl|rfl|rfl|rfl|rfl|rfl|rfl:=hu<;>rfl⟩
 rw[ae ek]at h3;refine Dt gR 39 ho i 8 underlying39 hi iD fw fI rfl bf v hs h3 g 1 1 cs hx sG.1 rP sG.2 jC af hB ?_;intro v' w' gx hg _;have hf:Fr [141] w w':=Fr.grown hg λb hb=>by let⟨cur,hc⟩:=ht b hb;exact⟨cur,_,hc,aj⟩
 have sn:dh B0 B w' v' (ns++[nd]):=RT.snoc h1 h2 h4 (yk.T hf bf bf) iL sG.1 (ae ek▸gx);obtain⟨p',c',rfl,-⟩:=RT.form sn;rw[dm,ae ek]at sn⊢;exact h p' c' w' sn hg hf
def dn4(h:ns[j]?=nd):(ns.take (j+1)).eraseIdx k=if j=k then(ns.take j).eraseIdx k else(ns.take j).eraseIdx k++[nd]:=by
 have m:=(bg.1 h).1;have i:J (ns.take j)=j:=by rw[rM];omega
 rw[pZ,h,Option.toList_some];by_cases e:j=k;{subst e;rw[aM rfl,cb2 af,i,xL,aU7 (l:=ns.take j) af];simp};{rw[aL e];by_cases o:k<j;{rw[List.eraseIdx_append_of_lt_length af]};{rw[cb2 af,i,aU7 (l:=ns.take j) af,aU7 bq]}}
def bS1{e g t:Int}{n c:Nat}(em:Le ns m)(hN:O (jK B w (.S q m d) ns))(hm:Mg m):dQ dG 163 #[bS e g x t (.S p n c) (.S q m d),.I k] w λr w'=>∃p' c',r=dR (bS e g x t (.S p n c) (.S p' (J (ns.eraseIdx k)) c'))/\dh B (U w.heap) w' (.S p' (J (ns.eraseIdx k)) c') (ns.eraseIdx k)/\Bw w w':=by
 let⟨W0,cI,b0,z0,C0,T0⟩:=bQ w #[.U e,.U g,.U x,.I t,.S p n c,.S q m d] 41;let⟨W1,fx,b1,z1,C1,T1⟩:=bQ W0 #[.U 0,.U 0,.U 0,.I 0,aq,aq] 41;rw[z0]at C1 T1 z1;have bW:=ag (ai b0 b1);have HC:=bG (C0.H af b1) C1;have HT:=bG ((b1.block _ af).Z T0) T1;go_in;go_wp2;rw[<-cI,<-fx]
 go_loopw[5,6](λov Z wr=>∃(j:Nat)(L:List ar)(M:Nat)(y:OA)(D:Nat),j<=m/\Z=.I j/\ov=.S y M D/\Le L M/\O ((ns.take j).eraseIdx k=L)/\O (dh B (U w.heap+2) wr (.S y M D) L)/\O (Below (U w.heap+2) W1 wr)) (λ_ Z _=>m-(intOf Z).toNat)
 exact⟨0,[],0,dN,0,cO _,rfl,rfl,rfl,(by show _=_;simp),RT.nil _ _ _ _ _,aR _ _⟩;{
 obtain⟨j,L,M,y,D,hj,rfl,rfl,W,hL,ho,E⟩:=hrel;have zr:=E.size;have rQ:M<4194304:=by have h1:=(Ph (ns.take j) k).length_le;have h2:=J3 j ns;rw[ae hL,ae W]at h1;omega
 have R:=bG (HC.1.H af (E.h af:Bw W1 wr)) (HC.2.H af (E.h af:Bw W1 wr));have s5:=R.1.1 5 _ rfl;by_cases aH:j<m;{
 have cL:=bM j m;obtain⟨nd,aJ⟩:∃nd,ns[j]?=Y nd:=⟨_,bD (ae em▸aH)⟩;have bj:=dn4 (k:=k) aJ;rw[ae hL]at bj;have iM:=ag bj;by_cases he:j=k;{
 have E1:O ((ns.take (j+1)).eraseIdx k=L):=by have:=ae iM;rwa [aM he]at this
 have Gi:((j:Int) != (k:Int))=dF:=by simp;omega
 go_wp2;go_roundw;exact⟨j+1,L,M,y,D,af,by go_num,rfl,W,E1,ho,E⟩;exact cW};{
 have E1:O ((ns.take (j+1)).eraseIdx k=L++[nd]):=by have:=ae iM;rwa [aL he]at this
 have Gi:((j:Int) != (k:Int)):=by simp;omega
 have ZP:Bw w wr:=bW.Z (E.h af);obtain⟨gn,P,V,H,iU,rfl,-,-,c0,c1,c2,c3,c4,c5,c6,c7,tP,tV,tH,tU,-⟩:=dh.at (hN.T (bH ZP)) aJ;obtain⟨pP,cP,rfl⟩:=tP.dy;obtain⟨pV,cV,rfl⟩:=tV.dy;obtain⟨pH,cH,rfl⟩:=tH.dy;obtain⟨pU,cU,rfl⟩:=tU.dy;let⟨v3,X⟩:=aG (wr.alloc (dO #[.S pP (J nd.A) cP,.S pV (J nd.V) cV,.U nd.D,.I nd.M,.S pH (J nd.y) cH,.U nd.P,.U nd.F,.S pU (J nd.X) cU] 141));have N:=gF X;have HX:=du (ho.T (bH N)) (show yk B v3 nd [.S pP (J nd.A) cP,.S pV (J nd.V) cV,.U nd.D,.I nd.M,.S pH (J nd.y) cH,.U nd.P,.U nd.F,.S pU (J nd.X) cU]from⟨_,_,_,_,rfl,tP.T (bH N),tV.T (bH N),tH.T (bH N),tU.T (bH N)⟩) (show aQ v3 (U wr.heap) _ by rw[X];exact aQ.alloc wr _ _);have uL:=ag λb e=>(ho.lt b e).1;have b3':=ag N;have z3:=N.size;go_wp2_with(at_builtin;rw[<-X];refine Wc rfl rfl (.S y M D) W rfl HX.1 (U wr.heap) rfl HX.2.1 HX.2.2.1 rQ af ?_);intro p' c' w' o2 dt _;rw[<-X]at dt;have b4:=ag ((E.Z (b3'.h af)).grown dt af uL);have O2:=ag o2;go_wp2;go_roundw;exact⟨j+1,L++[nd],M+1,p',c',af,by go_num,rfl,ag (by rw[dm,ae W];rfl),E1,O2,b4⟩;exact cW}};{have cL:=fq j m;have gi:=ae hL;rw[lY (by rw[ae em];omega)]at gi;let⟨K0,kf⟩:=R.1;let⟨R0,rf⟩:=R.2;let⟨k0,k1,k2,k3,k4⟩:=bv3 K0;let⟨q0,q1,q2,q3,q4,q5⟩:=yx R0;have VW:=bG ((E.block _ af).Z HT.1) ((E.block _ af).Z HT.2);go_wp2;subst gi;obtain rfl:=ae W;have f1:=nW (j:=5) (u:=.S y (J (ns.eraseIdx k)) D) ⟨_,VW.1⟩;have t1:(wr.setCell (Aw w 5) (.S y (J (ns.eraseIdx k)) D)).heap[U w.heap+1]?=_:=(fT _ _ _ _ (by show U w.heap+1≠U w.heap;omega)).Z VW.2;have f2:=vx (v0:=.U e) (v1:=.U g) (v2:=.U x) (v3:=.I t) (v4:=.S p n c) (v5:=.S y (J (ns.eraseIdx k)) D) t1;have tj:=((bW.Z (E.h af)).setCell (p:=(Aw w 5)) aA (.S y (J (ns.eraseIdx k)) D)).Z ((tR (U w.heap+1) (.U e) (.U g) (.U x) (.I t) (.S p n c) (.S y (J (ns.eraseIdx k)) D)).h af);refine cg (v:=bS e g x t (.S p n c) (.S y (J (ns.eraseIdx k)) D)) (by simp[results,results163,go_sem,q0,q1,q2,q3,q4,q5]) rfl ?_;exact⟨y,D,rfl,((ho.T f1.2).T f2).h af,tj⟩}}
end Go.Proofs.YtdloolggnjjfoaaGreatDoor
