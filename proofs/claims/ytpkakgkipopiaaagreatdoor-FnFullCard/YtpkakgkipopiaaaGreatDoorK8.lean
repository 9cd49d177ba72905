import Derived.Test.YtpkakgkipopiaaaGreatDoorK7
import Derived.Test.YtpkakgkipopiaaaGreatDoorK4
import Derived.StillTailTactics
open Array renaming size->U
open Bool renaming false->dF,true->dY
open Decidable renaming decide->dD
open Go renaming undef->jQ,Calls->dQ,Value->dV,World->G
open Go.Ending renaming returned->dR
open Go.IntKind renaming u64->jU,i64->jV,wrap->jY
open Go.Obj renaming cells->dO
open Go.Proofs.Tryz renaming prog->dG
open Go.Region renaming wanted->jW
open Go.RowKit renaming Hid->O
open Go.Value renaming ownBlock->jB,slice->jC,string->jJ,int->jK,bool->jO,agg->jP,I->dI,T->dK,S->dS,tuple->dT,U->dU
open Go.World renaming alloc->jA,frozen?->jF,grownBy->jG,heap->Q,ownsMap->jM,setCell->jS,cell?->I
open Int renaming toNat->jN
open List renaming drop->jD,getD->jE,take->jT,eraseIdx->jX,zipWith->jZ,length->J
open Option renaming none->dN,some->Y
namespace Go.Proofs.YtpkakgkipopiaaaGreatDoor
set_option maxHeartbeats 40000000
set_option linter.all false
set_option maxRecDepth 100000
open Go.ChangeShapes Go.WideShapes Go.ChangeAt Go.RowKit Go.Proofs.Tryz
def oB:Option LI->Int×Option LI
 |some (c::t)=>(c,Y t)
 |_=>(0,dN)
def oV:Option LI->Int×Option LI
 |some m=>(match rv m with|some x=>(x.1,Y x.2)|none=>(0,dN))
 |none=>(0,dN)
def oT:Option LI->LI×Option LI
 |some m=>(match rt m with|some x=>(x.1,Y x.2)|none=>([],dN))
 |none=>([],dN)
def kq(n:Nat):Option LI->Int
 |some m=>(n:Int)-(J m)
 |none=>-1
def ik(n:Nat)(l:LI)(om:Option LI):Prop:=∀m,om=Y m->J m<=n/\m=jD (n-(J m)) l
variable {n c N R b o s d iG k M np cp nv cv bs bn z i bytes B' gN:Nat}{l m P m' l0 V xs:LI}{om qG o5:Option LI}{p q pp pq pv:OA}{w X w' w0 u:G}{x lo hi vs f e g y K F S E kd C:Int}{v v0 v1 v2 v3 v4 v5 v6 pt v7:dV}{sh sh' B se pa sq jo:Bool}{t ty:TypeId}{ob:Obj}{rs rp Qs:List dV}{r:Ending}{D:SD}{ss ss':List aC}{ns ns':List au}{nd nd':au}{cs:iA}{a:Act}{fn:Func}{ops:iQ}{es:List Ev}{left:Lit->Bool}{A A1 A2:List Lf}
theorem ik.start(h:J l=n):ik n l l:=λm e=>by
 simp at e;subst e;exact⟨ae,by rw[h,BQ];rfl⟩
theorem ik.none:ik n l dN:=λm e=>by cases e
theorem ik.aQ2(hl:J l=n)(h:ik n l m){t:LI}(j:J t<=J m)(e:t=jD (J m-(J t)) m):ik n l t:=λx ex=>by
 simp at ex;subst ex;let⟨o,i⟩:=h m rfl;refine⟨ae,?_⟩
 conv=>lhs;rw[e,i,FQ,uC,hl]
 congr 1;omega
theorem al3(hl:J l=n)(h:ik n l om):ik n l (oB om).2:=by
 match om,h with
 |none,_=>exact ik.none
 |some [],_=>exact ik.none
 |some (c::t),h=>exact ik.aQ2 hl h ai ai
theorem vz(hl:J l=n)(h:ik n l om):ik n l (oV om).2:=by
 match om,h with
 |none,_=>exact ik.none
 | some m,h=>
  show ik n l (match rv m with|some x=>(x.1,Y x.2)|none=>(0,dN):Int×Option LI).2;cases e:rv m with
  |none=>exact ik.none
  |some x=>
   obtain⟨v,t⟩:=x;let⟨_,_,j,i⟩:=aj0 10 0 0 m v t e;exact ik.aQ2 (t:=t) hl h (an9 j) i
theorem bR5{x:LI×LI}(h:rt m=x):J x.2<=J m/\x.2=jD (J m-(J x.2)) m/\∃a b,x.1=jT b (jD a m):=by
 unfold rt at h;cases e:rv m with
 |none=>rw[e]at h;simp at h
 |some y=>
  obtain⟨v,t⟩:=y;rw[e]at h;simp only at h;let⟨j,_,o,i⟩:=aj0 10 0 0 m v t e;split at h;{cases h};{
 next hv=>
 simp at h;subst h;simp only[uC];refine⟨ae,?_,J m-(J t),jN v,by rw[<-i]⟩
 conv=>lhs;rw[i,FQ]
 congr 1;omega}
theorem al2(hl:J l=n)(h:ik n l om):ik n l (oT om).2:=by
 match om,h with
 |none,_=>exact ik.none
 | some m,h=>
  show ik n l (match rt m with|some x=>(x.1,Y x.2)|none=>([],dN):LI×Option LI).2;cases e:rt m with
  |none=>exact ik.none
  |some x=>
   let⟨j,i,_⟩:=bR5 e;exact ik.aQ2 hl h j i
theorem Ue(o:aA l)(h:ik n l om):aA (oT om).1/\(oT om).1.length<=n:=by
 match om,h with
 |none,_=>exact⟨λz i=>by simp[oT]at i,by simp[oT]⟩
 | some m,h=>
  let⟨r,q⟩:=h m rfl;have hm:aA m:=by rw[q];exactλz i=>o z (PX i)
  show aA (match rt m with|some x=>(x.1,Y x.2)|none=>([],dN):LI×Option LI).1/\(match rt m with|some x=>(x.1,Y x.2)|none=>([],dN):LI×Option LI).1.length<=n;cases e:rt m with
  |none=>exact⟨λz i=>by simp at i,ai⟩
  |some x=>
   let⟨_,_,a,b,j⟩:=bR5 e;refine⟨?_,?_⟩;{show aA x.1;rw[j];exactλz i=>hm z (PX (PT i))};{show J x.1<=n;rw[j,te,uC];omega}
theorem dv9(i:aA l)(h:ik n l om):0<=(oB om).1/\(oB om).1<256:=by
 match om,h with
 |none,_=>simp[oB]
 |some [],_=>simp[oB]
 |some (c::t),h=>
  let⟨m,j⟩:=h _ rfl;exact i c (PX (by rw[<-j];simp))
theorem bV9:0<=(oV om).1/\(oV om).1<2^64:=by
 cases om with
 |none=>simp[oV]
 | some m=>
  show 0<=(match rv m with|some x=>(x.1,Y x.2)|none=>(0,dN):Int×Option LI).1/\(match rv m with|some x=>(x.1,Y x.2)|none=>(0,dN):Int×Option LI).1<_;cases e:rv m with
  |none=>simp
  |some x=>
   obtain⟨v,t⟩:=x;let⟨j,i,_⟩:=aj0 10 0 0 m v t e;exact⟨j,i⟩
theorem aN4(rest:LI)(h:J P<2^64):rt (tx P++rest)=Y (P,rest):=by
 rw[rt,tx,pO,Mh _ h];simp only[eG];rw[aJ ae];simp
theorem aO3(r:Le l n)(h:Rd w (.S p n c) l)(o:aA l)(hl:Mg n)(i:ik n l om)(e:O (oB om=(x,qG))):Cp 69 #[.S p n c,.I (kq n om)] w λe w'=>e=dR (dT #[.I x,.I (kq n qG)])/\w'=w:=by
 have e:=aa e
 match om,i with
 |none,_=>
  simp[oB]at e;obtain⟨rfl,rfl⟩:=e;exact do6
 |some [],i=>
  simp[oB]at e;obtain⟨rfl,rfl⟩:=e;have m:kq n (Y [])=(n:Int):=by simp[kq]
  rw[m];exact do7 hl
 |some (y::t),i=>
  simp[oB]at e;obtain⟨rfl,rfl⟩:=e;let⟨q,j⟩:=i _ rfl;simp only[ni]at q j;let⟨a,m⟩:=aZ (n-(J t+1));rw[m]at j;have B:kq n (Y (y::t))=(a:Int):=by simp[kq];omega
  have u:kq n t=((a+1:Nat):Int):=by simp[kq];omega
  have s:jE l a 0=y:=by have:=tg (λz=>jE z 0 0) j;simp[List.getD]at this;simp[List.getD,<-this]
  have:=do8 (a:=a) r h o hl ae;rw[s]at this;rw[B,u];exact this
theorem bS6(q:Le l n)(h:Rd w (.S p n c) l)(o:aA l)(hl:Mg n)(i:ik n l om)(e:O (oV om=(x,qG))):Cp 67 #[.S p n c,.I (kq n om)] w λe w'=>e=dR (dT #[.U x,.I (kq n qG)])/\w'=w:=by
 have e:=aa e
 match om,i with
 |none,_=>
  simp[oV]at e;obtain⟨rfl,rfl⟩:=e;exact bS7
 |some m,i=>
  let⟨B,j⟩:=i _ rfl;let⟨a,s⟩:=aZ (n-(J m));rw[s]at j;have u:kq n m=(a:Int):=by simp[kq];omega
  have:=bS8 (a:=a) q h o hl ae (r:=rv m) (by show _=_;rw[<-j]);rw[u];refine this.h ?_;rintro r w'⟨rfl,rfl⟩;refine⟨?_,rfl⟩;unfold oV at e;dsimp only at e;cases er:rv m with
  |none=>rw[er]at e;simp at e;obtain⟨rfl,rfl⟩:=e;rfl
  |some y=>rw[er]at e;simp at e;obtain⟨rfl,rfl⟩:=e;rfl
theorem aO2(E:Le l n)(h:Rd w (.S p n c) l)(D:aA l)(hl:Mg n)(B:n<=c)(i:ik n l om){x:LI}(e:O (oT om=(x,qG)))(s:Le x N):Cp 68 #[.S p n c,.I (kq n om)] w λe w'=>∃o u,e=dR (dT #[.S o N u,.I (kq n qG)])/\Own (U (Q w)) w' (.S o N u) x/\Bw w w':=by
 have e:=aa e
 match om,i with
 |none,_=>
  simp[oT]at e;obtain⟨rfl,rfl⟩:=e;obtain rfl:N=0:=by rw[<-aa s];rfl
  refine(do4).h ?_;rintro r w'⟨rfl,rfl⟩;exact⟨dN,0,rfl,nK _ _ _ _,aR _ _⟩
 | some m,i=>
  let⟨V,q⟩:=i _ rfl;let⟨a,M⟩:=aZ (n-(J m));rw[M]at q;have R:kq n m=(a:Int):=by simp[kq];omega
  have j:Tw (rt m)=x/\bOf n (rt m)=kq n qG:=by
   unfold oT at e;dsimp only at e;cases er:rt m with
   |none=>rw[er]at e;simp at e;obtain⟨rfl,rfl⟩:=e;exact⟨rfl,rfl⟩
   |some y=>rw[er]at e;simp at e;obtain⟨rfl,rfl⟩:=e;exact⟨rfl,rfl⟩
  have:=do5 (a:=a) E h D hl B ae (r:=rt m) (by show _=_;rw[<-q]) (N:=N) (by show _=_;rw[j.1];exact aa s);rw[R];rw[j.1,j.2]at this;exact this
abbrev blk(g:Nat):dV:=.T g 0 0
def xB(R:Nat)(w:G)(p:OA)(m:LI):Prop:=m=[]\/∃b o,b<R/\p=(Ad b o)/\∀i,i<J m->I w (Ad b (o+i))=Y (jK .u8 (jE m i 0))
theorem xB.rd(h:xB R w p m)(e:J m=n):Rd w (.S p n c) m:=by
 refine⟨p,c,by rw[e],?_⟩;obtain h|⟨b,o,_,j,i⟩:=h;{exact .L h};{exact .R ⟨b,o,j,i⟩}
theorem xB.set(h:xB R w p m)(o:Nat)(v:dV):xB R (jS w (Ad R o) v) p m:=by
 obtain h|⟨b,j,u,s,r⟩:=h;{exact .L h};{refine .R ⟨b,j,u,s,λi q=>?_⟩;rw[PO _ _ _ _ (by simp;try omega)];exact r i q}
theorem xB.tail(h:xB R w (Ad b o) (x::m)):xB R w (Ad b (o+1)) m:=by
 obtain h|⟨y,s,r,j,q⟩:=h;{cases h};{simp at j;obtain⟨rfl,rfl⟩:=j;refine .R ⟨b,o+1,r,rfl,λi u=>?_⟩;have:=q (i+1) cg;rw[show o+1+i=o+(i+1) by omega,this];simp}
def lQ(w:G)(R:Nat)(m:LI)(n:Nat)(sh:Bool):Prop:=
 J m=n/\(∀o,jF w (Ad R o)=dF)/\∃p c,BG w R (.S p n c) (jO sh)/\xB R w p m/\n<=c/\((p=dN/\c=0)\/∃b o,p=(Ad b o))
theorem Qd:Kept [blk R] w (jS w (Ad R o) v):=by
 refine⟨rfl,rfl,rfl,ai,λk j i=>?_⟩;have:k≠R:=λe=>i (blk R) ai (by rw[e];rfl);simp[World.setCell,yD];intro e;exact absurd e.C this
theorem df7(h:lQ w R (x::m) (n+1) sh)(hx:0<=x/\x<256)(hl:Mg n):dQ dG 189 #[Pz R] w λe w'=>e=dR (.I x)/\lQ w' R m n sh/\Kept [blk R] w w':=by
 obtain⟨i,hf,p,c,⟨y,r⟩,j,hc,u⟩:=h;have s:J m=n:=by simpa using i
 obtain⟨b,o,rfl⟩:∃b o,p=(Ad b o):=by obtain h|h:=u;{omega};{exact h}
 have D:b<R:=by obtain h|⟨S,B,r,q,_⟩:=j;{cases h};{simp at q;omega}
 have W:I w (Ad b o)=Y (jK .u8 x):=by obtain h|⟨S,B,r,q,E⟩:=j;{cases h};{simp at q;obtain⟨rfl,rfl⟩:=q;simpa using E 0 ai}
 have g1:((n:Int)+1==0)=dF:=by simp;omega
 have X:jY jV x=x:=l8 _ ae;have k1:(1:Int)<=(n:Int)+1:=ae;have k2:(n:Int)+1<=(c:Int):=ae;have Z:=gr 1 c;have V:=af j;clear j u i;by_cases M:c=1;{subst M;obtain rfl:n=0:=ae;obtain rfl:m=[]:=vI.1 s;go_in;go_wp2;go_ret;refine⟨rfl,⟨rfl,λo=>by simp[hf],Y (Ad b o),0,⟨by simp[go_sem,y],by simp[go_sem,r]⟩,.L rfl,ae,.R ⟨b,o,rfl⟩⟩,Qd⟩};{have N:¬(c:Int)=1:=ae;go_in;go_wp2;go_ret;exact⟨rfl,⟨s,λo=>by simp[hf],Y (Ad b (o+1)),c-1,⟨by simp[go_sem,y],by simp[go_sem,r]⟩,V.tail.set _ _,ae,.R ⟨b,o+1,rfl⟩⟩,Qd⟩}
theorem df8(h:lQ w R [] 0 sh):dQ dG 189 #[Pz R] w λe w'=>e=dR (.I 0)/\lQ w' R [] 0 dY/\Kept [blk R] w w':=by
 obtain⟨i,hf,p,c,⟨q,m⟩,r,hc,j⟩:=h;go_in;go_wp2;go_ret;exact⟨rfl,⟨rfl,λo=>by simp[hf],p,c,⟨by simp[go_sem,q],by simp[go_sem,m]⟩,.L rfl,hc,j⟩,Qd⟩
def sB:LI->Bool->Int×LI×Bool
 |[],_=>(0,[],dY)
 |c::t,sh=>(c,t,sh)
theorem aL8(h:lQ w R m n sh)(i:aA m)(hl:Mg n)(e:O (sB m sh=(x,m',sh'))):Cp 189 #[Pz R] w λe w'=>e=dR (.I x)/\lQ w' R m' (J m') sh'/\Kept [blk R] w w':=by
 have e:=aa e;cases m with
 |nil=>
  simp[sB]at e;obtain⟨rfl,rfl,rfl⟩:=e;obtain rfl:n=0:=h.1.C;exact df8 h
 |cons c t=>
  simp[sB]at e;obtain⟨rfl,rfl,rfl⟩:=e;obtain rfl:n=J t+1:=by have:=h.1;simpa using this.C
  exact df7 h (i c ai) ae
def sN:Nat->Nat->Int->LI->Bool->Int×LI×Bool
 |0,_,a,m,sh=>(a,m,sh)
 |f+1,k,a,m,sh=>if(sB m sh).1<128 then(xA k a (sB m sh).1,(sB m sh).2)else sN f (k+1) (xA k a (sB m sh).1) (sB m sh).2.1 (sB m sh).2.2
theorem TK(h:aA m):aA (sB m sh).2.1/\0<=(sB m sh).1/\(sB m sh).1<256/\(sB m sh).2.1.length<=J m:=by
 cases m with
 |nil=>exact⟨λz i=>by simp[sB]at i,by simp[sB],by simp[sB],by simp[sB]⟩
 |cons c t=>exact⟨λz i=>h z (by simp[sB]at i;simp[i]),(h c ai).1,(h c ai).2,by simp[sB]⟩
theorem FG(h:lQ w R m n sh)(hb:aA m)(hl:Mg n)(e:O (sN 10 0 0 m sh=(x,m',sh'))):dQ dG 131 #[Pz R] w λe w'=>e=dR (.U x)/\lQ w' R m' (J m') sh'/\Kept [blk R] w w':=by
 go_in
 go_wp21
 go_loopw[3,6](λnv E wr=>∃(v:Int)(k:Nat)(j:LI)(s:Bool)(q:Nat),nv=.U v/\k<=10/\E=.I k/\O (sN (10-k) k v j s=(x,m',sh'))/\O (aA j)/\q<=n/\O (lQ wr R j q s)/\Kept [blk R] w wr) (λ_ E _=>10-(jN (intOf E)))
 exact⟨0,0,m,sh,n,rfl,ae,rfl,e,hb,fq _,h,Kept.refl _ _⟩;{
 obtain⟨v,k,j,s,q,rfl,hk,rfl,D,X,qz,B,hK⟩:=hrel;by_cases EP:k<10;{
 have S:(k:Int)<10:=ae;have i:=aa D;rw[show 10-k=(9-k)+1 by omega,sN]at i;have cW:=TK (sh:=s) X;obtain⟨⟨c,u,o⟩,N⟩:∃y,sB j s=y:=⟨_,rfl⟩;rw[N]at i cW;obtain⟨M,yQ,gL,W⟩:=cW;dsimp only at i M yQ gL W;have sI:J j=q:=B.1;have xt:J u<=n:=ae;have w7:jY jV (7*(k:Int))=7*(k:Int):=l8 _ ae;have w70:¬7*(k:Int)<0:=ae;have mL:=af M;clear D M sI W
 go_wp21
 refine(aL8 B X ae N).h ?_;rintro r w2⟨rfl,Zf,V⟩;have DT:=af Zf;have Fk:=af (hK.Z V);clear Zf V N;by_cases hc:c<128;{rw[aK hc]at i;simp only[jk]at i;obtain⟨Z,rfl,rfl⟩:=i;have E1:=af Z;clear Z;go_wp2;go_ret;exact⟨by rw[<-aa E1];rfl,DT,Fk⟩};{
 have gq:¬c<128:=hc;rw[aJ hc]at i;have sO:O (sN (10-(k+1)) (k+1) (xA k v c) u o=(x,m',sh')):=by show _=_;rw[show 10-(k+1)=9-k by omega];exact i
 clear i;go_wp2;go_roundw;exact⟨xA k v c,k+1,u,o,J u,rfl,ae,by go_num,sO,mL,xt,DT,Fk⟩;exact dh}};{have S:¬(k:Int)<10:=ae;have i:=aa D;rw[show 10-k=0 by omega,sN]at i;simp only[jk]at i;obtain⟨rfl,rfl,rfl⟩:=i;obtain rfl:J j=q:=B.1;clear D;go_wp2;go_ret;exact⟨rfl,B,hK⟩}}
def sT(m:LI)(sh:Bool):LI×LI×Bool:=
 if((sN 10 0 0 m sh).2.1.length:Int)<(sN 10 0 0 m sh).1 then([],(sN 10 0 0 m sh).2.1,dY)
 else((sN 10 0 0 m sh).2.1.take (sN 10 0 0 m sh).1.toNat,(sN 10 0 0 m sh).2.1.drop (sN 10 0 0 m sh).1.toNat,(sN 10 0 0 m sh).2.2)
theorem WY(f:Nat):∀(k:Nat)(a:Int)(m:LI)(sh:Bool),aA m->(0<=a/\a<2^64)->aA (sN f k a m sh).2.1/\(sN f k a m sh).2.1.length<=J m/\0<=(sN f k a m sh).1/\(sN f k a m sh).1<2^64:=by
 induction f with
 |zero=>intro k a m sh i j;exact⟨i,fq _,j.1,j.2⟩
 |succ f ih=>
  intro k a m sh i j;rw[sN];let⟨o,y,x,s⟩:=TK (sh:=sh) i;split;{exact⟨o,s,aC0⟩};{let⟨r,u,q⟩:=ih (k+1) (xA k a (sB m sh).1) _ (sB m sh).2.2 o (aC0);exact⟨r,ae,q⟩}
theorem dH1(B:Le l0 N)(u:Rd X v0 l0)(hl:N<=2^22):Cp 81 #[.T (U (Q X)) 1 1] (jA X (dO #[v0] 22)) λe w'=>∃i r,e=dR (.S i N r)/\Own (U (Q X)) w' (.S i N r) l0/\Bw X w':=by
 have s:Bw X (jA X (dO #[v0] 22)):=aH.alloc az _;refine(Ep (g:=U (Q X)) (vs:=[v0]) [l0] (lm:=l0) (n:=N) 1 rfl (by show _=_;simp[cat]) B ⟨rfl,λj v x q m=>?_⟩ hl ae).h ?_;{
 match j,q,m with
 |0,q,m=>simp at q m;subst q m;exact⟨ai,u.H s⟩}
 {rintro e w'⟨i,r,rfl,o,y⟩;exact⟨i,r,rfl,Own.h o ai,ah s y⟩}
theorem xB.H(h:xB R w p m)(q:Bw w w'):xB R w' p m:=by
 obtain h|⟨b,j,u,s,r⟩:=h;{exact .L h};{exact .R ⟨b,j,u,s,λi o=>aj (r i o) q⟩}
theorem xB.take(h:xB R w p m)(V:Nat):xB R w p (jT V m):=by
 obtain h|⟨b,j,s,r,q⟩:=h;{exact .L (by rw[h];simp)};{refine .R ⟨b,j,s,r,λi o=>?_⟩;rw[te]at o;rw[q i ae];simp[List.getD,PR,show i<V by omega]}
theorem xB.drop(h:xB R w (Ad b o) m)(V:Nat):xB R w (Ad b (o+V)) (jD V m):=by
 obtain h|⟨x,u,s,j,r⟩:=h;{exact .L (by rw[h];simp)};{simp at j;obtain⟨rfl,rfl⟩:=j;refine .R ⟨b,o+V,s,rfl,λi q=>?_⟩;rw[uC]at q;rw[Us,r (V+i) ae];simp[List.getD]}
theorem aJ3(h:lQ w R m n sh)(hb:aA m)(hl:Mg n)(hRw:R<U (Q w)){x:LI}(e:O (sT m sh=(x,m',sh')))(eN:Le x N):dQ dG 190 #[Pz R] w λr w'=>∃p' c',r=dR (.S p' N c')/\Own (U (Q w)) w' (.S p' N c') x/\lQ w' R m' (J m') sh'/\Kept [blk R] w w':=by
 have cW:=WY 10 0 0 m sh hb ae;obtain⟨⟨v,m1,TG⟩,eS⟩:∃y,sN 10 0 0 m sh=y:=⟨_,rfl⟩;have j:=aa e;rw[sT,eS]at j;rw[eS]at cW;obtain⟨qO,yM,v0,X⟩:=cW;dsimp only at j qO yM v0 X;rw[h.1]at yM;let⟨i,E⟩:=aZ (J m1);rw[E]at j yM;have wn:jY jU (i:Int)=(i:Int):=by rw[uW];omega
 go_in
 go_wp21
 refine(FG h hb hl eS).h ?_;rintro r D⟨rfl,rT,Z⟩;rw[E]at rT;have wG:=af rT;obtain⟨_,hf,p,c,⟨h0,h1⟩,hr,hc,hp⟩:=rT;by_cases hv:(i:Int)<v;{
 rw[aK hv]at j;simp only[jk]at j;obtain⟨rfl,rfl,rfl⟩:=j;obtain rfl:N=0:=by rw[<-aa eN];rfl
 have SI:=af X;clear X;go_wp2;go_ret;refine⟨dN,0,rfl,nK _ _ _ _,?_,Z.Z Qd⟩;rw[E];exact⟨E,λo=>by simp[hf],p,c,⟨by simp[go_sem,h0],by simp[go_sem,h1]⟩,hr.set _ _,hc,hp⟩};{
 rw[aJ hv]at j;obtain⟨V,rfl⟩:∃V:Nat,v=(V:Int):=⟨jN v,ae⟩;have eV:jN ((V:Int))=V:=ae;rw[eV]at j;simp only[jk]at j;obtain⟨ex,em,es⟩:=j;have hVn:V<=i:=ae;obtain rfl:N=V:=by rw[<-aa eN,<-ex,te,E];omega
 have IS:J m'=i-N:=by rw[<-em,uC,E]
 have qy:¬(i:Int)<(N:Int):=hv;have k2:=nT N c;have k3:=nT N i;have k4:=nT i c;have dX5:R<U (Q D):=nI D _ h0;have M:=dy ex em IS;have rx:Rd D (.S p N c) x:=by rw[<-ex];exact(hr.take N).rd (ex▸aa eN)
 have W:=af rx;have Wc:=af hr;have zK:=Z.size;have hNb:N<=2^22:=ae;clear v0 X eV hb qO ex em rx hr h eS e
 go_wp21
 refine(dH1 eN W hNb).h ?_;rintro r w2⟨p2,c2,rfl,o2,s⟩;have i0:=aj h0 s;have i1:=aj h1 s;have q:=DD hf dX5 s;have z2:=s.size;have Fk:=af (Z.Z (Kept.J3 s));have u:=af o2;have iC:=af (Wc.H s);clear h0 h1 hf s o2 Z Wc W;obtain⟨rfl,rfl⟩|⟨b,o,rfl⟩:=hp;{obtain rfl:i=0:=ae;obtain rfl:N=0:=ae;go_wp2;go_ret;refine⟨p2,c2,rfl,Own.h (B:=U (Q D)) ?_ ae,?_,Fk.Z Qd⟩;{exact xj u cg _};{have xT:m'=[]:=vI.1 M.2.2;rw[xT,<-es];exact⟨rfl,λo=>by simp[q],dN,0,⟨by simp[go_sem,i0],by simp[go_sem,i1]⟩,.L rfl,ai,.L ⟨rfl,rfl⟩⟩}};{by_cases hcN:c=N;{subst hcN;obtain rfl:i=c:=ae;go_wp2;go_ret;refine⟨p2,c2,rfl,Own.h (B:=U (Q D)) ?_ ae,?_,Fk.Z Qd⟩;{exact xj u cg _};{have xT:m'=[]:=vI.1 (by rw[M.2.2];omega);rw[xT,<-es];exact⟨rfl,λo=>by simp[q],Y (Ad b o),0,⟨by simp[go_sem,i0],by simp[go_sem,i1]⟩,.L rfl,ai,.R ⟨b,o,rfl⟩⟩}};{have fl6:¬(c:Int)=(N:Int):=ae;go_wp2;go_ret;refine⟨p2,c2,rfl,Own.h (B:=U (Q D)) ?_ ae,?_,Fk.Z Qd⟩;{exact xj u cg _};{rw[<-es,M.2.2];refine⟨M.2.2,λo=>by simp[q],Y (Ad b (o+N)),c-N,⟨by simp[go_sem,i0],by simp[go_sem,i1]⟩,?_,ae,.R ⟨b,o+N,rfl⟩⟩;have:=iC.drop N;rw[M.2.1]at this;exact this.set _ _}}}}
theorem dj0(f:Nat):∀(k:Nat)(a:Int)(m:LI)(v:Int)(t:LI)(sh:Bool),vy f k a m=Y (v,t)->sN f k a m sh=(v,t,sh):=by
 induction f with
 |zero=>intro k a m v t sh h;simp[vy]at h
 | succ f ih=>
  intro k a m v t sh h;cases m with
  |nil=>simp[vy]at h
  |cons c m=>
   rw[vy]at h;rw[sN];show(if c<128 then(xA k a c,m,sh)else sN f (k+1) (xA k a c) m sh)=_;split at h;{next hc=>rw[aK hc];simp at h;rw[h.1,h.2]}
   {next hc=>rw[aJ hc];exact ih _ _ _ _ _ _ h}
theorem aN1{rest:LI}(i:s<2^64):sN 10 0 0 (vi s++rest) sh=((s:Int),rest,sh):=dj0 10 0 0 _ _ _ sh (Mh rest i)
theorem ai7(P:LI){rest:LI}(h:J P<2^64):sT (tx P++rest) sh=(P,rest,sh):=by
 rw[sT,tx,pO,aN1 h];simp only[eG];rw[aJ ae];simp
theorem ai9(h:sh):(sB m sh).2.2:=by
 cases m with
 |nil=>rfl
 |cons c t=>exact h
theorem aN2(f:Nat):∀(k:Nat)(a:Int)(m:LI)(sh:Bool),sh->(sN f k a m sh).2.2:=by
 induction f with
 |zero=>intro k a m sh h;exact h
 |succ f ih=>
  intro k a m sh h;rw[sN];split;{exact ai9 h};{exact ih _ _ _ _ (ai9 h)}
theorem ai8(h:sh):(sT m sh).2.2:=by
 rw[sT];split;{rfl};{exact aN2 _ _ _ _ _ h}
theorem TJ(h:aA m):aA (sT m sh).1/\aA (sT m sh).2.1/\(sT m sh).1.length<=J m/\(sT m sh).2.1.length<=J m:=by
 let⟨j,o,r,q⟩:=WY 10 0 0 m sh h ae;rw[sT];split;{exact⟨λz i=>by simp at i,j,ai,o⟩};{refine⟨λz i=>j z (PT i),λz i=>j z (PX i),?_,?_⟩;{rw[te];omega};{rw[uC];omega}}
theorem Zz(h:∀o,jF w (Ad b o)=dF)(j:Kept [blk R] w w')(m:b<U (Q w))(q:b≠R):∀o,jF w' (Ad b o)=dF:=λo=>
 (Dj (j.block b m (λx i e=>by simp only[td]at i;subst i;simp[jB]at e;exact q e.C))).Z (h o)
theorem Own.ku{B:Nat}(h:Own B w v l)(j:Kept [blk R] w w')(q:R<B):Own B w' v l:=by
 refine Own.aY5 (vs:=[blk R]) h j ?_;intro x i k o m;simp only[td]at i;subst i;simp[jB]at m;have:=h.lt k o;omega
theorem VI(h:Bw w0 w)(j:Kept [blk R] w w')(m:U (Q w0)<=R):Bw w0 w':=
 h.Z (j.H h.size (λv i b e=>by simp only[td]at i;subst i;simp[jB]at e;omega))
abbrev ee0(se pa:Bool)(lo hi vs:Int)(sq jo:Bool):dV:=jP #[jO se,jO pa,.I lo,.I hi,.I vs,jO sq,jO jo]
theorem zs(i:Bool)(s:Int):i=dY\/(i=dF/\s=0)\/(i=dF/\(s==0)=dF):=by
 cases i;{exact .R ((zf 0 s).imp (⟨rfl,·⟩) (⟨rfl,·⟩))};{exact .L rfl}
theorem zp(i:Bool)(n:Nat):i=dY\/(i=dF/\n=0)\/(i=dF/\((n:Int)==0)=dF):=by
 obtain h|⟨h,j⟩|h:=zs i n;{exact .L h};{exact .R (.L ⟨h,ae⟩)};{exact .R (.R h)}
variable {m:Nat}
theorem ee4{k s:Int}(i:O (Bf se pa lo hi vs sq s f n m e g=B)):dQ dG 214 #[ee0 se pa lo hi vs sq jo,qF k s (.S p n c) f (.S q m d) e g] w (Rb (jO B) w):=by
 obtain rfl|⟨rfl,rfl⟩|⟨rfl,dd⟩:=zs se s
 all_goals(first|(have x:=dd;clear x)|obtain rfl|⟨rfl,rfl⟩|⟨rfl,dd⟩:=zp pa n)
 all_goals(first|(have x:=dd;clear x)|obtain u|dd:=Kl (lo<=f))
 all_goals(first|(have x:=dd;clear x)|obtain r|dd:=Kl (f<=hi))
 all_goals(first|(have x:=dd;clear x)|obtain o|dd:=Kl ((m:Int)<=vs))
 all_goals(first|(have x:=dd;clear x)|obtain rfl|⟨rfl,rfl⟩|⟨rfl,dd⟩:=zs sq e)
 all_goals(first|(have x:=dd;clear x)|obtain rfl|j:=zf 0 g)
 all_goals(cases B<;>first|(exfalso;have h:=aa i;clear i;simp_all[Bf]<;>omega)|clear i)
 all_goals(go_in;go_wp2;go_ret;exact⟨rfl,(aH.alloc az _).alloc ai _⟩)
abbrev Jw(w:G)(iG o:Nat)(se pa:Bool)(lo hi vs:Int)(sq jo:Bool):Prop:=I w (Ad iG o)=Y (jO se)/\I w (Ad iG (o+1))=Y (jO pa)/\I w (Ad iG (o+2))=dI lo/\I w (Ad iG (o+3))=dI hi/\I w (Ad iG (o+4))=dI vs/\I w (Ad iG (o+5))=Y (jO sq)/\I w (Ad iG (o+6))=Y (jO jo)
theorem Jw.H(h:Jw w iG o se pa lo hi vs sq jo)(i:Bw w w'):Jw w' iG o se pa lo hi vs sq jo:=
 ⟨aj h.1 i,aj h.2.1 i,aj h.2.2.1 i,aj h.2.2.2.1 i,aj h.2.2.2.2.1 i,aj h.2.2.2.2.2.1 i,aj h.2.2.2.2.2.2 i⟩
theorem aI0(Z:1<=k)(X:k<=13){s:Int}(E:Jw w 0 (k*7) se pa lo hi vs sq jo)(R:O (Bf se pa lo hi vs sq s f n m e g=B)):dQ dG 187 #[qF k s (.S p n c) f (.S q m d) e g] w (Rb (jO B) w):=by
 have h1:=gr 1 k;have h2:(k:Int)<=13:=ae;have h3:(k:Int)<14:=ae;have h4:k<14:=ae;have h5:=gr 0 k;go_in
 go_wp21
 let⟨W,i⟩:=aF (jA w (dO #[.I k,.U s,.S p n c,.I f,.S q m d,.U e,.U g] 26));have r:=ij i;have o:lr W (U (Q w)) (.I k) (.U s) (.S p n c) (.I f) (.S q m d) (.U e) (.U g):=by rw[i];simp[lr,go_sem]
 have x:=E.H r;rw[<-i];clear i E
 go_region_held3 (λD=>lr D (U (Q w)) (.I k) (.U s) (.S p n c) (.I f) (.S q m d) (.U e) (.U g)/\Jw D 0 (k*7) se pa lo hi vs sq jo) (first|exact⟨o,x⟩|exact⟨y,M⟩)
  (first|(go_at_call 214;refine cK (ee4 R) λN u=>?_;have j:Bw W N:=(by first|exact u|exact ah (aR (U (Q W)) W).drew u);have y:=o.H j;have M:=x.H j))
 have V:=ah r j;clear o x y M u j r;go_wp2;go_ret;exact⟨rfl,V⟩
theorem cX7{k s:Int}(x:k<1\/13<k):dQ dG 187 #[qF k s (.S p n c) f (.S q m d) e g] w (Rb (jO dF) w):=by
 have i:∀o:Obj,Bw w (jA w o):=λo=>aH.alloc az _;by_cases y:k<1;{
 have u:¬(1:Int)<=k:=ae;have j:dD ((1:Int)<=k)=dF:=by simp;omega
 go_in
 go_wp21
 go_region
 all_goals(
  go_wp2;go_ret;exact⟨rfl,by first|exact i _|exact(i _).drew⟩)}
 {
 have u:(1:Int)<=k:=ae;have B:¬k<=13:=ae;have j:dD ((1:Int)<=k):=by simp;omega
 have r:dD (k<=(13:Int))=dF:=by simp;omega
 go_in
 go_wp21
 go_region
 all_goals(
  go_wp2;go_ret;exact⟨rfl,by first|exact i _|exact(i _).drew⟩)}
theorem Hc(h:Below (U (Q w)) w u){o:Obj}:Below (U (Q w)) w (jA u o):=h.alloc h.size o
theorem cY5{v:Nat}(o:v<2^64)(m:O (J (vi v)=M)):Cp 119 #[jK jU v] w λe w'=>∃i j,e=dR (jC i M j)/\Own (U (Q w)) w' (jC i M j) (vi v)/\Below (U (Q w)) w w':=by
 obtain rfl:=aa m;exact Tu o
theorem cF0{x:dV}(h:b=U (Q u)):I (jA u (dO #[x] t)) (Ad b 0)=x:=by subst h;simp
theorem cE9(h:I u (Ad b o)=v):I (u.alloc ob) (Ad b o)=v:=aj h (aH.alloc az _)
theorem cE8(h:I u (Ad b o)=v):I u.drew (Ad b o)=v:=h
theorem rd1(h:I u (Ad b 0)=Y (jK .u8 y)):Rd u (jC (Ad b 0) 1 1) [y]:=by
 refine⟨_,_,rfl,.R ⟨b,0,rfl,λi j=>?_⟩⟩;obtain rfl:i=0:=by simpa using j
 simpa using h
theorem dH0{l1 l2 r q lm:LI}(e:O (lm=cat [l0,l1,l2,r,q]))(M:Le lm N)(B:Rd X v0 l0)(y:Rd X v1 l1)(x:Rd X v2 l2)(u:Rd X v3 r)(s:Rd X v4 q)(hl:N<=2^22)(E:iG=U (Q X)):Cp 81 #[jC (Ad iG 0) 5 5] (jA X (dO #[v0,v1,v2,v3,v4] 22)) λe w'=>∃j m,e=dR (jC j N m)/\Own (U (Q X)) w' (jC j N m) lm/\Below (U (Q X)) X w':=by
 subst E;have i:Bw X (jA X (dO #[v0,v1,v2,v3,v4] 22)):=aH.alloc az _;refine(Ep [l0,l1,l2,r,q] 5 rfl e M (bV0 ai ai ai ai ai (B.H i) (y.H i) (x.H i) (u.H i) (s.H i)) hl ae).h ?_;rintro e w'⟨j,m,rfl,o,D⟩;exact⟨j,m,rfl,Own.h o ai,ah i D⟩
theorem ee8{i:G}(o:Below (U (Q X)) X i)(m:Own (U (Q X)) i v l)(j:Below (U (Q w)) w X):Own (U (Q w)) i v l/\Below (U (Q w)) w i:=⟨Own.h m j.size,ah j o⟩
def jr(k s:Nat)(P:LI)(f:Nat)(V:LI):LI:=[(k:Int)]++(vi s++(tx P++([(f:Int)]++tx V)))
theorem aZ8(k:Nat)(iV:1<=k)(lI:k<=13)(s f:Nat)(hs:s<2^64)(hf:f<=2)(P V:LI)(ep:Le P n)(ev:Le V m)(hp:Rd w (jC p n c) P)(hv:Rd w (jC q m d) V)(hn:Mg n)(hm:Mg m)(hT:Jw w 0 (k*7) se pa lo hi vs sq dY)(eB:O (Bf se pa lo hi vs sq s f n m e g))(eN:O (J (jr k s P f V)=N)):dQ dG 127 #[qF k s (jC p n c) f (jC q m d) e g] w λr w'=>∃X c',r=dR (jC X N c')/\Own (U (Q w)) w' (jC X N c') (jr k s P f V)/\Below (U (Q w)) w w':=by
 have h1:=gr 1 k;have h2:(k:Int)<=13:=ae;have h3:(k:Int)<14:=ae;have B:k<14:=ae;have h5:=gr 0 k;have wk:IntKind.u8.wrap (k:Int)=(k:Int):=by rw[Ki];omega
 have wf:IntKind.u8.wrap (f:Int)=(f:Int):=by rw[Ki];omega
 have HP:=af λ(w':G)(y:Bw w w')=>hp.H y;have HV:=af λ(w':G)(y:Bw w w')=>hv.H y;clear hp hv;go_in
 go_wp21
 let⟨W,u⟩:=aF (jA w (dO #[jK jV k,jK jU s,jC p n c,jK jV f,jC q m d,jK jU e,jK jU g] 26));have E:=ij u;have hA:lr W (U (Q w)) (jK jV k) (jK jU s) (jC p n c) (jK jV f) (jC q m d) (jK jU e) (jK jU g):=by rw[u];simp[lr,go_sem]
 have zW:U (Q w)<U (Q W):=by rw[u];simp
 have S:=hT.H E;rw[<-u];clear u hT;refine cK (aI0 iV lI S eB) λw1 i=>?_;have x:=hA.H i;have Vd:=S.H i;have R:=ah E i;have z1:=i.size;clear hA S E i;obtain⟨a0,a1,a2,a3,a4,a5,a6⟩:=x;have t0:=Vd;obtain⟨M,eM⟩:∃M,O (J (vi s)=M):=⟨_,rfl⟩;obtain⟨N1,Fb⟩:∃M,O (J (tx P)=M):=⟨_,rfl⟩;obtain⟨N2,Lu⟩:∃M,O (J (tx V)=M):=⟨_,rfl⟩;have x:lr w1 (U (Q w)) (jK jV k) (jK jU s) (jC p n c) (jK jV f) (jC q m d) (jK jU e) (jK jU g):=⟨a0,a1,a2,a3,a4,a5,a6⟩;have EE:O (jr k s P f V=cat [[(k:Int)],vi s,tx P,[(f:Int)],tx V]):=by show _=_;rw[ex9];rfl
 have hNb:N<=2^22:=by have h1:=qm s;have h2:=Ib P;have h3:=Ib V;have B:=aa eN;rw[jr]at B;simp only[eG,ni,xk]at B;rw[aa ep]at h2;rw[aa ev]at h3;omega
 go_wp21
 clear a0 a1 a2 a3 a4 a5 a6 t0
 go_region_held3 (λw'=>lr w' (U (Q w)) (jK jV k) (jK jU s) (jC p n c) (jK jV f) (jC q m d) (jK jU e) (jK jU g)) (exact lr.H x (by repeat(first|with_reducible exact aR _ _|with_reducible refine Hc ?_|with_reducible refine PI ?_|with_reducible refine ah ?_ D|with_reducible refine ah ?_ o|with_reducible refine ah ?_ j|with_reducible refine ah ?_ i)))
  (first
   |(go_at_call 119;with_reducible refine(cY5 hs eM).h ?_;rintro r x1⟨pv,cv,rfl,Z,i⟩)
   |(go_at_call 179;with_reducible refine(ag9 (p:=p) (c:=c) ep (by exact aa HP _ (by repeat(first|with_reducible exact R|with_reducible refine Hc ?_|with_reducible refine PI ?_|with_reducible refine ah ?_ o|with_reducible refine ah ?_ j|with_reducible refine ah ?_ i))) hn Fb).h ?_;rintro r x2⟨pt,ct,rfl,ot,j⟩)
   |(go_at_call 179;with_reducible refine(ag9 (p:=q) (c:=d) ev (by exact aa HV _ (by repeat(first|with_reducible exact R|with_reducible refine Hc ?_|with_reducible refine PI ?_|with_reducible refine ah ?_ o|with_reducible refine ah ?_ j|with_reducible refine ah ?_ i))) hm Lu).h ?_;rintro r x3⟨pu,cu,rfl,ou,o⟩)
   |(go_at_call 81;with_reducible refine(dH0 EE eN (by exact rd1 (by repeat(first|with_reducible exact cF0 ai|with_reducible refine cE9 ?_|with_reducible refine cE8 ?_|with_reducible refine aj ?_ o|with_reducible refine aj ?_ j|with_reducible refine aj ?_ i))) (by exact Rd.H Z.rd (by repeat(first|with_reducible exact aR _ _|with_reducible refine Hc ?_|with_reducible refine PI ?_|with_reducible refine ah ?_ o|with_reducible refine ah ?_ j))) (by exact Rd.H ot.rd (by repeat(first|with_reducible exact aR _ _|with_reducible refine Hc ?_|with_reducible refine PI ?_|with_reducible refine ah ?_ o|with_reducible refine ah ?_ j))) (by exact rd1 (by repeat(first|with_reducible exact cF0 ai|with_reducible refine cE9 ?_|with_reducible refine cE8 ?_|with_reducible refine aj ?_ o|with_reducible refine aj ?_ j|with_reducible refine aj ?_ i))) (by exact Rd.H ou.rd (by repeat(first|with_reducible exact aR _ _|with_reducible refine Hc ?_|with_reducible refine PI ?_|with_reducible refine ah ?_ o|with_reducible refine ah ?_ j))) ae ai).h ?_;rintro r x4⟨pj,cj,rfl,oj,D⟩))
 all_goals(
  have vT:=ee8 (w:=w) D oj (by repeat(first|with_reducible exact R|with_reducible refine Hc ?_|with_reducible refine PI ?_|with_reducible refine ah ?_ o|with_reducible refine ah ?_ j|with_reducible refine ah ?_ i));clear D oj i j o Z ot ou;go_wp2;go_ret;exact⟨pj,cj,rfl,vT⟩)
theorem cv8{s:Int}(q:1<=k)(o:k<=13)(h:oF k s f n m e g):0<=f/\f<=2:=by
 unfold oF Bf at h;simp only[gI,lx]at h;obtain⟨-,-,j,i,-⟩:=h;obtain rfl|rfl|rfl|rfl|rfl|rfl|rfl|rfl|rfl|rfl|rfl|rfl|rfl:=kinds q o<;>simp[rowOf]at j i<;>omega
variable {B:Nat}
theorem lr.bu5(h:lr w b v0 v1 v2 v3 v4 v5 v6)(i:Below B w w')(hl:b<B):lr w' b v0 v1 v2 v3 v4 v5 v6:=by
 have e:=λo=>i.cell (p:=(Ad b o)) hl;exact⟨(e 0).Z h.1,(e 1).Z h.2.1,(e 2).Z h.2.2.1,(e 3).Z h.2.2.2.1,(e 4).Z h.2.2.2.2.1,(e 5).Z h.2.2.2.2.2.1,(e 6).Z h.2.2.2.2.2.2⟩
theorem du8(k s:Nat)(P:LI)(f:Nat)(V:LI):J (jr k s P f V)<=J P+J V+32:=by
 have m:=qm s;have j:=Ib P;have i:=Ib V;rw[jr];simp only[eG,ni,xk];omega
theorem dE5{f:Nat}(wk:IntKind.u8.wrap K=(k:Int))(wf:IntKind.u8.wrap F=(f:Int))(hs:s<2^64)(ep:Le P n)(ev:Le V m)(hp:Rd w (.S p n c) P)(hv:Rd w (.S q m d) V)(hn:Mg n)(hm:Mg m)(eN:O (J (jr k s P f V)=N)):dQ dG 58 #[qF K s (.S p n c) F (.S q m d) e g] w λr w'=>∃p' c',r=dR (.S p' N c')/\Own (U (Q w)) w' (.S p' N c') (jr k s P f V)/\Bw w w':=by
 have HP:=af λ(w':G)(hb:Bw w w')=>hp.H hb;have HV:=af λ(w':G)(hb:Bw w w')=>hv.H hb;obtain⟨M,eM⟩:∃M,O (J (vi s)=M):=⟨_,rfl⟩;obtain⟨E,Fb⟩:∃M,O (J (tx P)=M):=⟨_,rfl⟩;obtain⟨N2,Lu⟩:∃M,O (J (tx V)=M):=⟨_,rfl⟩;have hM:M<=10:=by have:=qm s;rw[aa eM]at this;omega
 have AZ:E<=1048586:=by have:=Ib P;rw[aa Fb,aa ep]at this;omega
 have px:N2<=1048586:=by have:=Ib V;rw[aa Lu,aa ev]at this;omega
 obtain⟨A1,xY⟩:∃l,O (l=[(k:Int)]++vi s):=⟨_,rfl⟩;obtain⟨A2,Jf⟩:∃l,O (l=A1++tx P):=⟨_,rfl⟩;obtain⟨A3,Lh⟩:∃l,O (l=A2++[(f:Int)]):=⟨_,rfl⟩;have hA4:O (jr k s P f V=A3++tx V):=by show _=_;rw[aa Lh,aa Jf,aa xY,jr];simp
 have u:O (J A1=1+M):=by show _=_;rw[aa xY,eG,aa eM];rfl
 have j:O (J A2=1+M+E):=by show _=_;rw[aa Jf,eG,aa u,aa Fb]
 have X:O (J A3=1+M+E+1):=by show _=_;rw[aa Lh,eG,aa j];rfl
 go_in
 go_wp21
 let⟨D,bG⟩:=aF (jA w (dO #[.I K,.U s,.S p n c,.I F,.S q m d,.U e,.U g] 26));have Jq:=ij bG;have hO0:lr D (U (Q w)) (.I K) (.U s) (.S p n c) (.I F) (.S q m d) (.U e) (.U g):=by rw[bG];simp[lr,go_sem]
 have zW0:U (Q D)=U (Q w)+1:=by rw[bG];simp
 rw[<-bG];have oo:Own (U (Q D)) (jA D (dO #[jK .u8 (k:Int)] 5)) (.T (U (Q D)) 1 1) [(k:Int)]:=Own.one D k;rw[zW0]at oo;obtain⟨W,hW⟩:∃W,W=jA D (dO #[jK .u8 (k:Int)] 5):=⟨_,rfl⟩;have bW:Bw w W:=hW▸Jq.alloc Jq.size _;have hO:lr W (U (Q w)) (.I K) (.U s) (.S p n c) (.I F) (.S q m d) (.U e) (.U g):=hO0.H (hW▸aH.alloc az _);have zW:U (Q w)+1<U (Q W):=by rw[hW];simp;omega
 rw[<-hW]at oo⊢;refine(aX8 9 s _ ae hs ae M eM).h ?_;rintro r x1⟨pv,cv,rfl,ov,ao⟩;have Pl:=Own.H oo ao;have Vf:=hO.H ao;have b1:=ah bW ao;have r1:Rd x1 (.S pv M cv) (vi s):=ov.rd;have z1:=ao.size;have a0:=id Vf;go_wp2_with(at_builtin;refine CD rfl rfl (B:=U (Q w)+1) (.T (U (Q w)+1) 1 1) (l:=[(k:Int)]) (m:=vi s) (lm:=A1) xY pv cv M eM rfl rfl Pl r1 (by rw[aa eM];simp;omega) ae ?_);intro p2 c2 x2 o2 dz;have b2:=Bp b1 dz Pl ae ae;have Z:=Vf.bu5 ((aR (U (Q w)+1) x1).grown dz ae (λk e=>(Pl.lt k e).1)) ae;have z2:=dz.size;rw[aa u]at o2⊢;have a0:=id Z
 go_wp21
 refine(ao9 (p:=p) (c:=c) (n:=n) (l:=P) ep (aa HP _ b2) hn (N:=E) Fb).h ?_;rintro r x3⟨pt,ct,rfl,ot,aE⟩;have o3:=Own.H o2 aE;have Ve:=Z.H aE;have b3:=ah b2 aE;have r3:=ot.rd;have z3:=aE.size;have a0:=id Ve;go_wp2_with(at_builtin;refine CD rfl rfl (B:=U (Q w)+1) (.S p2 (1+M) c2) (l:=A1) (m:=tx P) (lm:=A2) Jf pt ct E Fb rfl rfl o3 r3 (by rw[aa u,aa Fb];omega) ae ?_);intro p4 c4 x4 o4 mG;have b4:=Bp b3 mG o3 ae ae;have Zh:=Ve.bu5 ((aR (U (Q w)+1) x3).grown mG ae (λk e=>(o3.lt k e).1)) ae;have z4:=mG.size;rw[aa j]at o4⊢;have a0:=id Zh;go_wp2_with(at_builtin;refine OQ rfl rfl (B:=U (Q w)+1) (.S p4 (1+M+E) c4) (l:=A2) (lm:=A3) (y:=(f:Int)) Lh (U (Q x4)) rfl rfl (Own.H o4 (aH.alloc az _)) ai (by rw[aa j];omega) cg ?_);intro p5 c5 x5 o5 nj;have R:=Own.H o4 (w':=jA x4 (dO #[jK .u8 (f:Int)] 5)) (aH.alloc az _);have b5:=Bp (b4.alloc b4.size _) nj R ae cg;have hO5:=(Zh.H (aH.alloc az _)).bu5 ((aR (U (Q w)+1) _).grown nj cg (λk e=>(R.lt k e).1)) ae;have z5:U (Q x4)+1<=U (Q x5):=by have:=nj.size;simpa using this
 rw[aa X]at o5⊢;have a0:=id hO5
 go_wp21
 refine(ao9 (p:=q) (c:=d) (n:=m) (l:=V) ev (aa HV _ b5) hm (N:=N2) Lu).h ?_;rintro r x6⟨pu,cu,rfl,ou,gj⟩;have o6:=Own.H o5 gj;have b6:=ah b5 gj;have r6:=ou.rd;have z6:=gj.size;go_wp2_with(at_builtin;refine CD rfl rfl (B:=U (Q w)+1) (.S p5 (1+M+E+1) c5) (l:=A3) (m:=tx V) (lm:=jr k s P f V) hA4 pu cu N2 Lu rfl rfl o6 r6 (by rw[aa X,aa Lu];omega) ae ?_);intro p7 c7 x7 o7 hg7;have b7:=Bp b6 hg7 o6 ae ae;rw[aa eN]at o7⊢;have o8:=Own.h (B':=U (Q w)) o7 ae;go_wp2;go_ret;exact⟨p7,c7,rfl,o8,b7⟩
theorem ce0(E:k<=13){f:Nat}(u:s<2^64)(hf:f<=2)(B:Le P n)(ev:Le V m)(x:Rd w (.S p n c) P)(o:Rd w (.S q m d) V)(y:Mg n)(hm:Mg m)(D:O (J (jr k s P f V)=N)):Cp 58 #[qF k s (.S p n c) f (.S q m d) e g] w λr w'=>∃i j,r=dR (.S i N j)/\Own (U (Q w)) w' (.S i N j) (jr k s P f V)/\Bw w w':=
 dE5 (K:=k) (F:=f) (by rw[Ki];omega) (by rw[Ki];omega) u (e:=e) (g:=g) B ev x o y hm D
theorem do3{f:Nat}(i:s<2^64)(m:J P<2^64)(j:J V<2^64):oB (jr k s P f V)=((k:Int),Y (vi s++(tx P++([(f:Int)]++tx V))))/\oV (Y (vi s++(tx P++([(f:Int)]++tx V))))=((s:Int),Y (tx P++([(f:Int)]++tx V)))/\oT (Y (tx P++([(f:Int)]++tx V)))=(P,Y ([(f:Int)]++tx V))/\oB (Y ([(f:Int)]++tx V))=((f:Int),Y (tx V))/\oT (tx V)=(V,Y []):=by
 refine⟨rfl,?_,?_,rfl,?_⟩;{rw[oV,Mh _ i]};{rw[oT,aN4 _ m]};{have:=aN4 [] j;rw[De]at this;rw[oT,this]}
def oQ(l:LI)(k s:Nat)(P:LI)(f:Nat)(V:LI):Prop:=1<=k/\k<=13/\s<2^64/\f<=2/\oF k s f (J P) (J V) 0 0/\vL k/\l=jr k s P f V
theorem bs9{K S q NV:Nat}(s:Le P q)(r:Le V NV)(h:oF K S f q NV 0 0=dF\/vL K=dF\/∀F:Nat,f=F->¬jr K S P F V=l):¬(o5=Y []/\∃m j F:Nat,(K:Int)=m/\(S:Int)=j/\f=F/\oQ l m j P F V):=by
 rintro⟨-,m,j,F,a,b,rfl,d⟩;cases Uh.1 a;cases Uh.1 b;obtain⟨-,-,-,-,i,o,u⟩:=d;rw[aa s,aa r]at i;obtain h|h|h:=h;{rw[h]at i;cases i};{rw[h]at o;cases o};{exact h F rfl u.C}
theorem sdE{q:Prop}(h':q:=by
 go_wp2;refine bO (v:=dT #[qF 0 0 aq 0 aq 0 0,.I 13]) (by simp[results,results33,go_sem,r0]) rfl (.L ⟨⟨rfl,?_⟩,NN⟩)
 repeat(refine kV ?_ ai _)
 exact Ha):q:=h'
theorem bN7(p:OA)(c n:Nat)(l:LI)(u:Le l n)(w:G)(h:Rd w (.S p n c) l)(x:aA l)(hl:Mg n)(oU:n<=c)(k s f:Int)(P V:LI)(o1 o2 o3 o4 o5:Option LI)(e1:O (oB l=(k,o1)))(e2:O (oV o1=(s,o2)))(e3:O (oT o2=(P,o3)))(e4:O (oB o3=(f,o4)))(e5:O (oT o4=(V,o5)))(y NV:Nat)(eP:Le P y)(eV:Le V NV):dQ dG 33 #[.S p n c] w λr w'=>((r=dR (dT #[qF 0 0 aq 0 aq 0 0,.I 13])/\Bw w w')/\¬(o5=Y []/\∃K S F:Nat,k=K/\s=S/\f=F/\oQ l K S P F V))\/∃K S F:Nat,k=K/\s=S/\f=F/\oQ l K S P F V/\∃p' c' q' d' B,r=dR (dT #[qF K S (.S p' y c') F (.S q' NV d') 0 0,.I 0])/\U (Q w)<=B/\Own (U (Q w)) w' (.S p' y c') P/\Btw (U (Q w)) B (.S p' y c')/\Own B w' (.S q' NV d') V/\Bw w w':=by
 have HB:=af x;have S0:O (ik n l l):=ik.start u;have S1:O (ik n l o1):=by have:=al3 u S0;rw[aa e1]at this;exact this
 have S2:O (ik n l o2):=by have:=vz u S1;rw[aa e2]at this;exact this
 have S3:O (ik n l o3):=by have:=al2 u S2;rw[aa e3]at this;exact this
 have S4:O (ik n l o4):=by have:=al3 u S3;rw[aa e4]at this;exact this
 have hNP:y<=2^20:=by have:=(Ue x S2).2;rw[aa e3]at this;rw[<-aa eP];exact fx this hl
 have hNV:NV<=2^20:=by have:=(Ue x S4).2;rw[aa e5]at this;rw[<-aa eV];exact fx this hl
 have a0:kq n l=0:=by simp[kq,aa u]
 let⟨A1,eA1⟩:=aZ (kq n o1);let⟨A2,ZO⟩:=aZ (kq n o2);let⟨A3,eA3⟩:=aZ (kq n o3);let⟨A4,eA4⟩:=aZ (kq n o4);let⟨A5,eA5⟩:=aZ (kq n o5);have N:=λw'(Z:Bw w w')=>aO3 u (h.H Z) x hl S0 e1;rw[a0,eA1]at N;have c2:=λw'(Z:Bw w w')=>bS6 u (h.H Z) x hl S1 e2;rw[eA1,ZO]at c2;have c3:=λw'(Z:Bw w w')=>aO2 u (h.H Z) x hl oU S2 e3 eP;rw[ZO,eA3]at c3;have c4:=λw'(Z:Bw w w')=>aO3 u (h.H Z) x hl S3 e4;rw[eA3,eA4]at c4;have c5:=λw'(Z:Bw w w')=>aO2 u (h.H Z) x hl oU S4 e5 eV;rw[eA4,eA5]at c5;have C1:=af N;have C2:=af c2;have C3:=af c3;have C4:=af c4;have C5:=af c5;have HH:=af h;clear N c2 c3 c4 c5 a0 eA1 ZO eA3 eA4 h x;go_in
 go_wp21
 let⟨W,hW⟩:=aF (jA w (dO #[.I 0,.U 0,aq,.I 0,aq,.U 0,.U 0] 26));have bW:=ij hW;have hR:lr W (U (Q w)) (.I 0) (.U 0) aq (.I 0) aq (.U 0) (.U 0):=by rw[hW];simp[lr,go_sem]
 have fR:∀o,jF W (Aw w o)=dF:=λo=>by rw[hW];simp[go_sem]
 have zW:U (Q w)<U (Q W):=by rw[hW];simp
 rw[<-hW];clear hW;refine(aa C1 _ bW).h ?_;rintro r w'⟨rfl,rfl⟩
 go_wp21
 refine(aa C2 _ bW).h ?_;rintro r w'⟨rfl,rfl⟩
 go_wp21
 refine(aa C3 _ bW).h ?_;rintro r w1⟨p1,N,rfl,x1,ao⟩;have b1:=ah bW ao;have rT:=hR.H ao;have fR1:=DD fR zW ao;have z1:=ao.size;clear hR fR ao
 go_wp21
 refine(aa C4 _ b1).h ?_;rintro r w2⟨rfl,rfl⟩
 go_wp21
 refine(aa C5 _ b1).h ?_;rintro r w3⟨p3,c3,rfl,x3,aE⟩;have b3:=ah b1 aE;have x1':=Own.H x1 aE;have j:=rT.H aE;have fR3:=DD fR1 ae aE;have z3:=aE.size;clear rT fR1 aE;have dY7:O (aA P/\aA V/\0<=s/\s<2^64):=by have h1:=(Ue HB S2).1;have h2:=(Ue HB S4).1;have h3:=bV9 (om:=o1);rw[aa e3]at h1;rw[aa e5]at h2;rw[aa e2]at h3;exact⟨h1,h2,h3.1,h3.2⟩
 let⟨X,hX⟩:=aF (jA w3 (dO #[.I k,.U s,.S p1 y N,.I f,.S p3 NV c3,.U 0,.U 0] 26));have DP:=ij hX;have bX:Bw w X:=ah b3 DP;have Zd:=j.H DP;have E:=DD fR3 ae DP;have D:lr X (U (Q w3)) (.I k) (.U s) (.S p1 y N) (.I f) (.S p3 NV c3) (.U 0) (.U 0):=by rw[hX];simp[lr,go_sem]
 have zX:U (Q w3)<U (Q X):=by rw[hX];simp
 have xP:=Own.H x1' DP;have xV:=Own.H x3 DP;have R:∀i:Obj,Bw w3 (w3.alloc i):=λi=>aH.alloc az _;have q0:=λi=>aj j.1 (R i);have q1:=λi=>aj j.2.1 (R i);have q2:=λi=>aj j.2.2.1 (R i);have q3:=λi=>aj j.2.2.2.1 (R i);have q4:=λi=>aj j.2.2.2.2.1 (R i);have q5:=λi=>aj j.2.2.2.2.2.1 (R i);have q6:=λi=>aj j.2.2.2.2.2.2 (R i);have qf:=λ(i:Obj)=>DD fR3 ae (R i);clear j fR3 x1' x3 DP R;have r0:=id Zd;have j0:=id D;have tP:Btw (U (Q w)) (U (Q w2)) (.S p1 y N):=λb x=>by have:=x1.lt b x;omega
 clear x1;by_cases hA5:A5<0;{
 have NN:=af (show¬(o5=Y []/\∃K S F:Nat,k=K/\s=S/\f=F/\oQ l K S P F V)fromλe=>by rw[e.1]at eA5;simp[kq]at eA5;omega);clear hX;go_wp2;refine bO (v:=dT #[qF 0 0 aq 0 aq 0 0,.I 13]) (by simp[results,results33,go_sem,q0,q1,q2,q3,q4,q5,q6]) rfl (.L ⟨⟨rfl,?_⟩,NN⟩)
 repeat(refine kV ?_ ai _)
 exact Hc b3};{
 have fo9:¬A5<0:=hA5
 go_wp21
 rw[<-hX];clear hX q0 q1 q2 q3 q4 q5 q6 qf;let⟨QT,hVB,s0,s1⟩:=aa dY7;by_cases hk:1<=k/\k<=13;{
 obtain⟨K,rfl⟩:∃K:Nat,k=(K:Int):=⟨jN k,ae⟩;obtain⟨S,rfl⟩:∃S:Nat,s=(S:Int):=⟨jN s,ae⟩;have h1:1<=K:=ae;have h2:K<=13:=ae;let⟨B,eB⟩:=aZ (oF K S f y NV 0 0);have qR:O (S<2^64):=by show _<_;omega
 have HPV:=br QT hVB;clear s0 s1 QT hVB hk;refine cK (cv0 h1 h2 eB) λy1 m=>?_;have Ha:=ah bX m;have rT:=Zd.H m;have Vf:=D.H m;have f1:=DD E ae m;have Wu:=m.size;have xP1:=Own.H xP m;have xV1:=Own.H xV m;clear Zd D E m xP xV r0 j0 bX;have r0:=id rT;have j0:=id Vf;cases B with
 |false=>
  have NN:=af (bs9 (l:=l) (o5:=o5) (K:=K) (S:=S) (f:=f) eP eV (.L eB));exact sdE
 | true=>
  go_wp21
  refine(cf0 h1 h2).h ?_;rintro r y2⟨rfl,rfl⟩;let⟨iJ,eJ⟩:=aZ (vL K);rw[eJ];cases iJ with
  |false=>
   have NN:=af (bs9 (l:=l) (o5:=o5) (K:=K) (S:=S) (f:=f) eP eV (.R (.L eJ)));exact sdE
  |true=>
   let⟨f0,f2⟩:=cv8 h1 h2 eB;obtain⟨F,rfl⟩:∃F:Nat,f=(F:Int):=⟨jN f,ae⟩;have hF:F<=2:=ae;obtain⟨M,eM⟩:∃M,O (J (jr K S P F V)=M):=⟨_,rfl⟩;have HD0:=af (λe:jr K S P F V=l=>(⟨h1,h2,qR,hF,by rw[aa eP,aa eV];exact eB,eJ,e.C⟩:oQ l K S P F V));clear f0 f2
   go_wp21
   refine(ce0 h2 qR hF eP eV xP1.rd xV1.rd hNP hNV eM).h ?_;rintro r y3⟨p5,c5,rfl,o5',cR⟩;have bx3:=ah Ha cR;have j:=rT.H cR;have Ve:=Vf.H cR;have f3:=DD f1 ae cR;have zx3:=cR.size;have xP3:=Own.H xP1 cR;have xV3:=Own.H xV1 cR;clear rT Vf f1 cR r0 j0 Ha xP1 xV1;have r0:=id j;have j0:=id Ve
   go_wp21
   refine(Uz eM u o5'.rd (HH.H bx3) (by refine aA.app (λz hz=>by simp at hz;subst hz;omega) (aA.app (BH qR) (aA.app ?_ (aA.app (λz hz=>by simp at hz;subst hz;omega) ?_)));{exact aA.app (BH (by rw[aa eP];omega)) HPV.1};{exact aA.app (BH (by rw[aa eV];omega)) HPV.2}) HB).h ?_
   rintro r y4⟨rfl,gj⟩;have Ha:=ah bx3 gj;have Ze:=j.H gj;have Zh:=Ve.H gj;have f4:=DD f3 ae gj;have zx4:=gj.size;have xP4:=af (Own.H xP3 gj);have xV4:=af (Own.H xV3 gj);clear j Ve f3 gj r0 j0 bx3 xP3 xV3;have r0:=id Ze;have j0:=id Zh;by_cases hd:jr K S P F V=l;{
 have HDC:=af (aa HD0 hd);rw[Df hd];have BX4:=af Ha;have HZ:=cI5 zW z1 z3 zX Wu zx3 zx4;have aN:¬U (Q w)=U (Q w3):=ae;have dO4:¬U (Q w3)=U (Q w):=ae;clear Ze Zh Ha HD0 hd;go_wp2;let⟨zW,z1,z3,zX,Wu,zx3,zx4⟩:=aa HZ;refine bO (v:=dT #[qF K S (.S p1 y N) F (.S p3 NV c3) 0 0,.I 0]) (by simp[results,results33,go_sem,r0]) rfl (.R ⟨K,S,F,rfl,rfl,rfl,HDC,p1,N,p3,c3,U (Q w2),rfl,ae,?_,tP,?_,?_⟩);{
 refine Own.h (B:=U (Q w')) ?_ ae
 iterate 7 (refine xj ?_ zW _)
 exact xP4};{
 have zz:U (Q w)<U (Q w2):=ae
 iterate 7 (refine xj ?_ zz _)
 exact xV4};{
 iterate 7 (refine kV ?_ ai _)
 exact BX4}};{have NN:=af (bs9 (l:=l) (o5:=o5) (K:=K) (S:=S) (f:=F) eP eV (.R (.R (λF' e=>by cases Uh.1 e;exact hd))));rw[Cb hd];clear HD0 hd;exact sdE}};{have NN:=af (show¬(o5=Y []/\∃K S F:Nat,k=K/\s=S/\f=F/\oQ l K S P F V)fromλ⟨_,K',_,_,e,_,_,h⟩=>hk ⟨aM h.1,aM h.2.1⟩);refine cK (cu9 ae) λy1 m=>?_;have Ha:=ah bX m;have rT:=Zd.H m;have f1:=DD E ae m;clear Zd D E m xP xV r0 j0 bX s0 s1;have r0:=id rT;exact sdE}}
def TX(w:G)(b:Nat)(st rs i:List dV):Prop:=BX w b st/\BX w (b+1+1) rs/\RX w (b+1+1+1) i
theorem TX.T{T:List TypeId}{st rs rp:List dV}(h:TX w b st rs rp)(hf:Fr T w w')(ht:34∉T/\43∉T:=by decide):TX w' b st rs rp:=⟨h.1.T hf ht.1,h.2.1.T hf ht.1,h.2.2.T hf ht.2⟩
theorem TX.fin{st:List dV}{o0 o1 o2 o3 o4 o5 p0 R p2 N M E D y:dV}(h:TX w b st [o0,o1,o2,o3,o4,o5] [p0,R,p2,N,M,E,D,y])(v0 v1 v2 v3 v4 v5 u s r q o m j i:dV):Fr [34,43] w (oR (fv w (b+1+1) v0 v1 v2 v3 v4 v5) (b+1+1+1) u s r q o m j i)/\Below b w (oR (fv w (b+1+1) v0 v1 v2 v3 v4 v5) (b+1+1+1) u s r q o m j i):=by
 have x:Fr [34] w (fv w (b+1+1) v0 v1 v2 v3 v4 v5):=by obtain⟨-,cur,ht⟩:=h.2.1;exact vu ht
 have S:=((h.2.2.T x).put u s r q o m j i).2;exact⟨(x.sub ai).Z (S.sub ai),((sY _ _ _ _ _ _ _).h ae).Z ((uV).h ae)⟩
theorem TX.put{s0 s1 s2 o m j:dV}(h:TX w b [s0,s1,s2,o,m,j] rs rp)(v0 v1 v2 v3 v4 v5:dV):TX (fv w b v0 v1 v2 v3 v4 v5) b [v0,v1,v2,v3,v4,v5] rs rp/\Fr [34] w (fv w b v0 v1 v2 v3 v4 v5)/\Below b w (fv w b v0 v1 v2 v3 v4 v5):=by
 have i:Fr [34] w (fv w b v0 v1 v2 v3 v4 v5):=by obtain⟨-,cur,ht⟩:=h.1;exact vu ht
 exact⟨⟨h.1.put _ _ _ _ _ _,h.2.1.nS ae _ _ _ _ _ _,h.2.2.T i⟩,i,sY _ _ _ _ _ _ _⟩
theorem QR.low{w1 j i:G}{R:RP}(h:QR B w1 j r D R)(hF:Fr [114,65,69] w w1)(M:Below B w w1)(f:Fr [34,43] j i)(b:Below (U (Q w)) j i)(m:B<=U (Q w)):QR B w i r D R:=by
 obtain⟨p,c,q,d,W,V,Ev,S,e,y,E,x,s,u,o,N⟩:=h;exact⟨p,c,q,d,W,V,Ev,S,e,y.T f,di.T E f,x.T f,TN.T s f aX,oO.T u f,(hF.Z o).low b,(M.Z N).Z (b.h m)⟩
variable {iG:Int}
theorem dw8{t:Int}(en:Le ss n)(em:Le ns m)(hk:O (ns[k]?=nd))(eV:Le V nv)(hS:O (ew B w (.S p n c) ss Qs))(hN:O (kF B w (.S q m d) ns))(hV:O (Rd w (.S pq nv cv) V))(hB:B<=U (Q w))(hn:Mg n)(hm:Mg m)(Cf:O (NBo nd))(hvl:O (J nd.V<=2^20))(hv:nv<=2^20)(QT:O (PPB ns))(hg:0<=g/\g<=2^62)(hex:O (nd.M=1->nd.y≠[])){R:SD×RP}(hj:O (K=5\/K=7\/K=8\/K=9))(eR:O (Db ⟨e,g,x,t,ss,ns⟩ k K S F V=R)):dQ dG 115 #[bS e g x t (.S p n c) (.S q m d),.I k,rD K S (.S pp np cp) F (.S pq nv cv) E iG] w λr w'=>QR B w w' r R.1 R.2:=by
 obtain⟨gn,Pv,Vv,Hv,Uv,rfl,-,-,c0,c1,c2,c3,c4,c5,c6,c7,tP,tV,tH,tU,-⟩:=di.at hN hk;have hkm:k<m:=by rw[<-aa em];exact(bu.1 hk).1
 have be5:=bR k m;obtain⟨pP,cP,rfl⟩:=tP.fO;obtain⟨pV,cV,rfl⟩:=tV.fO;obtain⟨pH,cH,rfl⟩:=tH.fO;obtain⟨pU,cU,rfl⟩:=tU.fO;let⟨nP,eP⟩:=bL (J nd.A);let⟨nV,eW⟩:=bL (J nd.V);let⟨nU,eU⟩:=bL (J nd.X);let⟨nh,eH⟩:=bL (J nd.y);let⟨ao,ay,aE⟩:=aa Cf;have cG:=aa hvl;rw[aa eP]at c0 tP ao;rw[aa eW]at c1 tV cG;rw[aa eH]at c4 tH aE;rw[aa eU]at c7 tU ay;have Ez:gn<U (Q w):=(hN.lt gn rfl).2;have xu:=(hN.lt gn rfl).1;let⟨W0,bG,b0,z0,C0⟩:=sQ w (.U e) (.U g) (.U x) (.I t) (.S p n c) (.T gn m d);obtain⟨W1,fo,b1,z1,C1,-⟩:=bM W0 #[.I K,.U S,.S pp np cp,.I F,.S pq nv cv,.U E,.U iG] 26;let⟨W2,fM,b2,z2,C2⟩:=yY W1;let⟨W3,kJ,b3,z3,C3⟩:=DO W2 (.I 0) (.U 0) (.U 0) (.U 0) (.I 0) aV aV aV;let⟨W4,hW4,b4,z4,C4,T4⟩:=bM W3 #[.S pP nP cP,.S pV nV cV,.U nd.D,.I nd.M,.S pH nh cH,.U nd.P,.U nd.F,.S pU nU cU] 69;rw[z0]at C1 z1;rw[z1]at C2 z2;rw[z2]at C3 z3;rw[z3]at C4 T4 z4;have NT4:=af T4;have LQ:LB W4 (U (Q w)) _ _ _ _ _:=⟨(((C0.H b1).H b2).H b3).H b4,((C1.H ae b2).H ae b3).H ae b4,(C2.H b3).H b4,C3.H b4,C4⟩;have bW:=ah (ah (ah (ah b0 b1) b2) b3) b4;have W:=af (λ(v:G)(hv:Bw W4 v)=>aD (LB.W LQ (λj h1 h2=>hv.block j ae)) (aD (hS.T (bH (ah bW hv))) (aD (di.T hN (bH (ah bW hv))) (aD (aD (tP.T (bH (ah bW hv))) (aD (tV.T (bH (ah bW hv))) (aD (tH.T (bH (ah bW hv))) (tU.T (bH (ah bW hv)))))) (aD (hV.H (ah bW hv)) (ah bW hv))))));have aW:=λ(o1 o2 o3 o4:Obj)=>((((aR (U (Q w)) w).alloc az o1).alloc ai o2).alloc cg o3).alloc cg o4;have m0:=λ(o1 o2 o3 o4:Obj)=>aj c0 (aW o1 o2 o3 o4);have m1:=λ(o1 o2 o3 o4:Obj)=>aj c1 (aW o1 o2 o3 o4);have m2:=λ(o1 o2 o3 o4:Obj)=>aj c2 (aW o1 o2 o3 o4);have m3:=λ(o1 o2 o3 o4:Obj)=>aj c3 (aW o1 o2 o3 o4);have m4:=λ(o1 o2 o3 o4:Obj)=>aj c4 (aW o1 o2 o3 o4);have m5:=λ(o1 o2 o3 o4:Obj)=>aj c5 (aW o1 o2 o3 o4);have m6:=λ(o1 o2 o3 o4:Obj)=>aj c6 (aW o1 o2 o3 o4);have m7:=λ(o1 o2 o3 o4:Obj)=>aj c7 (aW o1 o2 o3 o4);clear b0 b1 b2 b3 b4 C0 C1 C2 C3 C4 T4 c0 c1 c2 c3 c4 c5 c6 c7 tP tV tH tU aW LQ bW;have hR:=aa eR;unfold Db at hR;simp only[aa hk]at hR;have HR:=af hR;clear hR;go_in
 go_upto_if 16 with fail
 rw[<-bG,<-fo,<-fM,<-kJ,<-hW4];clear bG fo fM kJ hW4 m0 m1 m2 m3 m4 m5 m6 m7;have BR:=af (aR (U (Q W4)) W4);obtain⟨L4,-,-,-,-,-⟩:=aa W W4 BR;let⟨o0,o1,o2,o3,o4,o5,o6⟩:=Hg L4.2.1.1;have n0:=L4.2.2.2.2.1 0 _ rfl;have n4:=L4.2.2.2.2.1 4 _ rfl;let⟨k0,k1,k2,k3,k4,k5,kf⟩:=L4.1.cells;clear L4;by_cases Cl:K=5;{
 have bj9:(K==5):=by simp[Cl]
 have y:=aa HR;rw[aK Cl]at y;have E8:=af y;clear y HR Cl;let⟨L,eL⟩:=bL (tS ns nd.A);let⟨nl,gM⟩:=bL (J L)
 go_wp21
 obtain⟨-,-,N4,T4,-,-⟩:=aa W W4 BR;refine(ex0 em eP N4 T4.1.1 (aa QT nd (bq (aa hk))).2.1 QT hm eL).h ?_;rintro r w1⟨p1,c1,rfl,-,ao⟩;have B1:=af ao;rw[aa gM];clear N4 T4 ao o0 o1 o2 o3 o4 o5 o6 n0 n4 k0 k1 k2 k3 k4 k5 kf;have y:=aa E8;by_cases qL:nl=0;{
 have hL0:L=[]:=vI.1 (gM.Z qL);rw[aa eL,hL0,aJ ai]at y;have E7:=af y;have dQ4:¬(0:Int)<(nl:Int):=ae;clear y E8 qL;obtain⟨L1,-,-,T1,-,-⟩:=aa W w1 B1;have o1:=L1.2.1.1 1 _ rfl;let⟨n0,n1,n2,n3,n4,n5,n6,n7⟩:=Sk L1.2.2.2.2.1;have HU:=af T1.2.2.1.1;clear L1 T1
 go_wp21
 refine cK (ed3 (P:=.S pP nP cP) (V:=.S pV nV cV) (H:=.S pH nh cH) (iU:=.S pU nU cU) eH HU rfl rfl rfl) λw2 ay=>?_;have B2:=af (ah B1 ay);let⟨fb,efb⟩:=bL (xZ nd S);have y:=aa E7;rw[aa efb]at y⊢;clear ay B1 o1 n0 n1 n2 n3 n4 n5 n6 n7 E7;cases fb;{
 rw[aK rfl]at y;have E9:=af y;clear y
 go_wp21
 obtain⟨LW,SW,NW,-,-,BW⟩:=aa W w2 B2;exact rq 3 6 7 30 31 9 results115 LW.1 LW.2.2.1 LW.2.2.2.1 en em SW NW (Fr.H BW) (BW.h hB) hB E9};{
 rw[aJ ai]at y;have E9:=af y;clear y;obtain⟨L2,S2,N2,-,-,RH⟩:=aa W w2 B2;have To:=RH.size;have TX2:=af (show TX w2 (U (Q w)) _ _ _ from⟨L2.1,L2.2.2.1,L2.2.2.2.1⟩);let⟨k0,k1,k2,k3,k4,k5,kf⟩:=L2.1.cells;have mL:=af RH;have lD:=af S2;have qi:=af N2;clear L2 S2 N2 RH
 go_wp21
 refine(ah1 e g x t en 2 nd hk B w2 lD qi ae hn hm (by rw[aa eP];exact ao) (by rw[aa eU];exact ay)).h ?_;rintro r w3⟨rfl,⟨Q3,Ck⟩,sO,tY,DC⟩;have TX3:=af (TX.T TX2 tY aX);let⟨TXp,fp,bp⟩:=TX.put TX3 (.U e) (.U g) (.U x) (.I t) (.S p n c) (.T gn m d);let⟨X,hX⟩:=aF (fv w3 (U (Q w)) (.U e) (.U g) (.U x) (.I t) (.S p n c) (.T gn m d));rw[<-hX]at TXp fp bp;have zX:=bp.size;have zf:=tY.1;have HX:=nF TXp (Ck.T fp) (di.T sO fp) (Fr.low ((Fr.H mL).Z tY) bp) (((mL.h hB).Z DC).Z (bp.h hB));have s0:=TX3.1.cells;have y0:=TXp.1.cells;unfold fv at hX;clear TXp fp bp Ck sO tY DC TX2 lD qi mL k0 k1 k2 k3 k4 k5 kf
 go_wp21
 rw[<-hX];clear hX s0 y0 TX3;refine(bS3 (af (by rw[rF];exact aa em)) HX.2.2.1 hm).h ?_;rintro r w4⟨p4,c4,rfl,QW,YW⟩;obtain⟨M,eM⟩:∃M,M=jX (ns.set k {nd with X:=[]}) k:=⟨_,rfl⟩;let⟨N,eN⟩:=bL (J M);rw[<-eM,aa eN]at QW⊢;have D:=af (TX.T HX.1 (bH YW) aX);let⟨k0,k1,k2,k3,k4,k5,kf⟩:=D.1.cells;let⟨q0,q1,q2,q3,q4,q5,qf⟩:=D.2.1.cells;let⟨r0,r1,r2,r3,r4,r5,r6,r7,rf⟩:=D.2.2.cells;have HZ:=jq (HX.2.1.T (bH YW)) (RT.h QW ae:kF B w4 (.S p4 N c4) M) (HX.2.2.2.1.Z (Fr.H YW)) (HX.2.2.2.2.Z (YW.h ae));have HE:=af eM;clear QW YW HX eM;go_wp2;let⟨fF,bF⟩:=TX.fin D (.U e) (.U g) (.U x) (.I t) (.S p n c) (.S p4 N c4) (.I 0) (.U 0) (.U 0) (.U 0) (.I 0) aV aV aV;refine bO (v:=dT #[bS e g x t (.S p n c) (.S p4 N c4),mB 0 0 0 0 0 aV aV aV]) (by simp[results,results115,go_sem,k0,k1,k2,k3,k4,k5,q0,q1,q2,q3,q4,q5,r0,r1,r2,r3,r4,r5,r6,r7]) rfl ?_;rw[<-aa E9,aJ6 (aa hk)];have hQ:=QR.num (e:=e) (g:=g) (x:=x) (t:=t) ((WG _ _ _).Z en) eN HZ.1 HZ.2.1 HZ.2.2.1 HZ.2.2.2 fF bF hB 0 0 0 0 0;rw[aa HE]at hQ;exact hQ}};{
 have hL0:¬L=[]:=λh=>qL (by rw[<-aa gM,h];rfl);rw[aa eL,aK hL0]at y;have E9:=af y;have dQ4:=rr 0 nl;clear y E8 qL
 go_wp21
 obtain⟨LW,SW,NW,-,-,BW⟩:=aa W w1 B1;exact rq 3 6 7 23 24 8 results115 LW.1 LW.2.2.1 LW.2.2.2.1 en em SW NW (Fr.H BW) (BW.h hB) hB E9}};{
 by_cases GC:K=6;{have h9:=aa hj;omega};{
 by_cases Gz:K=7;{
 skip
 have bj9:(K==5)=dF:=by simp[Cl]
 have cr2:(K==6)=dF:=by simp[GC]
 have cr1:(K==7):=by simp[Gz]
 have y:=aa HR;rw[aJ Cl,aJ GC,aK Gz]at y;have E8:=af y;clear y HR Cl GC Gz;obtain⟨T,eT⟩:∃T,O ((dD (nd.M=1)&&!(nd.y.headD 0==S))=T):=⟨_,rfl⟩
 go_wp21
 clear o0 o1 o2 o3 o4 o5 o6 n0 n4 k0 k1 k2 k3 k4 k5 kf
 go_cut[69](λrv wc=>rv=jO T/\O (Bw W4 wc))
 case first=>(
 let⟨vA,de⟩:=aF W4.drew;have cQ:=mW de;have BA:=af cQ;obtain⟨L1,-,-,T1,-,-⟩:=aa W vA cQ;have N3:=dy (L1.2.2.2.2.1 3 _ rfl) (L1.2.2.2.2.1 4 _ rfl) (L1.2.1.1 1 _ rfl);have TH:=af T1.2.2.1.1;clear L1 T1;refine Xv ?_;by_cases sI:nd.M=1;{
 have be0:(nd.M==1):=by simp[sI]
 let⟨hd,tl,ehd⟩:=dy9 (aa hex sI);have hT:(!(hd==S))=T:=by rw[<-aa eT,ehd];simp[sI]
 let⟨bh,oh,ebh,ch⟩:=TH.at (k:=0) (x:=hd) (by rw[ehd];rfl);have hnh:0<nh:=by rw[<-aa eH,ehd];simp
 have fi5:=rr 0 nh;rw[Mt]at ch;subst ebh;refine am9 (S:=λw'=>I w' (Ad (U (Q w)+1+1+1+1) 3)=dI nd.M/\I w' (Ad (U (Q w)+1+1+1+1) 4)=dS (Ad bh oh) nh cH/\I w' (Ax w 1)=dU S/\I w' (Ad bh oh)=dU hd) aU (by rw[<-de];exact⟨N3.1,N3.2.1,N3.2.2,ch⟩) (λhS=>?_);rw[<-de]at hS⊢;clear de cQ ch ehd sI;by_cases hx:hd=S;{
 have Av:(hd != S)=dF:=by simp[hx]
 obtain rfl:T=dF:=by rw[<-hT];simp[hx]
 clear hT hx;refine jh 0 1 2 3 4 5 6 7 hS ?_;refine iL 8 9 10 11 hS ?_;refine ga ?_;clear hS
 go_wp21
 go_meet;exact⟨rfl,BA⟩};{
 have Av:(hd != S):=by simp[hx]
 obtain rfl:T:=by rw[<-hT];simp[hx]
 clear hT hx;refine jh 0 1 2 3 4 5 6 7 hS ?_;refine iL 8 9 10 11 hS ?_;refine ga ?_;clear hS
 go_wp21
 go_meet;exact⟨rfl,BA⟩}};{
 have be0:(nd.M==1)=dF:=by simp[sI]
 obtain rfl:T=dF:=by rw[<-aa eT];simp[sI]
 refine am9 (S:=λw'=>I w' (Ad (U (Q w)+1+1+1+1) 3)=dI nd.M) aU (by rw[<-de];exact N3.1) (λhS=>?_);rw[<-de]at hS⊢;clear de cQ sI;refine iL 0 1 2 3 hS ?_;refine lT 4 5 6 7 hS ?_;refine sn 8 hS ?_;refine sn 9 hS ?_;refine sn 10 hS ?_;refine tn 11 hS ?_;refine ga ?_;clear hS
 go_wp21
 go_meet;exact⟨rfl,BA⟩})
 case rest=>(
 obtain⟨w1,rfl⟩:=aF wc;obtain⟨rfl,B1⟩:=hcut;have y:=aa E8;have L8:=B1.size;cases T;{
 rw[aJ (λh=>by have h3:=aa eT;rw[Df h.1,xm]at h3;exact h.2 (eq_of_beq (by cases hh:(nd.y.headD 0==S)with|true=>rfl|false=>rw[hh]at h3;cases h3)))]at y;have E9:=af y;clear y E8
 go_wp21
 let⟨vA,de⟩:=aF w1.drew;have cQ:Bw W4 vA:=ah (aa B1) (by rw[de];exact aH.drew);have BA:=af cQ;have SA:=af (λ(v:G)(hL:LB v (U (Q w)) [.U e,.U g,.U x,.I t,.S p n c,.T gn m d] [.I K,.U S,.S pp np cp,.I F,.S pq nv cv,.U E,.U iG] [.U 0,.U 0,.U 0,.I 0,aq,aq] [.I 0,.U 0,.U 0,.U 0,.I 0,aV,aV,aV] [.S pP nP cP,.S pV nV cV,.U nd.D,.I nd.M,.S pH nh cH,.U nd.P,.U nd.F,.S pU nU cU])=>aD (hL.1.1.1 5 _ rfl) (hL.2.1.1 4 _ rfl));refine fK (λw'=>I w' (Aw w 5)=dK gn m d/\I w' (Ax w 4)=dS pq nv cv) (by rw[<-de];exact aa SA vA (aa W vA cQ).1) λhS=>?_;rw[<-de]at hS⊢;clear de cQ;refine iL 0 1 2 3 hS ?_;refine tn 4 hS ?_;refine ft 5 λKK hK=>?_;refine js (Dp eV (aa W vA BA).2.2.2.2.1 ae) ?_;rintro r v1⟨pa,ca,rfl,oa,me⟩;refine⟨_,rfl,?_⟩;have B2:=af (ah BA me);have OA:=af (oa.tc (B:=B) (aM BA.size));have To:=B2.size;refine bQ hK (by exact SA v1 (aa W v1 B2).1) λhS=>?_;clear hK KK me oa;refine gh 6 7 hS ?_;refine ft 8 λKK hK=>?_;obtain⟨LV,SV,NV,-,-,bV⟩:=aa W v1 B2;obtain⟨Vl,P',V',H',U',eg,-,-,-,d1,-,-,-,-,-,-,-,-,-,-,Jn⟩:=di.at NV hk;obtain⟨rfl,-⟩:=By eg;have Rj:=Jn (k*8+1);have SI:=jq LV SV NV bV;clear NV LV SV bV Jn;go_simp;let⟨N4,F4⟩:=di.put SI.2.2.1 hk (j:=1) ae (.S pa nv ca) {nd with V:=V} (λw' P V H iU h1 h2 h3 h4 hf=>⟨P,.S pa nv ca,H,iU,rfl,h1,OA.T hf,h3,h4⟩);let⟨Z,hZ⟩:=aF (jS v1 (Ad gn (k*8+1)) (.S pa nv ca));have LZ:=LB.W (w'':=Z) SI.1 (λj h1 h2=>by rw[hZ];exact fN _ _ _ _ (by show j≠gn;omega));have BZ:Below B w Z:=by rw[hZ];exact(SI.2.2.2.h hB).setCell (p:=(Ad gn _)) xu _
 rw[<-hZ]at N4 F4⊢;have zZ:=F4.1;have HZ:=nF (show TX Z (U (Q w)) _ _ _ from⟨LZ.1,LZ.2.2.1,LZ.2.2.2.1⟩) (SI.2.1.T F4) N4 ((Fr.H (T:=[114,65,69]) SI.2.2.2).Z (F4.sub ai)) BZ;refine bQ hK (by exact SA Z LZ) λhS=>?_;clear hK KK hZ N4 F4 LZ BZ d1 Rj SI;refine ga ?_;clear hS SA;let⟨k0,k1,k2,k3,k4,k5,kf⟩:=HZ.1.1.cells;have IW:=af (uM hk {nd with V:=V})
 go_wp21
 refine(ah1 e g x t (p:=p) (c:=c) (q:=Y (Ad gn 0)) (m:=m) (d:=d) (Qs:=Qs) (ns:=ns.set k {nd with V:=V}) en (k:=k) 1 {nd with V:=V} IW B Z HZ.2.1 HZ.2.2.1 ae hn hm (by show J nd.A<=_;rw[aa eP];exact ao) (by show J nd.X<=_;rw[aa eU];exact ay)).h ?_;rintro r w3⟨rfl,⟨Q3,Ck⟩,sO,tY,DC⟩;have D:=af (TX.T HZ.1 tY aX);clear k0 k1 k2 k3 k4 k5 kf;let⟨k0,k1,k2,k3,k4,k5,kf⟩:=D.1.cells;let⟨q0,q1,q2,q3,q4,q5,qf⟩:=D.2.1.cells;let⟨r0,r1,r2,r3,r4,r5,r6,r7,rf⟩:=D.2.2.cells;have HY:=jq Ck sO (HZ.2.2.2.1.Z tY) (HZ.2.2.2.2.Z DC);clear Ck sO tY DC;go_wp2;let⟨fF,bF⟩:=TX.fin D (.U e) (.U g) (.U x) (.I t) (.S p n c) (.T gn m d) (.I 0) (.U 0) (.U 0) (.U 0) (.I 0) aV aV aV;refine bO (v:=dT #[bS e g x t (.S p n c) (.T gn m d),mB 0 0 0 0 0 aV aV aV]) (by simp[results,results115,go_sem,q0,q1,q2,q3,q4,q5,r0,r1,r2,r3,r4,r5,r6,r7]) rfl ?_;rw[<-aa E9,aJ6 (aa IW)];exact QR.num (e:=e) (g:=g) (x:=x) (t:=t) ((WG _ _ _).Z en) (af (by rw[rF,rF];exact aa em)) HY.1 HY.2.1 HY.2.2.1 HY.2.2.2 fF bF hB 0 0 0 0 0};{
 rw[aK (by have h3:=aa eT;obtain⟨ha,hb⟩:=Bool.and_eq_true_iff.1 h3;exact⟨XC ha,λhc=>by rw[hc]at hb;simp at hb⟩)]at y;have E9:=af y;clear y E8
 go_wp21
 obtain⟨LW,SW,NW,-,-,BW⟩:=aa W w1 B1;exact rq 3 6 7 70 71 9 results115 LW.1 LW.2.2.1 LW.2.2.2.1 en em SW NW (Fr.H BW) (BW.h hB) hB E9})}
 {
 by_cases Vh:K=8;{
 skip
 have bj9:(K==5)=dF:=by simp[Cl]
 have cr2:(K==6)=dF:=by simp[GC]
 have cr1:(K==7)=dF:=by simp[Gz]
 have dZ6:(K==8):=by simp[Vh]
 have y:=aa HR;rw[aJ Cl,aJ GC,aJ Gz,aK Vh]at y;have E8:=af y;clear y HR Cl GC Gz Vh
 go_wp21
 clear o0 o1 o2 o3 o4 o5 o6 n0 n4 k0 k1 k2 k3 k4 k5 kf;obtain⟨L4,S4,N4,-,-,VG⟩:=aa W W4 BR;have z4':=VG.size;refine(dz9 en em hk S4 N4 ae hm (by rw[aa eH];exact aE) hg E8).h ?_;rintro r w2⟨p',c',q',d',Dv,Nv,Ev,tJ,rfl,rR,px,tD,tN,tE,hF,ir⟩;have D:=af (TX.T (show TX W4 (U (Q w)) _ _ _ from⟨L4.1,L4.2.2.1,L4.2.2.2.1⟩) hF aX);have HQ:=af (show QR B W4 w2 _ R.1 R.2 from⟨p',c',q',d',Dv,Nv,Ev,tJ,rfl,rR,px,tD,tN,tE,hF,ir⟩);obtain⟨dp,dc,rfl⟩:=tD.fO;obtain⟨xp,xc,rfl,-⟩:=RT.form tN;obtain⟨yp,yc,rfl,-⟩:=RT.form tE;have BW:=af VG;clear L4 S4 N4 VG rR px tD tN tE hF ir;let⟨k0,k1,k2,k3,k4,k5,kf⟩:=D.1.cells;let⟨q0,q1,q2,q3,q4,q5,qf⟩:=D.2.1.cells;let⟨r0,r1,r2,r3,r4,r5,r6,r7,rf⟩:=D.2.2.cells;go_wp2;let⟨fF,bF⟩:=TX.fin D (.U R.1.e) (.U R.1.g) (.U R.1.x) (.I R.1.t) (.S p' (J R.1.E) c') (.S q' (J R.1.N) d') (.I R.2.k) (.U R.2.i) (.U R.2.e) (.U R.2.g) (.I R.2.n) (.S dp (J R.2.qB) dc) (.S xp (J R.2.nms) xc) (.S yp (J R.2.pG) yc);refine bO (v:=dT #[bS R.1.e R.1.g R.1.x R.1.t (.S p' (J R.1.E) c') (.S q' (J R.1.N) d'),mB R.2.k R.2.i R.2.e R.2.g R.2.n (.S dp (J R.2.qB) dc) (.S xp (J R.2.nms) xc) (.S yp (J R.2.pG) yc)]) (by simp[results,results115,go_sem,q0,q1,q2,q3,q4,q5,r0,r1,r2,r3,r4,r5,r6,r7]) rfl ?_;exact QR.low HQ (Fr.H BW) (BW.h hB) fF bF hB};{
 by_cases hK9:K=9;{
 skip
 have bj9:(K==5)=dF:=by simp[Cl]
 have cr2:(K==6)=dF:=by simp[GC]
 have cr1:(K==7)=dF:=by simp[Gz]
 have dZ6:(K==8)=dF:=by simp[Vh]
 have fn8:(K==9):=by simp[hK9]
 have y:=aa HR;rw[aJ Cl,aJ GC,aJ Gz,aJ Vh,aK hK9]at y;have E8:=af y;clear y HR Cl GC Gz Vh hK9;let⟨bo,DB⟩:=bL (nd.y.contains S)
 go_wp21
 clear o0 o1 o2 o3 o4 o5 o6 n0 n4 k0 k1 k2 k3 k4 k5 kf;refine cK (aY0 eH (aa W W4 BR).2.2.2.1.2.2.1.1 aE DB) λw1 bh6=>?_;have B1:=af bh6;have L8:=bh6.size;clear bh6;have y:=aa E8;rw[aa DB]at y;cases bo;{
 rw[aJ ai]at y;have E9:=af y;clear y E8
 go_wp21
 obtain⟨LW,SW,NW,-,-,BW⟩:=aa W w1 B1;exact rq 3 6 7 102 103 10 results115 LW.1 LW.2.2.1 LW.2.2.2.1 en em SW NW (Fr.H BW) (BW.h hB) hB E9};{
 rw[aK rfl]at y;have E9:=af y;clear y E8;obtain⟨L1,S1,N1,-,-,Hb⟩:=aa W w1 B1;let⟨k0,k1,k2,k3,k4,k5,kf⟩:=L1.1.cells;have o1:=L1.2.1.1 1 _ rfl;have TX1:=af (show TX w1 (U (Q w)) _ _ _ from⟨L1.1,L1.2.2.1,L1.2.2.2.1⟩);have H1:=dy S1 N1 Hb;have zb1:=Hb.size;clear L1 S1 N1 Hb
 go_wp21
 refine(cC3 en hk H1.1 H1.2.1 ae hn hm (by rw[aa eP];exact ao) (by rw[aa eU];exact ay) (by rw[aa eH];exact aE)).h ?_;rintro r w3⟨rfl,⟨Q3,Ck⟩,sO,tY,DC⟩;obtain⟨uR,J6,gS,eD,ZH,Vr,-,-,-⟩:=cC5 (e:=e) (g:=g) (x:=x) (t:=t) (ss:=ss) hk S;rw[eD]at Ck sO;have D:=af (TX.T TX1 tY aX);clear k0 k1 k2 k3 k4 k5 kf o1;let⟨k0,k1,k2,k3,k4,k5,kf⟩:=D.1.cells;let⟨q0,q1,q2,q3,q4,q5,qf⟩:=D.2.1.cells;let⟨r0,r1,r2,r3,r4,r5,r6,r7,rf⟩:=D.2.2.cells;have HY:=jq Ck sO ((Fr.H H1.2.2).Z tY) ((H1.2.2.h hB).Z DC);have HE:=dy eD ZH Vr;clear Ck sO tY DC eD ZH Vr;go_wp2;let⟨fF,bF⟩:=TX.fin D (.U e) (.U g) (.U x) (.I t) (.S p n c) (.T gn m d) (.I 0) (.U 0) (.U 0) (.U 0) (.I 0) aV aV aV;refine bO (v:=dT #[bS e g x t (.S p n c) (.T gn m d),mB 0 0 0 0 0 aV aV aV]) (by simp[results,results115,go_sem,q0,q1,q2,q3,q4,q5,r0,r1,r2,r3,r4,r5,r6,r7]) rfl ?_;rw[<-aa E9,HE.1];exact QR.num (e:=e) (g:=g) (x:=x) (t:=t) (HE.2.1.Z en) (HE.2.2.Z em) HY.1 HY.2.1 HY.2.2.1 HY.2.2.2 fF bF hB 0 0 0 0 0}};{have h9:=aa hj;omega}}}}}
def Cq(K S F:Int)(i nv:Nat)(E iG:Int):Bool:=if 1<=K/\K<=13 then oF (jN K) S F i nv E iG else dF
def Et(K:Int):Bool:=!(K==1)&&(!(K==6)&&!(K==13))
def ce8(D:SD)(i:Nat):SD×RP:=match D.E[i]? with
 |none=>(D,ka)
 |some s=>if s.2.1<D.t+10 then({D with E:=D.E.set i (s.1,D.t+10,s.2.2)},{ka with n:=D.t+10})else(D,{ka with n:=s.2.1})
def bU6(D:SD)(i:Nat):SD×RP:=match D.E[i]? with
 |none=>(D,ka)
 |some s=>({D with E:=D.E.set i (s.1,s.2.1,[])},{ka with pG:=s.2.2})
def yC(ns:List au)(P:LI):Int:=match ns.findIdx? (λj=>dD (j.A=P))with
 |some i=>i
 |none=>-1
def Aj(K:Int)(P:LI):Bool:=dD (K=13)&&dD (P=[47])
def CM(D:SD)(K S F E iG:Int)(P V:LI):SD×RP:=
 if(!Aj K P&&!vp P)then(D,kP 4)
 else if K=4 then DL D P V S F
 else if K=10 then(D,{ka with n:=ex3 D.N P S E iG})
 else if(!Aj K P&&dD (yC D.N P<0))then(D,kP 5)
 else if K=13 then(D,{ka with nms:=tS D.N P})
 else Db D (jN (yC D.N P)) K S F V
def lM(D:SD)(K S F E iG:Int)(P V:LI):SD×RP:=
 if Cq K S F (J P) (J V) E iG=dF then(D,kP 2)
 else if K=1 then xJ D
 else if(Et K&&dD (mZ D.E S<0))then(D,kP 3)
 else if K=2 then ce8 D (jN (mZ D.E S))
 else if K=3 then(xz D S,ka)
 else if K=12 then bU6 D (jN (mZ D.E S))
 else CM D K S F E iG P V
def PD(ns:List au):Prop:=∀(i j:Nat)(a b:au),ns[i]?=a->ns[j]?=b->a.A=b.A->i=j
structure WF(D:SD):Prop where
 g:0<=D.g/\D.g<=2^62
 x:0<=D.x/\D.x<=2^62
 t:0<=D.t/\D.t<=1000000
 nb:NB D.N
 pb:PPB D.N
 vl:∀nd∈D.N,J nd.V<=2^20
 ex:∀nd∈D.N,nd.M=1->nd.y≠[]
 pd:PD D.N
theorem ed8{B:Bool}(i:O (Cq K S F np nv E iG=B)):Cp 70 #[rD K S (.S pp np cp) F (.S pq nv cv) E iG] w (Rb (jO B) w):=by
 by_cases h:1<=K/\K<=13;{obtain⟨k,rfl⟩:∃k:Nat,K=(k:Int):=⟨jN K,ae⟩;have e:=aa i;rw[Cq,aK h,sC]at e;exact cv0 ae ae (af e)};{have e:=aa i;rw[Cq,aJ h]at e;subst e;exact cu9 ae}
theorem dM6:dQ dG 108 #[.I K] w λr w'=>r=dR (jO (Et K))/\w'=w:=by
 by_cases j:K=1;{subst j;go_in;go_wp2;go_ret;exact⟨rfl,rfl⟩};{
 by_cases i:K=6;{subst i;go_in;go_wp2;go_ret;exact⟨rfl,rfl⟩};{
 by_cases m:K=13;{subst m;go_in;go_wp2;go_ret;exact⟨rfl,rfl⟩};{
 have e:Et K:=by simp[Et,j,i,m]
 rw[e];have s:(K != 1):=by simp[j]
 have q:(K != 6):=by simp[i]
 have o:(K != 13):=by simp[m]
 go_in;go_wp2;go_ret;exact⟨rfl,rfl⟩}}}
theorem dy5(j:PD ns)(h:ns[k]?=Y nd)(m:kU ns P=Y nd):yC ns P=k:=by
 have e:nd.A=P:=by have:=XD m;simpa using this
 have:ns.findIdx? (λnd=>dD (nd.A=P))=k:=by
  rw[Mu];let⟨q,o⟩:=bu.1 h;refine⟨q,by rw[o];simp[e],λi s hc=>?_⟩;have r:ns[i].A=P:=by simpa using hc
  have:=j i k _ _ (bN ae) h (r.Z e.C);omega
 rw[yC,this]
theorem bY8(m:kU ns P=dN):yC ns P=-1:=by
 have:ns.findIdx? (λi=>dD (i.A=P))=dN:=by rw[an5];intro x j;have:=Um.1 m x j;simpa using this
 rw[yC,this]
theorem dy6(h:¬yC ns P<0):∃(k:Nat)(nd:au),yC ns P=k/\ns[k]?=Y nd:=by
 unfold yC at h⊢;cases hf:ns.findIdx? (λnd=>dD (nd.A=P))with
 |none=>rw[hf]at h;simp at h
 |some k=>
  obtain⟨i,-⟩:=Mu.1 hf;exact⟨k,_,rfl,bN i⟩
theorem dj4(h:¬mZ ss S<0):∃(k:Nat)(s:aC),mZ ss S=k/\ss[k]?=Y s:=by
 unfold mZ at h⊢;cases hf:ss.findIdx? (λs=>s.1==S)with
 |none=>rw[hf]at h;simp at h
 |some k=>
  obtain⟨i,-⟩:=Mu.1 hf;exact⟨k,_,rfl,bN i⟩
theorem dx1{t:Int}{S:dV}(y:Le ns n)(B:Le l m)(h:iy w (.S p n c) ns)(hl:Rd w (.S q m d) l)(s:Mg n)(hm:m<=2^21)(D:O (aA l/\∀nd∈ns,aA nd.A))(o:PD ns):Cp 113 #[bS e g x t S (.S p n c),.S q m d] w (Rb (.I (yC ns l)) w):=by
 refine(aX9 y B h hl s hm D).h ?_;rintro r E⟨⟨k,nd,rfl,-,i,u⟩|⟨rfl,i⟩,j⟩;{exact⟨by rw[dy5 o i u],j⟩};{exact⟨by rw[bY8 i],j⟩}
theorem bL4:(kr D k kd).e=D.e/\(kr D k kd).g=D.g/\(kr D k kd).x=D.x/\(kr D k kd).t=D.t:=by
 unfold kr;split<;>exact⟨rfl,rfl,rfl,rfl⟩
theorem eq8{id:Int}:(ko D k id).e=D.e/\(ko D k id).g=D.g/\(ko D k id).x=D.x/\(ko D k id).t=D.t:=by
 unfold ko;split;{exact⟨rfl,rfl,rfl,rfl⟩};{split;{split;{exact bL4};{exact⟨rfl,rfl,rfl,rfl⟩}};{exact⟨rfl,rfl,rfl,rfl⟩}}
theorem bt2(id:Int):∀(f k:Nat)(D:SD),(mw id f k D).e=D.e/\(mw id f k D).g=D.g/\(mw id f k D).x=D.x/\(mw id f k D).t=D.t
 |0,k,D=>by unfold mw;exact⟨rfl,rfl,rfl,rfl⟩
 |f+1,k,D=>by have j:=eq8 (D:=D) (k:=k) (id:=id);unfold mw;split;{exact⟨rfl,rfl,rfl,rfl⟩};{split;{have i:=bt2 id f k (wY (kr (ko D k id) k 2) k);have m:=bL4 (D:=ko D k id) (k:=k) (kd:=2);exact⟨i.1.Z (m.1.Z j.1),i.2.1.Z (m.2.1.Z j.2.1),i.2.2.1.Z (m.2.2.1.Z j.2.2.1),i.2.2.2.Z (m.2.2.2.Z j.2.2.2)⟩};{have i:=bt2 id f (k+1) (ko D k id);exact⟨i.1.Z j.1,i.2.1.Z j.2.1,i.2.2.1.Z j.2.2.1,i.2.2.2.Z j.2.2.2⟩}}
theorem ew1{id:Int}:(xz D id).e=D.e/\(xz D id).g=D.g/\(xz D id).x=D.x/\(xz D id).t=D.t:=bt2 id _ _ _
open Go.Maps
def rZ(k:Int):dV:=if k=0 then .nilIface else .iface 107 (jP #[.I k])
theorem cZ8(i:v=jP #[]):dQ dG 296 #[v,pt] w (Rb (rZ 0) w):=by
 subst i;go_in;go_wp2;go_ret;exact⟨rfl,aH.alloc az _⟩
def JZ(D:SD):Int:=if 50<=J D.E then 11 else if 4611686018427387904<=D.x then 12 else 0
theorem du6{SB NB HB UB:iN}(h:O (PS w0 w b bs bn D SB NB HB UB))(R:O (JZ D=C)):dQ dG 295 #[jP #[],Pz b] w (Rb (rZ C) w):=by
 obtain⟨-,-,N,-,E,-,-⟩:=h.nM;let⟨M,n,o,X,m,u⟩:=h.uy;have W:=λ(j:Obj)=>aj N ((aR (U (Q w)) w).alloc az j);have V:=λ(j:Obj)=>aj E ((aR (U (Q w)) w).alloc az j);have i:=λ(j:Obj)=>(o.alloc j).len underlying132 3;rw[u]at i;have e:=aa R;unfold JZ at e;let⟨r,y⟩:=aZ (J D.E);rw[y]at i e;clear o m u y;by_cases B:50<=r;{have s:=gr 50 r;rw[aK B]at e;subst e;go_in;go_wp2;go_ret;exact⟨rfl,aH.alloc az _⟩};{
 have s:¬(50:Int)<=(r:Int):=ae;rw[aJ B]at e;by_cases q:4611686018427387904<=D.x;{
 have S:dD (4611686018427387904<=D.x):=by simpa using q
 rw[aK q]at e;subst e;go_in;go_wp2;go_ret;exact⟨rfl,aH.alloc az _⟩};{
 have S:dD (4611686018427387904<=D.x)=dF:=by simpa using q
 rw[aJ q]at e;subst e;go_in;go_wp2;go_ret;exact⟨rfl,aH.alloc az _⟩}}
theorem PS.rest{SB NB HB UB:iN}(h:PS w0 w b bs bn D SB NB HB UB)(hb:Below (U (Q w0)) w w')(hk:∀y,y<U (Q w)->y≠z->w'.heap[y]?=w.heap[y]?)(E:∃m,w.heap[z]?=dO cs ty m)(ht:ty∉[65,142,135,5,114]):PS w0 w' b bs bn D SB NB HB UB:=by
 obtain⟨mz,E⟩:=E;simp only[gv,Up,Uw,Iu]at ht;obtain⟨t1,t2,t3,t4,t5⟩:=ht;have hf:Fr [ty] w w':=⟨hb.size,λy cur N m' hn i=>by by_cases e:y=z;{subst e;rw[E]at i;simp at i;exact absurd (by rw[i.2.1];simp) hn};{exact(hk y (vU i) e).Z i}⟩
 have nc:∀{y:Nat}{NI:iA}{N:TypeId},w.heap[y]?=dO NI N->ty≠N->w'.heap[y]?=dO NI N:=λ{y NI N}i UI=>(hk y (gD i) (λe=>by rw[e,E]at i;simp at i;exact UI i.2.1)).Z i
 have Z:∀{k:TypeId}{R:dV->Option (DataW Unit×List MemPlace)}{y n:Nat}{M:DataW Unit},jM w dG k R y n M->jM w' dG k R y n M:=λo=>aP9 o (λes c x=>(hk _ (gD x) (λe=>by rw[e,E]at x;cases x)).Z x)
 have ab:∀{v:dV}{l:LI},AB w0 w v l->AB w0 w' v l:=λq=>q.T hf (by simp;exactλe=>t4 e.C);have sm:∀{y:Nat}{s:LI},SM w y s->SM w' y s:=λ⟨M,n,o,r⟩=>⟨M,n,Z o,r⟩;refine⟨h.be.Z hb,nc h.hd t3,h.vw,?_,λj s1 g1 fh dw=>?_,h.snd,h.xi,h.hlen,h.xE,?_,λj nd gb x uu fh dw h1 h2=>?_,h.FM,h.lo,h.wu⟩;{let⟨M,n,o,r⟩:=h.uy;exact⟨M,n,Z o,r⟩};{let⟨X,u,W,S⟩:=h.vx j s1 g1 fh dw;exact⟨X,u,nc W t1,S.T hb hf (by simp;exact⟨λe=>t4 e.C,λe=>t5 e.C⟩)⟩};{let⟨M,n,o,r⟩:=h.qH;exact⟨M,n,Z o,r⟩};{let⟨X,⟨V,W,S⟩,q3,q4⟩:=h.rE j nd gb x uu fh dw h1 h2;exact⟨X,⟨V,nc W t2,ab S⟩,sm q3,sm q4⟩}
variable {l:List Oper}
theorem Md{id:Nat}{i:iE}(j:Region.lexB .any l.toArray)(h:∀W,W=w.drew->wpStill dG l.toArray W (λm=>i .normal m W) l a):(Code.region id l.toArray dY).wp dG i a w:=wp_region_still_lit (by kernel_rfl) j (h _ rfl)
theorem Aa{id:Nat}{i:iE}(n:Nat)(j:Region.lexTailB .any l.toArray n)(h:∀W,W=w.drew->wpStill dG l.toArray W (λm=>wpList dG l.toArray i (jD n l) m W) (jT n l) a):(Code.region id l.toArray dY).wp dG i a w:=wp_region_still_tail n (by kernel_rfl) j (h _ rfl)
theorem PS.rep{SB NB HB UB:iN}(h:PS w0 w b bs bn D SB NB HB UB){vs:List dV}(j:RX w z vs)(i:U (Q w0)<=z)(v0 v1 v2 v3 v4 v5 v6 v7:dV):PS w0 (oR w z v0 v1 v2 v3 v4 v5 v6 v7) b bs bn D SB NB HB UB:=by
 obtain⟨-,m,hc⟩:=j;exact h.rest ((uV).h i) (λy _ o=>ak5 o) ⟨_,hc⟩ aX
theorem aB1(w:G)(cs:iA)(ty:TypeId):∃X i,X=jA w (dO cs ty)/\i=jA X (dO #[.I 0,.U 0,.U 0,.U 0,.I 0,aq,aq,aq] 43)/\Bw w i/\U (Q X)=U (Q w)+1/\U (Q i)=U (Q w)+2/\aO i (U (Q w)) cs.toList/\RX i (U (Q w)+1) [.I 0,.U 0,.U 0,.U 0,.I 0,aq,aq,aq]:=by
 let⟨X,r,s,j,u,y⟩:=bM w cs ty;let⟨i,q,m,x,o⟩:=DO X (.I 0) (.U 0) (.U 0) (.U 0) (.I 0) aq aq aq;rw[j]at o;exact⟨X,i,r,q,ah s m,j,ae,u.eh (m.block _ ae),o⟩
variable {R:Ending->G->Prop}
theorem Xb{Z:G}{o0 o1 o2 o3 o4 o5 y o7:dV}(D:O (RX Z z [o0,o1,o2,o3,o4,o5,y,o7]))(hf:fn.results=#[.cell 4 43])(B:a.tmps.getD 4 jQ=Pz z)(hd:a.defers=[])(E:R (dR (jP #[v0,v1,v2,v3,v4,v5,v6,v7])) (oR Z z v0 v1 v2 v3 v4 v5 v6 v7)):bodyPost dG fn R .ret a (oR Z z v0 v1 v2 v3 v4 v5 v6 v7):=by
 obtain⟨x,u,s,r,q,o,m,j,-⟩:=(D.put v0 v1 v2 v3 v4 v5 v6 v7).1.cells;generalize oR Z z v0 v1 v2 v3 v4 v5 v6 v7=W at*;refine bO (v:=jP #[v0,v1,v2,v3,v4,v5,v6,v7]) ?_ hd E;have i:=B;simp only[ca5]at i;simp[results,hf,go_sem,i,x,u,s,r,q,o,m,j]
def rpn(R:RP):dV:=mB R.k R.i R.e R.g R.n aq aq aq
def vt(w0 w:G)(b bs bn:Nat)(D:SD)(SB NB HB UB:iN)(R:RP)(r:Ending)(w':G):Prop:=PS w0 w' b bs bn D SB NB HB UB/\Fr T3 w w'/\r=dR (rpn R)
variable {R:RP}
theorem TW{w0 w Z:G}{SB NB HB UB:iN}{o0 o1 o2 o3 o4 o5 j o7:dV}(q:O (PS w0 Z b bs bn D SB NB HB UB))(r:O (Fr T3 w Z))(i:O (RX Z (U (Q w)+1) [o0,o1,o2,o3,o4,o5,j,o7]))(s:U (Q w0)<=U (Q w))(hf:fn.results=#[.cell 4 43])(m:a.tmps.getD 4 jQ=Pz (U (Q w)+1))(hd:a.defers=[])(o:rpn R=jP #[v0,v1,v2,v3,v4,v5,v6,v7]):bodyPost dG fn (vt w0 w b bs bn D SB NB HB UB R) .ret a (oR Z (U (Q w)+1) v0 v1 v2 v3 v4 v5 v6 v7):=
 Xb i hf m hd ⟨PS.rep q i ae _ _ _ _ _ _ _ _,r.low ((uV (w:=Z) (b:=U (Q w)+1) (v0:=v0) (v1:=v1) (v2:=v2) (v3:=v3) (v4:=v4) (v5:=v5) (v6:=v6) (v7:=v7)).h ae),by rw[o]⟩
theorem cZ7{SB NB HB UB:iN}(h:O (PS w0 w b bs bn D SB NB HB UB))(s:O (D.N[k]?=nd))(E:O (sS D.E))(y:O (NT D.E nd)){id:Int}(i:0<=id/\id<2^64)(V:O (nd.y.Pairwise (·<·)))(R:J nd.y<=2^20)(S:O (nd.y.contains id)):dQ dG 316 #[jP #[.U id,jJ (bf nd.A)],Pz b] w (vt w0 w b bs bn (ko D k id) SB NB HB UB ka):=by
 let⟨X,iY,x,u,m,zX,zY,CY,N⟩:=aB1 w #[.U id,jJ (bf nd.A)] 271;go_in
 go_wp21
 rw[<-x,<-u];refine(dn5 (h.H m) s E y i V R S).h ?_;rintro r Z⟨j,hF,v,rfl⟩;have o:=N.T hF;have r0:=o.cells;replace j:=af j;have W:=af ((Fr.H (T:=T3) m).Z hF);have M:=af o;have q:=h.be.size;go_wp2;exact TW j W M q aU rfl rfl rfl
theorem es1{SB NB HB UB:iN}(h:O (PS w0 w b bs bn D SB NB HB UB))(q:O (D.N[k]?=nd))(y:O (sS D.E))(x:O (NT D.E nd))(E:O (KD D.N)){id:Int}:dQ dG 308 #[jP #[.U id,jJ (bf nd.A)],Pz b] w (vt w0 w b bs bn (wY (kr D k 2) k) SB (jX NB k) (jX HB k) (jX UB k) ka):=by
 let⟨X,iY,u,s,j,V,S,CY,N⟩:=aB1 w #[.U id,jJ (bf nd.A)] 264;go_in
 go_wp21
 rw[<-u,<-s];refine(dn4 (h.H j) q y x E).h ?_;rintro r Z⟨i,hF,v,rfl⟩;have m:=N.T hF;have W:=m.cells;replace i:=af i;have R:=af ((Fr.H (T:=T3) j).Z hF);have M:=af m;have o:=h.be.size;go_wp2;exact TW i R M o aU rfl rfl rfl
theorem PS.Mj{SB NB HB UB:iN}(h:PS w0 w b bs bn D SB NB HB UB)(hi:D.N[i]?=nd)(hl:J nd.A<=2^20):∃g hh uu V,NB[i]?=Y g/\HB[i]?=Y hh/\UB[i]?=Y uu/\g<U (Q w)/\hh<U (Q w)/\uu<U (Q w)/\U (Q w0)<=g/\∀W,Bw w W->I W (Ad b 5)=Y (.map bn)/\(Instr.lookup 133 (.map bn) (jJ (bf nd.A)) dF).run dG W=.ok (Pz g) W/\PN w0 W g hh uu nd/\W.heap[g]?=dO #[V,.U nd.D,.I nd.M,.map (Y hh),.U nd.P,.U nd.F,.map (Y uu)] 142:=by
 obtain⟨g,hh,uu,hg,jd,iK,o,-⟩:=h.XP hi hl;obtain⟨V,q,-⟩:=o.blk;let⟨es,c,m3⟩:=o.Cg.at;let⟨X,S,m4⟩:=o.zL.at;refine⟨g,hh,uu,V,hg,jd,iK,gD q,gD m3,gD m4,o.lo.1,λW u=>?_⟩;have x:=h.H u;obtain⟨-,-,-,-,-,M,-⟩:=x.nM;let⟨R,N,B,r,j,m,y,E⟩:=x.XP hi hl;rw[hg]at r;rw[jd]at j;rw[iK]at m;cases r;cases j;cases m;exact⟨M,E,y,(u.block g (gD q)).Z q⟩
theorem dg6{SB NB HB UB:iN}(h:O (PS w0 w b bs bn D SB NB HB UB))(hk:O (D.N[k]?=nd))(hS:O (sS D.E))(hT:O (NT D.E nd)){id:Int}(hV:O (AB w0 w (.S pv nv cv) V)):dQ dG 312 #[jP #[.U id,jJ (bf nd.A),.S pv nv cv],Pz b] w (vt w0 w b bs bn (kr {D with N:=D.N.set k {nd with V:=V}} k 1) SB NB HB UB ka):=by
 obtain⟨g,hh,uu,V0,hg,jd,iK,gl,-,-,g0,hW⟩:=h.Mj hk hT.pl;let⟨X,iY,hX,hY,bY,zX,zY,CY,RY⟩:=aB1 w #[.U id,jJ (bf nd.A),.S pv nv cv] 268;have HW:=af hW;clear hW;go_in
 go_wp21
 rw[<-hX,<-hY];refine Aa 12 aU (λW eW=>?_);have bW:Bw w W:=eW▸bY.drew;let⟨k5,kl,kN,kb⟩:=aa HW W bW;have c1:I W (Aw w 1)=Y (jJ (bf nd.A)):=eW▸CY.1 1 _ rfl;have c2:I W (Aw w 2)=dS pv nv cv:=eW▸CY.1 2 _ rfl;have RW:=RY.H (w':=W) (eW▸aH.drew);have CW:=CY.eh (w':=W) (by rw[eW];rfl);have wW:=h.be.size;have PW:=af (h.H bW);have g0c:=cX kb 0;have gf:∀o,jF W (Ad g o)=dF:=λo=>by simp[World.frozen?,kb]
 have KB:=af kb;have KN:=af kN;clear hX hY eW kb CY RY kN;simp only[An,uD,yE,vG]
 repeat still_step
 refine rJ ?_;let⟨Z,hZ⟩:=aF (jS W (Ad g 0) (.S pv nv cv));have uE:Z.heap[g]?=dO #[.S pv nv cv,.U nd.D,.I nd.M,.map hh,.U nd.P,.U nd.F,.map uu] 142:=by rw[hZ];simp[World.setCell,yD,aa KB]
 have bZ:Below g W Z:=by rw[hZ];exact aH.setCell (p:=(Ad g 0)) az _
 have kZ:∀z,z<U (Q W)->z≠g->Z.heap[z]?=W.heap[z]?:=λz _ aN=>by rw[hZ];exact fN _ _ _ _ (show z≠_ from aN)
 have iO:=One.FB PW.be bZ KB g0 ai kZ;have PZ:=af (PW.Xn hk hg jd iK iO _ V nd.D nd.M nd.P nd.F uE ((hV.T (bH bW) ai).T iO.T));have RZ:=RW.T iO.T;have zz:U (Q w)<U (Q W):=aM (vU RW.2.choose_spec);have d1:I Z (Aw w 1)=Y (jJ (bf nd.A)):=(CW.eh (kZ _ zz ae)).1 1 _ rfl;have FZ:=af ((Fr.H (T:=T3) bW).Z iO.T);have Gp:=af (uM hk {nd with V:=V});clear uE bZ kZ iO RW CW KB KN
 go_wp21
 rw[<-hZ];refine(da0 PZ (k:=k) {nd with V:=V} Gp 1 hS (af ⟨hT.VE,hT.pl,hT.ON,hT.O0,hT.Tr⟩)).h ?_;rintro r iU⟨PU,hF,v,rfl⟩;have RU0:=RZ.T hF;have r0:=RU0.cells;replace PU:=af PU;have FU:=af (FZ.Z hF);have RU:=af RU0;clear RU0 hF RZ d1 hZ;go_wp2;exact TW PU FU RU wW aU rfl rfl rfl
theorem fb4(w:G)(b bs bn:Nat)(D:SD)(SB NB HB UB:iN)(h:O (PS w0 w b bs bn D SB NB HB UB))(k:Nat)(nd:au)(hk:O (D.N[k]?=nd))(kx:J nd.A<=2^20)(tj:O (nd.X.Pairwise (·<·)))(MQ:O (J nd.X<=2^20))(id:Int)(hid:0<=id/\id<2^64):dQ dG 319 #[jP #[.U id,jJ (bf nd.A)],Pz b] w (vt w0 w b bs bn {D with N:=D.N.set k {nd with X:=lY nd.X id}} SB NB HB UB ka):=by
 obtain⟨g,hh,uu,V0,hg,jd,iK,gl,-,ul,g0,hW⟩:=h.Mj hk kx;let⟨X,iY,hX,hY,bY,zX,zY,CY,RY⟩:=aB1 w #[.U id,jJ (bf nd.A)] 275;have HW:=af hW;clear hW;have fe:=keyOf_int_mk underlying24 (DZ hid);go_in
 go_wp21
 rw[<-hX,<-hY];refine Aa 15 aU (λW eW=>?_);have bW:Bw w W:=eW▸bY.drew;let⟨k5,kl,kN,kb⟩:=aa HW W bW;have c0:I W (Aw w 0)=dU id:=eW▸CY.1 0 _ rfl;have c1:I W (Aw w 1)=Y (jJ (bf nd.A)):=eW▸CY.1 1 _ rfl;have RW:=RY.H (w':=W) (eW▸aH.drew);have wW:=h.be.size;have PW:=af (h.H bW);have g6:=cX kb 6;let⟨M,n,o,hn,hs,hz⟩:=kN.zL;have o':=Il o;rw[hz]at o';let⟨Z,fW,ho,qN⟩:=o'.update mT underlying139 (by have:=aa MQ;unfold maxLen;omega) (val:=jP #[]) fe unitElem_mk;have iO:=One.Ec PW.be qN kN.lo.2.2 (ownsMap_at o');have SZ:=SM.put (w:=W) hs o'.isMap tj (aM (aa MQ)) ho;have PZ:=af (PW.zL hk hg jd iK iO SZ);have DR:=RW.T iO.T;have r0:=DR.cells;have FZ:=af ((Fr.H (T:=T3) bW).Z iO.T);have RZ:=af DR;clear hX hY eW kb CY RY kN iO SZ ho qN o o' hs hz DR RW;simp only[An,uD,yE,vG]
 repeat still_step
 refine rJ ?_;go_wp2;exact TW PZ FZ RZ wW aU rfl rfl rfl
theorem cZ6{SB NB HB UB:iN}(h:O (PS w0 w b bs bn D SB NB HB UB))(S:O (D.N[k]?=nd))(E:J nd.A<=2^20){id:Int}(j:0<=id/\id<2^64)(V:O ((if nd.y.contains id then 0 else 10)=C)):dQ dG 317 #[jP #[.U id,jJ (bf nd.A)],Pz b] w (Rb (rZ C) w):=by
 obtain⟨g,hh,uu,V0,hg,jd,iK,gl,-,ul,g0,s⟩:=h.Mj S E;obtain⟨X,r,bX,zX,m,-⟩:=bM w #[.U id,jJ (bf nd.A)] 271;have HW:=af s;clear s;go_in
 go_wp21
 rw[<-r];refine Aa 11 aU (λW i=>?_);have x:Bw w W:=i▸bX.drew;let⟨R,M,o,N⟩:=aa HW W x;have c0:I W (Aw w 0)=dU id:=i▸m.1 0 _ rfl;have Z:I W (Aw w 1)=Y (jJ (bf nd.A)):=i▸m.1 1 _ rfl;have KN:=af o;clear r i N m o;simp only[An,uD,yE,vG]
 repeat still_step
 refine rJ ?_;let⟨B,u⟩:=bL (nd.y.contains id)
 go_wp21
 refine cK (KI KN j u) λw1 y=>?_;have q:=af (ah x y);have e:=aa V;rw[aa u]at e;clear y c0 Z R M;cases B;{
 obtain rfl:C=10:=by rw[<-e];rfl
 go_wp2;go_ret;exact⟨rfl,q⟩};{
 obtain rfl:C=0:=by rw[<-e];rfl
 go_wp2;go_ret;exact⟨rfl,q⟩}
def az9(D:SD)(nd:au)(id:Int):Int:=if tS D.N nd.A≠[]then 8 else if xZ nd id=dF then 9 else 0
theorem er9{SB NB HB UB:iN}(h:O (PS w0 w b bs bn D SB NB HB UB))(tj:O ((D.N.map λnd=>jv nd.A).Pairwise (·<·)))(V:O (∀nd∈D.N,aA nd.A/\J nd.A<=2^20))(M:O (D.N[k]?=Y nd)){id:Int}(j:0<=id/\id<2^64)(eC:O (az9 D nd id=C)):dQ dG 309 #[jP #[.U id,jJ (bf nd.A)],Pz b] w (Rb (rZ C) w):=by
 let⟨o,kx⟩:=aa V nd (bq (aa M));obtain⟨g,hh,uu,V0,hg,jd,iK,gl,-,ul,g0,hW⟩:=h.Mj M kx;obtain⟨X,hX,Z,zX,CX,-⟩:=bM w #[.U id,jJ (bf nd.A)] 264;have HW:=af hW;have q:=af o;have e:=aa eC;unfold az9 at e;rw[dF1]at e;let⟨L,R⟩:=bL (As D.N nd.A);rw[aa R]at e;let⟨m,em⟩:=aZ (J L);have E:=af e;have s:=af em;go_in
 go_wp21
 rw[<-hX];refine(ex1 (h.H Z) tj V q R).h ?_;rintro r w1⟨p,c,rfl,-,ao⟩;rw[aa s];have u:=CX.eh (w':=w1) (ao.block _ ae);have B1:=af (ah Z ao);by_cases N:m=0;{
 subst N;have hL:L=[]:=vI.1 s;have e2:(if xZ nd id=dF then 9 else 0)=C:=by have:=aa E;rw[hL]at this;simpa using this
 have E2:=af e2
 go_wp21
 refine Aa 11 aU (λW i=>?_);have bW:Bw w W:=i▸B1.drew;let⟨k5,kl,y,kb⟩:=aa HW W bW;have c0:I W (Aw w 0)=dU id:=i▸u.1 0 _ rfl;have c1:I W (Aw w 1)=Y (jJ (bf nd.A)):=i▸u.1 1 _ rfl;have KN:=af y;clear i kb u y;simp only[An,uD,yE,vG]
 repeat still_step
 refine rJ ?_;let⟨B,S⟩:=bL (xZ nd id)
 go_wp21
 refine cK (ed4 KN j S) λw5 cR=>?_;have x:=af (ah bW cR);have e:=aa E2;rw[aa S]at e;cases B;{
 obtain rfl:C=9:=by rw[<-e];rfl
 go_wp2;go_ret;exact⟨rfl,x⟩};{
 obtain rfl:C=0:=by rw[<-e];rfl
 go_wp2;go_ret;exact⟨rfl,x⟩}};{
 have Rh:=rr 0 m;have e':C=8:=by have:=aa E;rw[aK (λe=>N (by rw[<-aa s];simpa using e))]at this;exact this.C
 subst e';go_wp2;go_ret;exact⟨rfl,B1⟩}
def WV(nd:au)(id:Int):Int:=if nd.M=1/\nd.y.contains id=dF then 9 else 0
theorem dg4{SB NB HB UB:iN}(h:O (PS w0 w b bs bn D SB NB HB UB))(M:O (D.N[k]?=nd))(y:J nd.A<=2^20){id:Int}(j:0<=id/\id<2^64){V:dV}(R:O (WV nd id=C)):dQ dG 313 #[jP #[.U id,jJ (bf nd.A),.S pv nv cv],Pz b] w (Rb (rZ C) w):=by
 obtain⟨g,hh,uu,V0,hg,jd,iK,gl,-,ul,g0,N⟩:=h.Mj M y;obtain⟨X,u,bX,zX,o,-⟩:=bM w #[.U id,jJ (bf nd.A),.S pv nv cv] 268;have HW:=af N;go_in
 go_wp21
 rw[<-u];refine Md aU (λW i=>?_);have m:Bw w W:=i▸bX.drew;let⟨k5,kl,s,r⟩:=aa HW W m;have c0:I W (Aw w 0)=dU id:=i▸o.1 0 _ rfl;have c1:I W (Aw w 1)=Y (jJ (bf nd.A)):=i▸o.1 1 _ rfl;have KN:=af s;have g2:=cX r 2;clear u i r o s
 repeat still_step
 refine rJ ?_;have e:=aa R;unfold WV at e;by_cases hm:nd.M=1;{
 have Gl:(nd.M==1):=by simp[hm]
 let⟨B,x⟩:=bL (nd.y.contains id);rw[aa x]at e;have E:=af (by simpa[hm]using e:(if B=dF then 9 else 0)=C)
 go_wp21
 refine cK (KI KN j x) λw5 Z=>?_;have q:=af (ah m Z);have e:=aa E;cases B;{
 obtain rfl:C=9:=by rw[<-e];rfl
 go_wp2;go_ret;exact⟨rfl,q⟩};{
 obtain rfl:C=0:=by rw[<-e];rfl
 go_wp2;go_ret;exact⟨rfl,q⟩}};{
 have Gl:(nd.M==1)=dF:=by simp[hm]
 obtain rfl:C=0:=by rw[<-e];simp[hm]
 go_wp2;go_ret;exact⟨rfl,m⟩}
def yG(D:SD)(nd:au)(id F:Int):Int:=if nd.y.contains id then 9 else if F=2 then(if nd.M=1 then 9 else 0)else if nd.M≠0 then 9 else if 4611686018427387904<=D.g then 12 else 0
theorem dA1{SB NB HB UB:iN}(h:O (PS w0 w b bs bn D SB NB HB UB))(hk:O (D.N[k]?=nd))(kx:J nd.A<=1048576){id:Int}(o:0<=id/\id<2^64)(hF:F=1\/F=2)(x:O (yG D nd id F=C)):dQ dG 315 #[jP #[.U id,jJ (bf nd.A),.I F],Pz b] w (Rb (rZ C) w):=by
 obtain⟨g,hh,uu,V0,hg,jd,iK,gl,-,ul,g0,hW⟩:=h.Mj hk kx;obtain⟨X,hX,bX,zX,V,-⟩:=bM w #[.U id,jJ (bf nd.A),.I F] 270;have HW:=af hW;have HF:=af hF;go_in
 go_wp21
 rw[<-hX];refine Md aU (λW u=>?_);have r:Bw w W:=u▸bX.drew;let⟨k5,kl,kN,kb⟩:=aa HW W r;obtain⟨-,s,-⟩:=(h.H r).nM;have c0:I W (Aw w 0)=dU id:=u▸V.1 0 _ rfl;have c1:I W (Aw w 1)=Y (jJ (bf nd.A)):=u▸V.1 1 _ rfl;have y:I W (Aw w 2)=dI F:=u▸V.1 2 _ rfl;have KN:=af kN;have g2:=cX kb 2;clear hX u kb V kN
 repeat still_step
 refine rJ ?_;obtain Z|Z:=aa HF;{
 subst Z;by_cases hm:nd.M=0;{
 have q:=af hm;have M:(nd.M==1)=dF:=by simp[hm]
 have m0:(nd.M != 0)=dF:=by simp[hm]
 let⟨B,m⟩:=bL (nd.y.contains id)
 go_wp21
 refine cK (KI KN o m) λE i=>?_;have R:=aj y i;have S:=aj s i;have j:=af (ah r i);have e:=aa x;unfold yG at e;rw[aa m]at e;cases B;{
 by_cases N:4611686018427387904<=D.g;{
 have Av:dD (4611686018427387904<=D.g):=by simpa using N
 obtain rfl:C=12:=by rw[<-e];simp[aa q,N]
 go_wp2;go_ret;exact⟨rfl,j⟩};{
 have Av:dD (4611686018427387904<=D.g)=dF:=by simpa using N
 obtain rfl:C=0:=by rw[<-e];simp[aa q,N]
 go_wp2;go_ret;exact⟨rfl,j⟩}};{
 obtain rfl:C=9:=by rw[<-e];simp
 go_wp2;go_ret;exact⟨rfl,j⟩}};{
 have q:=af hm;by_cases sI:nd.M=1;{
 have M:(nd.M==1):=by simp[sI]
 let⟨B,m⟩:=bL (nd.y.contains id)
 go_wp21
 refine cK (KI KN o m) λE i=>?_;have R:=aj y i;have S:=aj s i;have j:=af (ah r i);have e:=aa x;unfold yG at e;rw[aa m]at e;cases B;{
 obtain rfl:C=9:=by rw[<-e];simp[aa q]
 go_wp2;go_ret;exact⟨rfl,j⟩};{
 obtain rfl:C=9:=by rw[<-e];simp
 go_wp2;go_ret;exact⟨rfl,j⟩}};{
 have M:(nd.M==1)=dF:=by simp[sI]
 have m0:(nd.M != 0):=by simp[hm]
 let⟨B,m⟩:=bL (nd.y.contains id)
 go_wp21
 refine cK (KI KN o m) λE i=>?_;have R:=aj y i;have S:=aj s i;have j:=af (ah r i);have e:=aa x;unfold yG at e;rw[aa m]at e;cases B;{
 obtain rfl:C=9:=by rw[<-e];simp[aa q]
 go_wp2;go_ret;exact⟨rfl,j⟩};{
 obtain rfl:C=9:=by rw[<-e];simp
 go_wp2;go_ret;exact⟨rfl,j⟩}}}};{
 subst Z;by_cases hm:nd.M=1;{
 have q:=af hm;have M:(nd.M==1):=by simp[hm]
 let⟨B,m⟩:=bL (nd.y.contains id)
 go_wp21
 refine cK (KI KN o m) λE i=>?_;have R:=aj y i;have S:=aj s i;have j:=af (ah r i);have e:=aa x;unfold yG at e;rw[aa m]at e;cases B;{
 obtain rfl:C=9:=by rw[<-e];simp[aa q]
 go_wp2;go_ret;exact⟨rfl,j⟩};{
 obtain rfl:C=9:=by rw[<-e];simp
 go_wp2;go_ret;exact⟨rfl,j⟩}};{
 have q:=af hm;have M:(nd.M==1)=dF:=by simp[hm]
 let⟨B,m⟩:=bL (nd.y.contains id)
 go_wp21
 refine cK (KI KN o m) λE i=>?_;have R:=aj y i;have S:=aj s i;have j:=af (ah r i);have e:=aa x;unfold yG at e;rw[aa m]at e;cases B;{
 obtain rfl:C=0:=by rw[<-e];simp[aa q]
 go_wp2;go_ret;exact⟨rfl,j⟩};{
 obtain rfl:C=9:=by rw[<-e];simp
 go_wp2;go_ret;exact⟨rfl,j⟩}}}
theorem ZW(w:G)(cs:iA)(ty:TypeId):∃X i,X=jA w (dO cs ty)/\i=jA X (dO #[.I 0,.U 0,.U 0,.U 0,.I 0,aq,aq,aq] 43)/\Bw w i/\U (Q X)=U (Q w)+1/\U (Q i)=U (Q w)+2/\i.heap[U (Q w)]?=dO cs ty/\RX i (U (Q w)+1) [.I 0,.U 0,.U 0,.U 0,.I 0,aq,aq,aq]:=by
 obtain⟨X,r,u,j,-,s⟩:=bM w cs ty;let⟨i,q,m,x,o⟩:=DO X (.I 0) (.U 0) (.U 0) (.U 0) (.I 0) aq aq aq;rw[j]at o;exact⟨X,i,r,q,ah u m,j,ae,(m.block _ ae).Z s,o⟩
theorem dA2{SB NB HB UB:iN}(h:O (PS w0 w b bs bn D SB NB HB UB))(hk:O (D.N[k]?=nd))(kx:J nd.A<=2^20)(tj:O (nd.y.Pairwise (·<·)))(MQ:O (J nd.y<=2^20)){id:Int}(hid:0<=id/\id<2^64)(he:O (nd.P=0/\nd.F=0)):dQ dG 314 #[jP #[.U id,jJ (bf nd.A),.I 2],Pz b] w (vt w0 w b bs bn {D with N:=D.N.set k {nd with M:=2,y:=lY nd.y id}} SB NB HB UB ka):=by
 obtain⟨g,hh,uu,V0,hg,jd,iK,gl,-,-,g0,hW⟩:=h.Mj hk kx;let⟨X,iY,hX,hY,bY,zX,zY,BX,RY⟩:=ZW w #[.U id,jJ (bf nd.A),.I 2] 270;have HW:=af hW;have Hz:=af BX;have Oj:=af RY;have IX:=dy hg jd iK;have wW:=h.be.size;have fe:=keyOf_int_mk underlying24 (DZ hid);go_in
 go_wp21
 rw[<-hX,<-hY];refine Md aU (λW eW=>?_);have wC:=mW eW;let⟨k5,kl,kN,kb⟩:=aa HW W (ah bY wC);have FW:=af (Fr.H (T:=T3) wC);have bx:=FW.2 _ _ _ _ aX Hz;have c1:=cX bx 1;have c2:=cX bx 2;have g2:=cX kb 2;have gf:∀o,jF W (Ad g o)=dF:=λo=>by simp[World.frozen?,kb]
 have PW:=af (h.H (ah bY wC));obtain⟨V',Y9,aQ,-⟩:=kN.cells;rw[kb]at aQ;cases aQ;have HV:=af Y9;have KB:=af kb;clear hX hY eW kb kN bx Y9 wC
 repeat still_step
 refine rJ ?_;let⟨Z,hZ⟩:=aF (jS W (Ad g 2) (.I 2));have uE:Z.heap[g]?=dO #[V0,.U nd.D,.I 2,.map hh,.U nd.P,.U nd.F,.map uu] 142:=by rw[hZ];simp[World.setCell,yD,aa KB]
 have bZ:Below g W Z:=by rw[hZ];exact aH.setCell (p:=(Ad g 2)) az _
 have kZ:∀z,z<U (Q W)->z≠g->Z.heap[z]?=W.heap[z]?:=λz _ aN=>by rw[hZ];exact fN _ _ _ _ (show z≠_ from aN)
 have iO:=One.FB PW.be bZ KB g0 ai kZ;have PZ:=af (PW.Xn hk IX.1 IX.2.1 IX.2.2 iO V0 nd.V nd.D 2 nd.P nd.F uE (HV.T iO.T));have FZ:=af (FW.Z iO.T);clear bZ kZ iO uE
 go_wp21
 rw[<-hZ];clear hZ c1 c2 g2 gf k5 kl KB HV PW FW;refine Aa 8 aU (λW1 ZK=>?_);have Sb:=mW ZK;have Sz:=af (PZ.H Sb);have FW1:=af (FZ.Z (Fr.H (T:=T3) Sb));have bx:=FW1.2 _ _ _ _ aX Hz;have c0:=cX bx 0;have iV:=uM hk {nd with M:=2}
 have kN:=Sz.rE k _ g hh uu iV IX.1 IX.2.1 IX.2.2;obtain⟨V1,-,-,-,-,-,n3,-⟩:=kN.cells;let⟨M,n,o,hn,hs,hz⟩:=kN.Cg;have o':=Il o;rw[hz]at o';let⟨Y2,fW,ho,qN⟩:=o'.update mT underlying139 (by have:=aa MQ;show J nd.y<_;unfold maxLen;omega) (val:=jP #[]) fe unitElem_mk;have O2:=One.Ec Sz.be qN kN.lo.2.1 (ownsMap_at o');have SZ:=SM.put (w:=W1) hs o'.isMap tj (by have:=aa MQ;show J nd.y+1<=_;omega) ho;have Cx:=Sz.Cg iV IX.1 IX.2.1 IX.2.2 O2 SZ;simp only[aw8]at Cx;replace Cx:=af Cx;have FY2:=af (FW1.Z O2.T);have lI:=af (uM hk {nd with M:=2,y:=lY nd.y id});have NQ:=FY2.2 _ _ _ _ aX Hz;have e2:=cX NQ 2;clear ZK kN O2 SZ ho qN o o' hs hz bx NQ iV Sb;simp only[An,uD,yE,vG]
 repeat still_step
 refine rJ ?_
 go_wp21
 clear fW c0 n3 e2;refine Aa 9 aU (λW2 Ny=>?_);have Sc:=mW Ny;have Fi:=af (Cx.H Sc);have JM:=FY2.Z (Fr.H (T:=T3) Sc);have Sw:=Oj.T JM;have kN:=Fi.rE k _ g hh uu lI IX.1 IX.2.1 IX.2.2;obtain⟨V1,-,-,-,-,-,-,n4,n5,-⟩:=kN.cells;simp only[he.1,he.2]at n4 n5;have r0:=Sw.cells;have FZ2:=af ((Fr.H (T:=T3) bY).Z JM);have RZ2:=af Sw;clear Ny kN JM Sw Sc;simp only[An,uD,yE,vG]
 repeat still_step
 refine rJ ?_;go_wp2;exact TW Fi FZ2 RZ2 wW aU rfl rfl rfl
theorem dA3{SB NB HB UB:iN}(h:O (PS w0 w b bs bn D SB NB HB UB))(hk:O (D.N[k]?=nd))(kx:J nd.A<=2^20)(tj:O (nd.y.Pairwise (·<·)))(MQ:O (J nd.y<=2^20)){id:Int}(hid:0<=id/\id<2^64)(IY:0<=D.g/\D.g<2^62):dQ dG 314 #[jP #[.U id,jJ (bf nd.A),.I 1],Pz b] w (vt w0 w b bs bn {D with g:=D.g+1,N:=D.N.set k {nd with M:=1,y:=lY nd.y id,P:=D.e,F:=D.g+1}} SB NB HB UB {ka with e:=D.e,g:=D.g+1}):=by
 obtain⟨g,hh,uu,V0,hg,jd,iK,gl,-,-,g0,hW⟩:=h.Mj hk kx;let⟨X,iY,hX,hY,bY,zX,zY,BX,RY⟩:=ZW w #[.U id,jJ (bf nd.A),.I 1] 270;have HW:=af hW;have Hz:=af BX;have Oj:=af RY;have IX:=dy hg jd iK;have wW:=h.be.size;clear hW BX RY hg jd iK;have fe:=keyOf_int_mk underlying24 (DZ hid);go_in
 go_wp21
 rw[<-hX,<-hY];refine Md aU (λW eW=>?_);have wC:=mW eW;let⟨k5,kl,kN,kb⟩:=aa HW W (ah bY wC);have FW:=af (Fr.H (T:=T3) wC);have bx:=FW.2 _ _ _ _ aX Hz;have c1:=cX bx 1;have c2:=cX bx 2;have g2:=cX kb 2;have gf:∀o,jF W (Ad g o)=dF:=λo=>by simp[World.frozen?,kb]
 have PW:=af (h.H (ah bY wC));obtain⟨V',Y9,aQ,-⟩:=kN.cells;rw[kb]at aQ;cases aQ;have HV:=af Y9;have KB:=af kb;clear hX hY eW kb kN bx Y9 wC
 repeat still_step
 refine rJ ?_;let⟨Z,hZ⟩:=aF (jS W (Ad g 2) (.I 1));have uE:Z.heap[g]?=dO #[V0,.U nd.D,.I 1,.map hh,.U nd.P,.U nd.F,.map uu] 142:=by rw[hZ];simp[World.setCell,yD,aa KB]
 have bZ:Below g W Z:=by rw[hZ];exact aH.setCell (p:=(Ad g 2)) az _
 have kZ:∀z,z<U (Q W)->z≠g->Z.heap[z]?=W.heap[z]?:=λz _ aN=>by rw[hZ];exact fN _ _ _ _ (show z≠_ from aN)
 have iO:=One.FB PW.be bZ KB g0 ai kZ;have PZ:=af (PW.Xn hk IX.1 IX.2.1 IX.2.2 iO V0 nd.V nd.D 1 nd.P nd.F uE (HV.T iO.T));have FZ:=af (FW.Z iO.T);clear bZ kZ iO uE
 go_wp21
 rw[<-hZ];clear hZ c1 c2 g2 gf k5 kl KB HV PW FW;refine Aa 8 aU (λW1 ZK=>?_);have Sb:=mW ZK;have Sz:=af (PZ.H Sb);have FW1:=af (FZ.Z (Fr.H (T:=T3) Sb));have bx:=FW1.2 _ _ _ _ aX Hz;have c0:=cX bx 0;have iV:=uM hk {nd with M:=1}
 have kN:=Sz.rE k _ g hh uu iV IX.1 IX.2.1 IX.2.2;obtain⟨V1,-,-,-,-,-,n3,-⟩:=kN.cells;let⟨M,n,o,hn,hs,hz⟩:=kN.Cg;have o':=Il o;rw[hz]at o';let⟨Y2,fW,ho,qN⟩:=o'.update mT underlying139 (by have:=aa MQ;show J nd.y<_;unfold maxLen;omega) (val:=jP #[]) fe unitElem_mk;have O2:=One.Ec Sz.be qN kN.lo.2.1 (ownsMap_at o');have SZ:=SM.put (w:=W1) hs o'.isMap tj (by have:=aa MQ;show J nd.y+1<=_;omega) ho;have Cx:=Sz.Cg iV IX.1 IX.2.1 IX.2.2 O2 SZ;simp only[aw8]at Cx;replace Cx:=af Cx;have FY2:=af (FW1.Z O2.T);have lI:=af (uM hk {nd with M:=1,y:=lY nd.y id});have NQ:=FY2.2 _ _ _ _ aX Hz;have e2:=cX NQ 2;clear ZK kN O2 SZ ho qN o o' hs hz bx NQ iV Sb;simp only[An,uD,yE,vG]
 repeat still_step
 refine rJ ?_;let⟨q0,q1,q2,q3,q4,q5,qf⟩:=Cx.nM;let⟨Z3,Y4⟩:=aF (jS Y2 (Ad b 1) (.U (D.g+1)));have uE:Z3.heap[b]?=dO #[.U D.e,.U (D.g+1),.U D.x,.I D.t,.map bs,.map bn] 135:=by rw[Y4];simp[World.setCell,yD,Cx.hd]
 have O3:=One.FB Cx.be (by rw[Y4];exact aH.setCell (p:=(Ad b 1)) az _:Below b Y2 Z3) Cx.hd Cx.lo.1 ai (λz _ aN=>by rw[Y4];exact fN _ _ _ _ (show z≠_ from aN));have P3:=af (Cx.ag7 O3 D.e (D.g+1) D.x D.t uE);have F3:=af (FY2.Z O3.T);clear uE O3
 go_wp21
 rw[<-Y4];clear Y4 fW c0 n3 e2 q0 q1 q2 q3 q4 q5 qf;let⟨vA,de⟩:=aF Z3.drew;have bA:=mW de;have PA:=af (P3.H bA);have FA:=af (F3.Z (Fr.H (T:=T3) bA));obtain⟨q0,q1,-⟩:=PA.nM;have kN:=PA.rE k _ g hh uu lI IX.1 IX.2.1 IX.2.2;obtain⟨V1,ud,kb1,-,-,-,-,n4,n5,-,nf⟩:=kN.cells;have I9:b≠g:=λe=>by have:=PA.hd;rw[e,kb1]at this;simp at this
 have HKB:=br ud kb1;clear bA kN ud kb1;refine fK (λw'=>I w' (Ad b 0)=dU D.e/\I w' (Ad b 1)=dU (D.g+1)) (by rw[<-de];exact⟨q0,q1⟩) λhS=>?_;rw[<-de]at hS⊢;clear de;refine jh 0 1 2 3 4 5 6 7 hS ?_;refine iL 8 9 10 11 hS ?_;refine ry [12] ?_;refine cn (λKK hK=>?_) ?_;rotate_left;exact fI;rotate_right;go_simp;let⟨Z4,YY⟩:=aF (jS vA (Ad g 4) (.U D.e));have k4:∀z,z≠g->Z4.heap[z]?=vA.heap[z]?:=λz aN=>by rw[YY];exact fN _ _ _ _ (show z≠_ from aN)
 have b4:Below g vA Z4:=by rw[YY];exact aH.setCell (p:=(Ad g 4)) az _
 have Ge:Z4.heap[g]?=dO #[V1,.U nd.D,.I 1,.map hh,.U D.e,.U nd.F,.map uu] 142:=by rw[YY];simp[World.setCell,yD,HKB.2]
 rw[<-YY];have p0:=(gF (k4 b I9) 0).Z q0;have p1:=(gF (k4 b I9) 1).Z q1;refine bQ hK (by exact⟨p0,p1⟩) λhS=>?_;clear hK KK n4 n5 nf YY q0 q1;refine gh 13 14 hS ?_;have m5:=cX Ge 5;have mf:∀o,jF Z4 (Ad g o)=dF:=λo=>by simp[World.frozen?,Ge]
 have H4:=dy Ge k4 b4;clear Ge k4 b4;refine ry [15] ?_;refine cn (λKK hK=>?_) ?_;rotate_left;exact fI;rotate_right;go_simp;let⟨Z5,YX⟩:=aF (jS Z4 (Ad g 5) (.U (D.g+1)));have k5:∀z,z≠g->Z5.heap[z]?=Z4.heap[z]?:=λz aN=>by rw[YX];exact fN _ _ _ _ (show z≠_ from aN)
 have b5:Below g Z4 Z5:=by rw[YX];exact aH.setCell (p:=(Ad g 5)) az _
 have hz5:Z5.heap[g]?=dO #[V1,.U nd.D,.I 1,.map hh,.U D.e,.U (D.g+1),.map uu] 142:=by rw[YX];simp[World.setCell,yD,H4.1]
 rw[<-YX];have s0:=(gF (k5 b I9) 0).Z p0;have s1:=(gF (k5 b I9) 1).Z p1;have O5:=One.FB PA.be (H4.2.2.Z b5) HKB.2 g0 ai (λz _ aN=>(k5 z aN).Z (H4.2.1 z aN));have P5:=PA.Xn lI IX.1 IX.2.1 IX.2.2 O5 V1 nd.V nd.D 1 D.e (D.g+1) hz5 (HKB.1.T O5.T);simp only[aw8]at P5;have PY3:=af P5;have FY3:=af (FA.Z O5.T);have mc:=af (uM hk {nd with M:=1,y:=lY nd.y id,P:=D.e,F:=D.g+1});refine bQ hK (by exact⟨s0,s1⟩) λhS=>?_;clear hK KK YX k5 b5 hz5 s0 s1 O5 P5 m5 mf p0 p1;refine ga ?_;clear hS
 go_wp21
 refine Aa 9 aU (λW2 Ny=>?_);have Sc:=mW Ny;have Fi:=af (PY3.H Sc);have JM:=FY3.Z (Fr.H (T:=T3) Sc);have Sw:=Oj.T JM;have kN:=Fi.rE k _ g hh uu mc IX.1 IX.2.1 IX.2.2;obtain⟨V2,-,-,-,-,-,-,n4,n5,-⟩:=kN.cells;have r0:=Sw.cells;have FZ2:=af ((Fr.H (T:=T3) bY).Z JM);have RZ2:=af Sw;clear Ny kN JM Sw Sc;simp only[An,uD,yE,vG]
 repeat still_step
 refine rJ ?_;go_wp2;exact TW Fi FZ2 RZ2 wW aU rfl rfl rfl
variable {l:LI}
theorem RdU.news{a:Addr}(h:RdU w (.S a (J l) c) l):J (l.map (Value.int jU))=J l*1/\(∀j u,(l.map (Value.int jU))[j]?=Y u->I w (a.add j)=Y u)/\(∀u∈l.map (Value.int jU),u.oneCell'):=by
 refine⟨ai,λj u i=>?_,λu i=>by obtain⟨n,-,rfl⟩:=fg.1 i;rfl⟩;have m:j<J l:=by have:=(bu.1 i).1;simpa using this
 obtain⟨p,x,e,r⟩:=h;obtain⟨rfl,-,-⟩:=mg e;obtain s|⟨b,o,q,hc⟩:=r;{rw[s]at m;simp at m};{simp only[nJ]at q;subst q;rw[Ix,hc j m,<-i];simp[iR,m]}
theorem cd9(en:Le l n)(h:RdU w (.S p n c) l)(hl:Mg n):dQ dG 178 #[.S p n c] w λe w'=>∃q m,e=dR (.S q n m)/\qg (U (Q w)) w' (.S q n m) l/\Bw w w':=by
 obtain rfl:=aa en;let⟨i,D,V,fy,gJ⟩:=og Tryz.infoU64;go_in;have N:w.ownsRow (U (Q w)) 24 1 aq 0 []:=nK w _ _ 1;cases p with
 |none=>
  have e0:l=[]:=by obtain⟨p,m,e,X⟩:=h;simp only[ti]at e;obtain h0|⟨b,o,e1,hc⟩:=X;{exact h0};{rw[e1]at e;simp at e}
  subst e0;have EF:=W8 (P:=dG) 67 i underlying67 D c N;go_wp2_with(at_builtin;refine Lib.wpList_append_run w rfl _ _ 67 67 rfl _ _ rfl rfl _ _ EF ?_);go_ret;exact⟨_,_,rfl,qg.nil _ _,aR _ _⟩
 |some ad=>
  let⟨x,s,r⟩:=h.news;let⟨R,w',y,M,j,E⟩:=bR2 (ty:=67) i D V fy gJ N (ZT.nil w) c x s r kL ae az;go_wp2_with(at_builtin;refine Lib.wpList_append_run w rfl _ _ 67 67 rfl _ _ rfl rfl _ _ y ?_);have B:qg (U (Q w)) w' R l:=⟨by simpa[nW]using M,E⟩;obtain⟨q,m,rfl⟩:=B.form;have Z:Bw w w':=⟨j.os,j.tape,j.output,j.size,λk W=>j.block k W (by simp[jB])⟩;clear M j E y x s r h;go_wp2;go_ret;exact⟨_,_,rfl,B,Z⟩
variable {cs:List dV}
theorem aK4{α:Type}{el:G->α->List dV->Prop}{P:Program}{o:Oper}{K:Act->G->Prop}{iZ:iE}{E:Prop}(iq:o.guard=dN){s x:Operand} (ho:o.op=.call {callee:=.builtin .append,args:=#[s,x],argTypes:=#[t,t]}){e:TypeId}(i:TypeInfo){z:dV}(size:Nat)(ht:P.underlying t=Y (.slice e))(hi:P.info? e=i)(hz:i.zero=z)(Ks:i.size=size)(cW:i.bytes=bytes)(MI:z.cells.size=size)(gK:0<size){xs:List α}(ek:Le xs k)(hs:a.eval s=v)(du:RT el e size B w v xs)(g:Nat)(y:α)(hx:a.eval x=.T g 1 1)(oz:el w y cs)(yO:J cs=size)(tv:∀j u,cs[j]?=Y u->I w (Ad g j)=Y u)(h1:∀u∈cs,u.oneCell')(gR:∀w',Fr [e] w w'->∀x c,el w x c->el w' x c)(hk:k<2^22)(YP:bytes<=256)(hB:B<=U (Q w))(h:∀p' c' w',RT el e size B w' (.S p' (k+1) c') (xs++[y])->jG w w' (jB v)->Fr [e] w w'->(∀g,jB (Value.slice p' (k+1) c')=Y g->jB v=Y g\/U (Q w)<=g)->K (a.put o.dst (.S p' (k+1) c')) w'):if jW o (yielded ops a.tmps)then Oper.wp P o a w K iZ else E:=by
 have htt:=du.uw;obtain⟨rs,g1,g2,g3,g4⟩:=du;rw[aa ek]at g3;refine TD iq ho i size ht hi hz Ks cW MI gK hs g3 1 1 cs hx (by rw[yO,Nat.one_mul]) tv h1 kL (by have:=Nat.mul_le_mul (show k+1<=2^22 by omega) YP;omega) hB ?_
 intro v' w' gC hg AG;have hf:Fr [e] w w':=Fr.grown hg λb hb=>by let⟨cur,hc⟩:=htt b hb;exact⟨cur,_,hc,ai⟩
 have sn:RT el e size B w' v' (xs++[y]):=RT.snoc g1 g2 g4 (gR w' hf) oz yO (aa ek▸gC);obtain⟨p',c',rfl,-⟩:=RT.form sn;rw[eG,aa ek]at sn AG⊢;exact h p' c' w' sn hg hf AG
theorem eu4{p0 p1 p4 p7:OA}{c0 c1 c4 c7 n0 n1 s q:Nat}(e0:Le nd.A n0)(e1:Le nd.V n1)(e4:Le nd.y s)(e7:Le nd.X q)(h0:Rd w (.S p0 n0 c0) nd.A)(h1:Rd w (.S p1 n1 c1) nd.V)(h4:RdU w (.S p4 s c4) nd.y)(h7:RdU w (.S p7 q c7) nd.X)(l0:Mg n0)(l1:Mg n1)(l4:Mg s)(l7:Mg q):dQ dG 117 #[Ka (.S p0 n0 c0) (.S p1 n1 c1) nd.D nd.M (.S p4 s c4) nd.P nd.F (.S p7 q c7)] w λr w'=>∃y D M N V W Z d7,r=dR (Ka (.S y n0 D) (.S M n1 N) nd.D nd.M (.S V s W) nd.P nd.F (.S Z q d7))/\TC (U (Q w)) w' (.S y n0 D) nd.A/\TC (U (Q w)) w' (.S M n1 N) nd.V/\TU (U (Q w)) w' (.S V s W) nd.y/\TU (U (Q w)) w' (.S Z q d7) nd.X/\Bw w w':=by
 have HR:=af λ(w':G)(hb:Bw w w')=>aD (h0.H hb) (aD (h1.H hb) (aD (h4.H hb) (h7.H hb)));let⟨W0,bG,b0,z0,C0,T0⟩:=bM w #[.S p0 n0 c0,.S p1 n1 c1,.U nd.D,.I nd.M,.S p4 s c4,.U nd.P,.U nd.F,.S p7 q c7] 69;let⟨W1,fo,b1,z1,C1,T1⟩:=bM W0 #[aq,aq,.U 0,.I 0,aq,.U 0,.U 0,aq] 69;rw[z0]at C1 T1 z1;have B0:=af (ah b0 b1);have C0:=af (C0.H ae b1);have T0:O (∃cur,W1.heap[U (Q w)]?=dO cur 69):=⟨_,(b1.block _ ae).Z T0⟩;have R0:=af C1;have E:O (∃cur,W1.heap[U (Q w)+1]?=dO cur 69):=⟨_,T1⟩;have Z0:=z1;go_in;have k0:=C0.1 0 _ rfl
 go_wp21
 rw[<-bG,<-fo];refine(Dp e0 (aa HR W1 B0).1 ae).h ?_;rintro r w1⟨y,D,rfl,oj,m⟩;have x:=C0.H ae m;have TY:∃cur,w1.heap[U (Q w)]?=dO cur 69:=T0.imp λcur hc=>(m.block _ ae).Z hc;have RY:=R0.H ae m;let⟨X,i⟩:=aF (jS w1 (Aw w 0) (.S y n0 D));have Sq:∃cur,w1.heap[U (Q w)+1]?=dO cur 69:=E.imp λcur hc=>(m.block _ ae).Z hc;have E:O (∃cur,X.heap[U (Q w)+1]?=dO cur 69):=by rw[i];exact af (Sq.imp λcur hc=>(fN _ _ _ _ (by show U (Q w)+1≠U (Q w);omega)).Z hc)
 have o:=qn (j:=0) (u:=.S y n0 D) TY;rw[<-i]at o;have kj:=x.1 0 _ rfl;have kf:=x.2 0;have zj:=m.size;have Z1:U (Q w)+1+1<=U (Q X):=by rw[i];simp;omega
 have C1:O (aO X (U (Q w)) [.S y n0 D,.S p1 n1 c1,.U nd.D,.I nd.M,.S p4 s c4,.U nd.P,.U nd.F,.S p7 q c7]):=i▸af (x.dt 0 ai _);have T1:=af o.1;have R1:O (aO X (U (Q w)+1) [aq,aq,.U 0,.I 0,aq,.U 0,.U 0,aq]):=by rw[i];exact af (RY.nS (a:=(Aw w 0)) (by show U (Q w)+1≠U (Q w);omega) _)
 have B1:O (Bw w X):=by rw[i];exact af ((ah (aa B0) m).setCell (p:=(Aw w 0)) az _)
 have R:=af ((oj.tc (B:=U (Q w)) ae).T o.2);let⟨X1,hN⟩:=aF X;rw[<-hN]at C1 T1 R1 B1 Z1 E i R;have k1:=C1.1 1 _ rfl;rw[i]at k1
 go_wp21
 rw[<-i];refine(Dp e1 (aa HR X1 B1).2.1 ae).h ?_;rintro r w2⟨M,N,rfl,oj,m⟩;have x:=C1.H ae m;have TY:∃cur,w2.heap[U (Q w)]?=dO cur 69:=T1.imp λcur hc=>(m.block _ ae).Z hc;have RY:=R1.H ae m;let⟨X,i⟩:=aF (jS w2 (Aw w 1) (.S M n1 N));have Sq:∃cur,w2.heap[U (Q w)+1]?=dO cur 69:=E.imp λcur hc=>(m.block _ ae).Z hc;have E:O (∃cur,X.heap[U (Q w)+1]?=dO cur 69):=by rw[i];exact af (Sq.imp λcur hc=>(fN _ _ _ _ (by show U (Q w)+1≠U (Q w);omega)).Z hc)
 have o:=qn (j:=1) (u:=.S M n1 N) TY;rw[<-i]at o;have kj:=x.1 1 _ rfl;have kf:=x.2 1;have zj:=m.size;have Z2:U (Q w)+1+1<=U (Q X):=by rw[i];simp;omega
 have C2:O (aO X (U (Q w)) [.S y n0 D,.S M n1 N,.U nd.D,.I nd.M,.S p4 s c4,.U nd.P,.U nd.F,.S p7 q c7]):=i▸af (x.dt 1 ai _);have T2:=af o.1;have R2:O (aO X (U (Q w)+1) [aq,aq,.U 0,.I 0,aq,.U 0,.U 0,aq]):=by rw[i];exact af (RY.nS (a:=(Aw w 1)) (by show U (Q w)+1≠U (Q w);omega) _)
 have B2:O (Bw w X):=by rw[i];exact af ((ah (aa B1) m).setCell (p:=(Aw w 1)) az _)
 have R:=af (((R.T (bH m)).T o.2));have t1:=af ((oj.tc (B:=U (Q w)) ae).T o.2);let⟨X2,hN⟩:=aF X;rw[<-hN]at C2 T2 R2 B2 Z2 E i R t1;have k4:=C2.1 4 _ rfl;rw[i]at k4
 go_wp21
 rw[<-i];refine(cd9 e4 (aa HR X2 B2).2.2.1 ae).h ?_;rintro r w3⟨V,W,rfl,oj,m⟩;have x:=C2.H ae m;have TY:∃cur,w3.heap[U (Q w)]?=dO cur 69:=T2.imp λcur hc=>(m.block _ ae).Z hc;have RY:=R2.H ae m;let⟨X,i⟩:=aF (jS w3 (Aw w 4) (.S V s W));have Sq:∃cur,w3.heap[U (Q w)+1]?=dO cur 69:=E.imp λcur hc=>(m.block _ ae).Z hc;have E:O (∃cur,X.heap[U (Q w)+1]?=dO cur 69):=by rw[i];exact af (Sq.imp λcur hc=>(fN _ _ _ _ (by show U (Q w)+1≠U (Q w);omega)).Z hc)
 have o:=qn (j:=4) (u:=.S V s W) TY;rw[<-i]at o;have kj:=x.1 4 _ rfl;have kf:=x.2 4;have zj:=m.size;have Z3:U (Q w)+1+1<=U (Q X):=by rw[i];simp;omega
 have C3:O (aO X (U (Q w)) [.S y n0 D,.S M n1 N,.U nd.D,.I nd.M,.S V s W,.U nd.P,.U nd.F,.S p7 q c7]):=i▸af (x.dt 4 ai _);have T3:=af o.1;have R3:O (aO X (U (Q w)+1) [aq,aq,.U 0,.I 0,aq,.U 0,.U 0,aq]):=by rw[i];exact af (RY.nS (a:=(Aw w 4)) (by show U (Q w)+1≠U (Q w);omega) _)
 have B3:O (Bw w X):=by rw[i];exact af ((ah (aa B2) m).setCell (p:=(Aw w 4)) az _)
 have R:=af (((R.T (bH m)).T o.2));have t1:=af (((t1.T (bH m)).T o.2));have t4:=af ((oj.tu (B':=U (Q w)) ae).T o.2);let⟨X3,hN⟩:=aF X;rw[<-hN]at C3 T3 R3 B3 Z3 E i R t1 t4;have k7:=C3.1 7 _ rfl;rw[i]at k7
 go_wp21
 rw[<-i];refine(cd9 e7 (aa HR X3 B3).2.2.2 ae).h ?_;rintro r w4⟨Z,d7,rfl,oj,m⟩;have x:=C3.H ae m;have TY:∃cur,w4.heap[U (Q w)]?=dO cur 69:=T3.imp λcur hc=>(m.block _ ae).Z hc;have RY:=R3.H ae m;let⟨X,i⟩:=aF (jS w4 (Aw w 7) (.S Z q d7));have Sq:∃cur,w4.heap[U (Q w)+1]?=dO cur 69:=E.imp λcur hc=>(m.block _ ae).Z hc;have E:O (∃cur,X.heap[U (Q w)+1]?=dO cur 69):=by rw[i];exact af (Sq.imp λcur hc=>(fN _ _ _ _ (by show U (Q w)+1≠U (Q w);omega)).Z hc)
 have o:=qn (j:=7) (u:=.S Z q d7) TY;rw[<-i]at o;have kj:=x.1 7 _ rfl;have kf:=x.2 7;have zj:=m.size;have Z4:U (Q w)+1+1<=U (Q X):=by rw[i];simp;omega
 have C4:O (aO X (U (Q w)) [.S y n0 D,.S M n1 N,.U nd.D,.I nd.M,.S V s W,.U nd.P,.U nd.F,.S Z q d7]):=i▸af (x.dt 7 ai _);have T4:=af o.1;have R4:O (aO X (U (Q w)+1) [aq,aq,.U 0,.I 0,aq,.U 0,.U 0,aq]):=by rw[i];exact af (RY.nS (a:=(Aw w 7)) (by show U (Q w)+1≠U (Q w);omega) _)
 have B4:O (Bw w X):=by rw[i];exact af ((ah (aa B3) m).setCell (p:=(Aw w 7)) az _)
 have R:=af (((R.T (bH m)).T o.2));have t1:=af (((t1.T (bH m)).T o.2));have t4:=af (((t4.T (bH m)).T o.2));have t7:=af ((oj.tu (B':=U (Q w)) ae).T o.2);let⟨X4,hN⟩:=aF X;rw[<-hN]at C4 T4 R4 B4 Z4 E i R t1 t4 t7;obtain⟨s0,s1,s2,s3,s4,s5,s6,s7,sf⟩:_/\_/\_/\_/\_/\_/\_/\_/\_:=⟨C4.1 0 _ rfl,C4.1 1 _ rfl,C4.1 2 _ rfl,C4.1 3 _ rfl,C4.1 4 _ rfl,C4.1 5 _ rfl,C4.1 6 _ rfl,C4.1 7 _ rfl,C4.2⟩;obtain⟨r0,r1,r2,r3,r4,r5,r6,r7,rf⟩:_/\_/\_/\_/\_/\_/\_/\_/\_:=⟨R4.1 0 _ rfl,R4.1 1 _ rfl,R4.1 2 _ rfl,R4.1 3 _ rfl,R4.1 4 _ rfl,R4.1 5 _ rfl,R4.1 6 _ rfl,R4.1 7 _ rfl,R4.2⟩;rw[i]at s0 s1 s2 s3 s4 s5 s6 s7 sf r0 r1 r2 r3 r4 r5 r6 r7 rf;go_wp2;rw[<-i]at*;have bF:=uV (w:=X4) (b:=U (Q w)+1) (v0:=.S y n0 D) (v1:=.S M n1 N) (v2:=.U nd.D) (v3:=.I nd.M) (v4:=.S V s W) (v5:=.U nd.P) (v6:=.U nd.F) (v7:=.S Z q d7);obtain⟨-,fF⟩:=bU2 (v0:=.S y n0 D) (v1:=.S M n1 N) (v2:=.U nd.D) (v3:=.I nd.M) (v4:=.S V s W) (v5:=.U nd.P) (v6:=.U nd.F) (v7:=.S Z q d7) E;refine bO (v:=Ka (.S y n0 D) (.S M n1 N) nd.D nd.M (.S V s W) nd.P nd.F (.S Z q d7)) (by simp[results,results117,go_sem,r0,r1,r2,r3,r4,r5,r6,r7]) rfl ?_;exact⟨y,D,M,N,V,W,Z,d7,rfl,R.T fF,t1.T fF,t4.T fF,t7.T fF,B4.Z (bF.h ae)⟩
theorem vo.get(h:vo w (.S p n c) es){e:Ev}(j:es[i]?=e):∃b o u,p=(Ad b o)/\I w (Ad b (o+i*2))=dI e.1/\I w (Ad b (o+i*2+1))=Y u/\Rd w u e.2:=by
 obtain⟨D,E,m,q⟩:=h;simp only[ti]at m;obtain⟨rfl,-,rfl⟩:=m;obtain B|⟨b,o,rfl,r⟩:=q;{rw[B]at j;simp at j};{let⟨y,u,x,s⟩:=r i e j;exact⟨b,o,u,rfl,y,x,s⟩}
theorem eh9{iZ:List Ev}(en:Le iZ n)(h:vo w (.S p n c) iZ)(hn:Mg n)(hbq:O (∀e∈iZ,J e.2<=2^20)):dQ dG 116 #[.S p n c] w λr w'=>∃p' c',r=dR (.S p' n c')/\oO (U (Q w)) w' (.S p' n c') iZ/\Bw w w':=by
 let⟨ie,UX,ki,fy,gJ⟩:=og Tryz.infoEv;have X:=jq UX ki fy gJ;have HR:=af λ(w':G)(hb:Bw w w')=>h.H hb;go_in;go_wp2
 go_loopw[3,4](λov iv wr=>∃(k:Nat)(M:List Ev)(po:OA)(co:Nat),k<=n/\iv=.I k/\ov=.S po k co/\Le M k/\O (jT k iZ=M)/\O (oO (U (Q w)) wr (.S po k co) M)/\O (Bw w wr)) (λ_ iv _=>n-(jN (intOf iv)))
 exact⟨0,[],dN,0,cT _,rfl,rfl,rfl,(by show _=_;simp),RT.nil _ _ _ _ _,aR _ _⟩;{
 obtain⟨k,M,po,co,hk,rfl,rfl,eM,hM,hQ,q⟩:=hrel;have zr:=q.size;by_cases aL:k<n;{
 have cM:=bR k n;obtain⟨y,hy⟩:∃y,iZ[k]?=Y y:=⟨_,bN (aa en▸aL)⟩;have E1:=af (by rw[sE,hy,aa hM];rfl:jT (k+1) iZ=M++[y]);have hyl:=aa hbq y (bq hy);obtain⟨b,o,u,rfl,c0,c1,m⟩:=(aa HR w aH).get hy;obtain⟨D,W,rfl,Qg⟩:=m;have RU:=af (show Rd w (.S D (J y.2) W) y.2 from⟨D,W,rfl,Qg⟩);let⟨N,Jl⟩:=bL (J y.2);rw[aa Jl]at c1 RU hyl;have HC:=af (λ(v:G)(V:Bw w v)=>aD (aj c0 V) (aj c1 V))
 go_wp21
 let⟨vA,de⟩:=aF wr.drew;have cQ:=mW de;have BA:=af cQ;have BW:=λ(v:G)(V:Bw wr v)=>ah q V;refine fK (λw'=>I w' (Ad b (o+k*2))=dI y.1/\I w' (Ad b (o+k*2+1))=dS D N W) (de▸aa HC vA (BW vA cQ)) λhS=>?_;rw[<-de]at hS⊢;refine jh 0 1 2 3 4 5 6 7 hS ?_;refine gh 8 9 hS ?_;refine tn 10 hS ?_;refine ft 11 λKK hK=>?_;refine js (Dp Jl (RU.H (BW vA BA)) ae) ?_;rintro r v1⟨pa,ca,rfl,oa,me⟩;refine⟨_,rfl,?_⟩;have B1:=af (ah BA me);have OA:=af (oa.tc (B:=U (Q w)) (by have:=BA.size;have:=q.size;omega));refine bQ hK (by exact HC v1 (BW v1 B1)) λhS=>?_;refine tn 12 hS ?_;refine ft 13 λKK hK=>?_;go_simp;obtain⟨Z,hZ,bZ,zZ,CZ,-⟩:=bM v1 #[.I y.1,.S pa N ca] 114;rw[<-hZ];have B2:=af (ah B1 bZ);have yi:=af CZ;have TZ:=af (OA.T (bH bZ));have QZ:=af (oO.T hQ (bH B2));have z2:=B2.size;refine bQ hK (by exact HC Z (BW Z B2)) λhS=>?_;refine ft 14 λKK hK=>?_;refine aK4 aP aP ie 2 underlying41 X.1 X.2.1 X.2.2.1 X.2.2.2 rfl aX eM aP (aa QZ) (U (Q v1)) y (cs:=[.I y.1,.S pa N ca]) aP ⟨_,rfl,TZ⟩ rfl (λj u m=>yi.1 j u m) (λu m=>by simp at m;obtain rfl|rfl:=m<;>rfl) (λw' hf=>Lp.T hf aX) ae ae ae ?_;intro p' c' w9 Kt qA f9 _;have B9:=af ((q.Z (B2.h ae)).grown qA ae (λb' e=>(QZ.lt b' e).1));have Q9:=af Kt;have hS9:I w9 (Ad b (o+k*2))=dI y.1/\I w9 (Ad b (o+k*2+1))=dS D N W:=aa HC w9 B9;refine bQ hK (by exact hS9) λhS=>?_;refine tn 15 hS ?_;refine ga ?_;go_wp2;go_roundw;exact⟨k+1,M++[y],p',c',ae,by go_num,rfl,af (by rw[eG,aa eM];rfl),E1,Q9,B9⟩;exact dh};{have cM:=fG k n;obtain rfl:k=n:=ae;have e1:=aa hM;rw[od (by rw[aa en];omega)]at e1;subst e1;go_wp2;go_ret;exact⟨_,_,rfl,hQ,q⟩}}
variable {s:aC}
theorem ew.snoc{v':dV}{q:dV}(h:ew B w v ss Qs)(hf:Fr [65] w w')(V:oO B w q s.2.2)(E:∀(j:Nat)(r:dV)(b:Nat),Qs[j]?=Y r->jB r=Y b->jB q≠Y b)(hr:RT DE 65 3 B w' v' (ss.zip Qs++[(s,q)])):ew B w' v' (ss++[s]) (Qs++[q]):=by
 have u:=h.len;refine⟨by simp[u],by rw[List.zip_append u.C];exact hr,λi R r o hq=>?_,λi j N M b S hq m D=>?_⟩;{
 by_cases y:i<J ss;{rw[qw y]at o;rw[qw ae]at hq;exact(h.uT i R r o hq).T hf};{
 have W:i=J ss:=by have:=(bu.1 o).1;simp at this;omega
 subst W;rw[rG az,BQ]at o;rw[rG ae,u,BQ]at hq;simp at o hq;subst o hq;exact V.T hf}};{
 by_cases y:i<J Qs;{
 rw[qw y]at hq;by_cases x:j<J Qs;{rw[qw x]at m;exact h.nS i j N M b S hq m D};{
 rw[rG ae]at m;have e:j-(J Qs)=0:=by have:=(bu.1 m).1;simp at this;omega
 rw[e]at m;simp at m;subst m;exact E i N b hq D}};{
 rw[rG ae]at hq;have e:i-(J Qs)=0:=by have:=(bu.1 hq).1;simp at this;omega
 rw[e]at hq;simp at hq;subst hq;have x:j<J Qs:=by have:=(bu.1 m).1;simp at this;omega
 rw[qw x]at m;exactλX=>E j M b m X D}}
theorem ew.h(h:ew B w v ss Qs)(j:B'<=B):ew B' w v ss Qs:=⟨h.len,RT.h h.row j,λi s m o hq=>(h.uT i s m o hq).h j,h.nS⟩
theorem mX.get(h:mX w (jC p n c) ss)(j:ss[i]?=s):∃b o u,p=Y ⟨b,o,dN⟩/\I w ⟨b,o+i*3,dN⟩=Y (jK jU s.1)/\I w ⟨b,o+i*3+1,dN⟩=Y (jK jV s.2.1)/\I w ⟨b,o+i*3+2,dN⟩=Y u/\vo w u s.2.2:=by
 obtain⟨M,N,m,q⟩:=h;simp only[ti]at m;obtain⟨rfl,-,rfl⟩:=m;obtain E|⟨b,o,rfl,r⟩:=q;{rw[E]at j;simp at j};{let⟨D,B,u,y,x⟩:=r i s j;exact⟨b,o,u,rfl,D,B,y,x⟩}
def YB(w:G)(b:Nat)(st i:List dV):Prop:=BX w b st/\BX w (b+1) [jK jU 0,jK jU 0,jK jU 0,jK jV 0,jC dN 0 0,jC dN 0 0]/\BX w (b+1+1) i
theorem YB.T{T:List TypeId}{st out:List dV}(h:YB w b st out)(hf:Fr T w w')(ht:34∉T:=by decide):YB w' b st out:=⟨h.1.T hf ht,h.2.1.T hf ht,h.2.2.T hf ht⟩
theorem YB.set{st i:List dV}(h:YB w b st i)(j:Nat)(m:j<J i)(u:dV):YB (jS w ⟨b+1+1,j,dN⟩ u) b st (i.set j u)/\Fr [34] w (jS w ⟨b+1+1,j,dN⟩ u):=
 ⟨⟨h.1.WU ae,h.2.1.WU ae,h.2.2.1.dt j m u,(qn h.2.2.2).1⟩,(qn h.2.2.2).2⟩
variable {t:Int}
theorem aA0(en:Le ss n)(em:Le ns m)(h:mX w (jC p n c) ss)(hN:iy w (jC q m d) ns)(hn:Mg n)(hm:Mg m)(gy:O (∀s∈ss,J s.2.2<=2^20/\∀ev∈s.2.2,J ev.2<=2^20))(nO:O (∀nd∈ns,J nd.A<=2^20/\J nd.V<=2^20/\J nd.y<=2^20/\J nd.X<=2^20)):dQ dG 55 #[bS e g x t (jC p n c) (jC q m d)] w λr w'=>∃p' c' q' d',r=dR (bS e g x t (jC p' n c') (jC q' m d'))/\(∃Qs,ew (U (Q w)) w' (jC p' n c') ss Qs)/\kF (U (Q w)) w' (jC q' m d') ns/\Below (U (Q w)) w w':=by
 let⟨is,QD,xR,fh,xQ⟩:=og Tryz.infoSes;let⟨iN,hiN,AH,qz,xr⟩:=og Tryz.infoNod;have HI:=nF (aD QD (aD xR (aD fh xQ))) hiN AH qz xr;have HR:=br h hN;have HCG:=af (λ(vs:iA)(w:G)=>show(callFunc 117 vs).run dG w=.ok (.enter 117 vs) w by kernel_rfl);let⟨W0,bG,b0,z0,C0⟩:=sQ w (jK jU e) (jK jU g) (jK jU x) (jK jV t) (jC p n c) (jC q m d);let⟨W1,fo,b1,z1,C1⟩:=yY W0;let⟨W2,fM,b2,z2,C2⟩:=sQ W1 (jK jU e) (jK jU g) (jK jU x) (jK jV t) (jC dN 0 0) (jC dN 0 0);rw[z0]at C1 z1;rw[z1]at C2 z2;have Y2:=af (show YB W2 (U (Q w)) [jK jU e,jK jU g,jK jU x,jK jV t,jC p n c,jC q m d] [jK jU e,jK jU g,jK jU x,jK jV t,jC dN 0 0,jC dN 0 0]from⟨(C0.H b1).H b2,C1.H b2,C2⟩);have B2:=af (ah (ah b0 b1) b2);go_in
 go_wp21
 rw[<-bG,<-fo,<-fM]
 go_loopw[4](λiv wr=>∃(k:Nat)(M:List aC)(Qk:List dV)(po:OA)(co:Nat),k<=n/\iv=jK jV k/\Le M k/\O (jT k ss=M)/\O (YB wr (U (Q w)) [jK jU e,jK jU g,jK jU x,jK jV t,jC p n c,jC q m d] [jK jU e,jK jU g,jK jU x,jK jV t,jC po k co,jC dN 0 0])/\O (ew (U (Q w)+1+1+1) wr (jC po k co) M Qk)/\O (Bw w wr)/\O (U (Q w)+1+1+1<=U (Q wr))) (λiv _=>n-(jN (intOf iv)))
 exact⟨0,[],[],dN,0,cT _,rfl,rfl,(by show _=_;simp),Y2,ew.nil _ _,B2,(by show _<=_;omega)⟩;{
 obtain⟨k,M,Qk,po,co,hk,rfl,eM,hM,hY,AW,aB,Au⟩:=hrel;have zr:=aa Au;have k0:=hY.1.cells;by_cases aL:k<n;{
 have cM:=bR k n;obtain⟨s,hs⟩:∃s,ss[k]?=Y s:=⟨_,bN (aa en▸aL)⟩;have E1:=af (by rw[sE,hs,aa hM];rfl:jT (k+1) ss=M++[s]);let⟨IN,yK⟩:=aa gy s (bq hs);have SR:=af yK;obtain⟨b,o,u,rfl,c0,c1,c2,hu⟩:=mX.get HR.1 hs;obtain⟨pu,cu,rfl,Qg⟩:=hu;have RU:=af (show vo w (jC pu (J s.2.2) cu) s.2.2 from⟨pu,cu,rfl,Qg⟩);let⟨nu,Jl⟩:=bL (J s.2.2);rw[aa Jl]at c2 RU IN;have d0:=λ(ob:Obj)=>aj (aj c0 aB) ((aR (U (Q wr)) wr).alloc az ob);have d1:=λ(ob:Obj)=>aj (aj c1 aB) ((aR (U (Q wr)) wr).alloc az ob);have d2:=λ(ob:Obj)=>aj (aj c2 aB) ((aR (U (Q wr)) wr).alloc az ob);obtain⟨V1,ud,bv1,zv1,CV,-⟩:=bM wr #[jK jU s.1,jK jV s.2.1,jC pu nu cu] 65;have VC:=af CV;have BV:=af bv1;have i0:=aj c0 aB;have i1:=aj c1 aB;have i2:=aj c2 aB
 go_wp21
 rw[<-ud];let⟨V,de⟩:=aF V1.drew;have cQ:=mW de;have BA:=af (aR (U (Q V)) V);have W:=af (λ(v:G)(D:Bw V v)=>aD (aD (aj (VC.1 0 _ rfl) (ah cQ D)) (aD (aj (VC.1 1 _ rfl) (ah cQ D)) (aj (VC.1 2 _ rfl) (ah cQ D)))) (aD (YB.T hY (bH (ah (ah (aa BV) cQ) D)) ai) (aD (ew.T AW (bH (ah (ah (aa BV) cQ) D))) (aD (ah (aa aB) (ah (ah (aa BV) cQ) D)) (ah (ah (aa BV) cQ) D)))));have zA:=cQ.size;refine Xv ?_;refine bI5 13 (S:=λw'=>(I w' ⟨U (Q wr),0,dN⟩=Y (jK jU s.1)/\I w' ⟨U (Q wr),1,dN⟩=Y (jK jV s.2.1)/\I w' ⟨U (Q wr),2,dN⟩=Y (jC pu nu cu))/\I w' ⟨U (Q w)+1+1,4,dN⟩=Y (jC po k co)) (by rw[<-de];exact⟨(aa W V aH).1,(aa W V aH).2.1.2.2.1.1 4 _ rfl⟩) (λhS=>?_);rw[<-de]at hS⊢;refine tED 0 1 2 3 hS ?_;refine tED 4 5 6 7 hS ?_;refine CE 8 (λKK hK=>?_);refine js (eh9 Jl (RU.H (aa W V BA).2.2.2.1) IN SR) ?_;rintro r v1⟨pa,ca,rfl,oa,me⟩;refine⟨_,rfl,?_⟩;have B1:=af me;have OA:=af oa;have z1a:=me.size;refine Io hK ⟨(aa W v1 B1).1,(aa W v1 B1).2.1.2.2.1.1 4 _ rfl⟩ λhS=>?_;refine tEo 9 hS ?_;refine CE 10 (λKK hK=>?_);go_simp;obtain⟨Z,hZ,bZ,zZ,CZ,-⟩:=bM v1 #[jK jU s.1,jK jV s.2.1,jC pa nu ca] 65;rw[<-hZ];have B2:=af (ah B1 bZ);have yi:=af CZ;have TZ:=af (oO.T OA (bH bZ));refine Io hK ⟨(aa W Z B2).1,(aa W Z B2).2.1.2.2.1.1 4 _ rfl⟩ λhS=>?_;obtain⟨-,YZ,SZ,ZU,brZ⟩:=aa W Z B2;have zZ2:=B2.size;have hlz:J (M.zip Qk)=k:=by rw[Uk,SZ.len,aa eM];simp
 have H4:=jq YZ SZ ZU brZ;refine CE 11 (λKK hK=>?_);refine aK4 aP aP is 3 underlying31 HI.1.1 HI.1.2.1 HI.1.2.2.1 HI.1.2.2.2 rfl aX (af hlz) aP SZ.row (U (Q v1)) (s,jC pa nu ca) (cs:=[jK jU s.1,jK jV s.2.1,jC pa nu ca]) aP rfl rfl (λj u hu=>yi.1 j u hu) (λu hu=>by simp at hu;obtain rfl|rfl|rfl:=hu<;>rfl) (λw' hf x c hx=>hx) ae ae ae ?_;intro p' c' w9 Kt qA f9 _;have Jt:=af (YB.T H4.1 f9 aX);have S9:=af (ew.snoc H4.2.1 f9 (oO.h TZ ae:oO (U (Q w)+1+1+1) Z _ _) (λj Q' b' hq hb e2=>by have h1:=(TZ.lt b' e2).1;obtain⟨s',qK⟩:∃s',M[j]?=Y s':=⟨_,bN (AW.len▸(bu.1 hq).1)⟩;have h2:=((AW.uT j s' Q' qK hq).lt b' hb).2;omega) Kt)
 have B9:=af (H4.2.2.1.grown qA ae (λb' e=>aM (H4.2.1.row.lt b' e).1));have pW:∀b',jB (Value.slice po k co)=Y b'->b'≠U (Q wr):=λb' e=>by have:=(AW.row.lt b' e).2;omega
 have kX:=qA.block (U (Q wr)) ae (λe=>pW _ e.C rfl);have z9:=qA.size;refine Io hK ⟨⟨(gF kX _).Z hS.1.1,(gF kX _).Z hS.1.2.1,(gF kX _).Z hS.1.2.2⟩,Jt.2.2.1.1 4 _ rfl⟩ λhS=>?_;refine tEo 12 hS ?_;refine CE 13 (λKK hK=>?_);have y4:=Jt.2.2.1.1 4 _ rfl;have yf:=Jt.2.2.1.2;go_simp;let⟨Y10,OI⟩:=YB.set Jt 4 ai (jC p' (k+1) c');refine oGX hK (aH8 (Hf ?_));have JL:=jq Y10 (S9.T OI) (B9.setCell (p:=⟨U (Q w)+1+1,4,dN⟩) (by show U (Q w)<=U (Q w)+1+1;omega) (jC p' (k+1) c')) OI.1;go_wp2;go_roundw;exact⟨k+1,_,_,p',c',ae,by go_num,af (by rw[eG,aa eM];rfl),E1,JL.1,JL.2.1,JL.2.2.1,af (aM JL.2.2.2)⟩;exact dh};{
 have cM:=fG k n;obtain rfl:k=n:=ae;have e1:=aa hM;rw[od (by rw[aa en];omega)]at e1;subst e1
 go_wp21
 go_loopw[6](λiv Wy=>∃(j:Nat)(N:List au)(qo:OA)(dx:Nat),j<=m/\iv=jK jV j/\Le N j/\O (jT j ns=N)/\O (YB Wy (U (Q w)) [jK jU e,jK jU g,jK jU x,jK jV t,jC p k c,jC q m d] [jK jU e,jK jU g,jK jU x,jK jV t,jC po k co,jC qo j dx])/\O (ew (U (Q w)+1+1+1) Wy (jC po k co) ss Qk)/\O (di (U (Q w)) (U (Q w)+1+1+1) Wy (jC qo j dx) N)/\O (Bw w Wy)/\O (U (Q w)+1+1+1<=U (Q Wy))) (λiv _=>m-(jN (intOf iv)))
 exact⟨0,[],dN,0,cT _,rfl,rfl,(by show _=_;simp),hY,AW,RT.nil _ _ _ _ _,aB,Au⟩;{
 obtain⟨j,N,qo,dx,hj,rfl,eN,hNt,hY,AW,xX,aB,Au⟩:=hrel;have zr:=aa Au;have k0:=hY.1.cells;by_cases Ex:j<m;{
 have be1:=bR j m;obtain⟨nd,hx⟩:∃nd,ns[j]?=Y nd:=⟨_,bN (aa em▸Ex)⟩;have E1:=af (by rw[sE,hx,aa hNt];rfl:jT (j+1) ns=N++[nd]);let⟨l0,l1,l4,l7⟩:=aa nO nd (bq hx);obtain⟨b,o,rfl,X⟩:=HR.2.at (by rw[aa em];omega);let⟨P0,P1,P4,P7,X⟩:=X j nd hx;obtain⟨p0,VB,en0,-⟩:=id X.r0;obtain⟨p1,c1',uo,-⟩:=id X.r1;obtain⟨p4,c4',en4,-⟩:=id X.r4;obtain⟨p7,c7',en7,-⟩:=id X.r7;subst en0 uo en4 en7;let⟨n0,f0⟩:=bL (J nd.A);let⟨n1,f1⟩:=bL (J nd.V);let⟨n4,f4⟩:=bL (J nd.y);let⟨n7,f7⟩:=bL (J nd.X);rw[aa f0,aa f1,aa f4,aa f7]at X;rw[aa f0]at l0;rw[aa f1]at l1;rw[aa f4]at l4;rw[aa f7]at l7;have SS:=af (λ(v:G)(out:List dV)(hy:YB v (U (Q w)) [jK jU e,jK jU g,jK jU x,jK jV t,jC p k c,jC (Y ⟨b,o,dN⟩) m d] out)(D:Bw w v)=>aD (hy.1.1.1 5 _ rfl) (aD (aj X.c0 D) (aD (aj X.c1 D) (aD (aj X.c2 D) (aD (aj X.c3 D) (aD (aj X.c4 D) (aD (aj X.c5 D) (aD (aj X.c6 D) (aj X.c7 D)))))))));have HRd:=af (λ(v:G)(D:Bw w v)=>aD (X.r0.H D) (aD (X.r1.H D) (aD (X.r4.H D) (X.r7.H D))))
 go_wp21
 let⟨V,de⟩:=aF wr.drew;have cQ:=mW de;have BA:=af (aR (U (Q V)) V);have W:=af (λ(v:G)(D:Bw V v)=>aD (aa SS v _ (YB.T hY (bH (ah cQ D)) ai) (ah (aa aB) (ah cQ D))) (aD (YB.T hY (bH (ah cQ D)) ai) (aD (ew.T AW (bH (ah cQ D))) (aD (di.T xX (bH (ah cQ D))) (ah (aa aB) (ah cQ D))))));have zA:=cQ.size;refine Xv ?_;refine bI5 11 (S:=λw'=>(I w' ⟨U (Q w),5,dN⟩=Y (jC (Y ⟨b,o,dN⟩) m d)/\I w' ⟨b,o+j*8,dN⟩=Y (jC p0 n0 VB)/\I w' ⟨b,o+j*8+1,dN⟩=Y (jC p1 n1 c1')/\I w' ⟨b,o+j*8+2,dN⟩=Y (jK jU nd.D)/\I w' ⟨b,o+j*8+3,dN⟩=Y (jK jV nd.M)/\I w' ⟨b,o+j*8+4,dN⟩=Y (jC p4 n4 c4')/\I w' ⟨b,o+j*8+5,dN⟩=Y (jK jU nd.P)/\I w' ⟨b,o+j*8+6,dN⟩=Y (jK jU nd.F)/\I w' ⟨b,o+j*8+7,dN⟩=Y (jC p7 n7 c7'))/\I w' ⟨U (Q w)+1+1,5,dN⟩=Y (jC qo j dx)) (by rw[<-de];exact⟨(aa W V aH).1,(aa W V aH).2.1.2.2.1.1 5 _ rfl⟩) (λhS=>?_);rw[<-de]at hS⊢;refine tED 0 1 2 3 hS ?_;refine tEn 4 hS ?_;refine tEn 5 hS ?_;refine tEn 6 hS ?_;refine CE 7 (λKK hK=>?_);refine Ic aP aP aP (λ_=>aa HCG _ _) (eu4 f0 f1 f4 f7 (aa HRd V (aa W V BA).2.2.2.2).1 (aa HRd V (aa W V BA).2.2.2.2).2.1 (aa HRd V (aa W V BA).2.2.2.2).2.2.1 (aa HRd V (aa W V BA).2.2.2.2).2.2.2 l0 l1 l4 l7) ?_;rintro r v1⟨q0,d0,q1,d1,q4,d4,q7,d7,rfl,t0,t1,t4,t7,me⟩;refine⟨_,rfl,?_⟩;have B1:=af me;have OA:=jq (t0.h (B':=U (Q w)) (by have:=aB.size;have:=BA.size;omega)) (t1.h (B':=U (Q w)) (by have:=aB.size;have:=BA.size;omega)) (t4.h (B':=U (Q w)) (by have:=aB.size;have:=BA.size;omega)) (t7.h (B':=U (Q w)) (by have:=aB.size;have:=BA.size;omega));have z1a:=me.size;refine Io hK ⟨(aa W v1 B1).1,(aa W v1 B1).2.1.2.2.1.1 5 _ rfl⟩ λhS=>?_;refine CE 8 (λKK hK=>?_);go_simp;obtain⟨Z,hZ,bZ,zZ,CZ,-⟩:=bM v1 #[jC q0 n0 d0,jC q1 n1 d1,jK jU nd.D,jK jV nd.M,jC q4 n4 d4,jK jU nd.P,jK jU nd.F,jC q7 n7 d7] 69;rw[<-hZ];have B2:=af (ah B1 bZ);have yi:=af CZ;have TZ:=jq (OA.1.T (bH bZ)) (OA.2.1.T (bH bZ)) (OA.2.2.1.T (bH bZ)) (OA.2.2.2.T (bH bZ));refine Io hK ⟨(aa W Z B2).1,(aa W Z B2).2.1.2.2.1.1 5 _ rfl⟩ λhS=>?_;obtain⟨-,YZ,SZ,NZ,ZU⟩:=aa W Z B2;have zZ2:=B2.size;have H4:=jq YZ SZ NZ ZU;refine CE 9 (λKK hK=>?_);refine aK4 aP aP iN 8 underlying32 HI.2.1 HI.2.2.1 HI.2.2.2.1 HI.2.2.2.2 rfl aX eN aP NZ (U (Q v1)) nd (cs:=[jC q0 n0 d0,jC q1 n1 d1,jK jU nd.D,jK jV nd.M,jC q4 n4 d4,jK jU nd.P,jK jU nd.F,jC q7 n7 d7]) aP ⟨_,_,_,_,rfl,TZ.1,TZ.2.1,TZ.2.2.1,TZ.2.2.2⟩ rfl (λj u hu=>yi.1 j u hu) (λu hu=>by simp at hu;obtain rfl|rfl|rfl|rfl|rfl|rfl|rfl|rfl:=hu<;>rfl) (λw' hf=>yW.T hf aX aX) ae ae ae ?_;intro p' c' w9 Kt qA f9 _;have Jt:=af (YB.T H4.1 f9 aX);have S9:=br (H4.2.1.T f9) Kt;have B9:=af (H4.2.2.2.grown qA ae (λb' e=>aM (H4.2.2.1.lt b' e).1));have z9:=qA.size;refine Io hK ⟨SS w9 _ Jt B9,Jt.2.2.1.1 5 _ rfl⟩ λhS=>?_;refine tEo 10 hS ?_;refine CE 11 (λKK hK=>?_);have y4:=Jt.2.2.1.1 5 _ rfl;have yf:=Jt.2.2.1.2;go_simp;let⟨Y10,OI⟩:=YB.set Jt 5 ai (jC p' (j+1) c');have JL:=nF Y10 (S9.1.T OI) (di.T S9.2 OI) (B9.setCell (p:=⟨U (Q w)+1+1,5,dN⟩) (by show U (Q w)<=U (Q w)+1+1;omega) (jC p' (j+1) c')) OI.1;refine oGX hK (aH8 (Hf ?_));go_wp2;go_roundw;exact⟨j+1,_,p',c',ae,by go_num,af (by rw[eG,aa eN];rfl),E1,JL.1,JL.2.1,JL.2.2.1,JL.2.2.2.1,af (aM JL.2.2.2.2)⟩;exact dh};{
 have be1:=fG j m;obtain rfl:j=m:=ae;have e2:=aa hNt;rw[od (by rw[aa em];omega)]at e2;subst e2;let⟨y0,y1,y2,y3,y4,y5,yf⟩:=hY.2.2.cells;let⟨r0,r1,r2,r3,r4,r5,rf⟩:=hY.2.1.cells;have hb:=sY (w:=wr) (U (Q w)+1) (jK jU e) (jK jU g) (jK jU x) (jK jV t) (jC po k co) (jC qo j dx);have hf:Fr [34] wr (fv wr (U (Q w)+1) (jK jU e) (jK jU g) (jK jU x) (jK jV t) (jC po k co) (jC qo j dx)):=by obtain⟨-,cur,ht⟩:=hY.2.1;exact vu ht
 have HF:=br hb hf;go_wp2;refine bO (v:=bS e g x t (jC po k co) (jC qo j dx)) (by simp[results,results55,go_sem,r0,r1,r2,r3,r4,r5]) rfl ?_;exact⟨po,co,qo,dx,rfl,⟨Qk,(AW.T HF.2).h ae⟩,RT.h (di.T xX HF.2) ae,aB.Z (HF.1.h ae)⟩}}}}
theorem PS.eE2{SB NB HB UB:iN}(h:PS w0 w b bs bn D SB NB HB UB)(hE:PE w0 w gN s)(AG:gN∉SB)(hid:∀s'∈D.E,s'.1≠s.1)(iO:One w0 w w' bs)(hl:J D.E<2^20)(hM:∀M,jM w dG 24 iB bs (J D.E) M->jM w' dG 24 iB bs (J D.E+1) (M.put (.U s.1) (.lit (.I gN)))):PS w0 w' b bs bn {D with E:=D.E++[s]} (SB++[gN]) NB HB UB:=by
 let⟨d0,d1,d2,d3,d4,d5⟩:=h.hu;let⟨M,n,o,hn,m,hz⟩:=h.uy;let⟨es0,c0,m0⟩:=ownsMap_at o;have nc:∀{y:Nat}{cs:iA}{ty:TypeId},w.heap[y]?=dO cs ty->y≠bs:=λ{y cs ty}hy e=>by rw[e,m0]at hy;cases hy
 have iT:∀p∈jZ (λ(s:aC)g=>(Lit.U s.1,g)) D.E SB,p.1≠.U s.1:=λp hp e=>by obtain⟨i,s',y,h1,-,rfl⟩:=yv hp;exact hid s' (bq h1) (by simpa using e)
 have o':=Il o;rw[hz]at o';refine⟨h.be.Z iO.b,iO.obj h.hd (nc h.hd),by simp[h.vw],⟨_,_,hM M o',ae,?_,?_⟩,λj s1 g1 fh dw=>?_,?_,h.xi,h.hlen,h.xE,?_,λj gS gb h1 u1 fh dw qZ kW=>?_,h.FM,h.lo,h.wu⟩;{rw[aU1 h.vw.C];exact m.put o.isMap (k:=.U s.1) gQ iT gN};{
 have hh:Maps.has M (.U s.1)=dF:=by rw[Eh];intro e;let⟨p,hp,e2⟩:=(m.hs _).1 e;exact iT p hp e2
 rw[size_put (ak8 o mT),hh];simp[hz]};{
 have aL:j<J D.E\/j=J D.E:=by have:=(bu.1 fh).1;simp at this;omega
 obtain aL|rfl:=aL;{simp only[qw aL]at fh;rw[qw (h.vw▸aL)]at dw;have q:=h.vx j s1 g1 fh dw;obtain⟨-,u,h1,-⟩:=id q;exact q.W iO (nc h1)};{simp at fh;rw[<-h.vw]at dw;simp at dw;subst fh;subst dw;obtain⟨-,u,h1,-⟩:=id hE;exact hE.W iO (nc h1)}};{rw[Ek];refine⟨h.snd,ai,λa ha c hc=>?_⟩;simp at hc;subst hc;exactλe=>AG (e▸ha)};{let⟨M,n,o,r⟩:=h.qH;exact⟨M,n,iO.map o (λe=>d0 e.C),r⟩};{have q:=h.rE j gS gb h1 u1 fh dw qZ kW;obtain⟨-,⟨V,q1,-⟩,p3,p4⟩:=id q;exact q.W iO (nc q1) (d1 _ (bq qZ)).1 (d2 _ (bq kW)).1}
theorem du7{SB NB HB UB:iN}(h:O (PS w0 w b bs bn D SB NB HB UB))(hx:0<=D.x/\D.x<2^62)(ht:0<=D.t/\D.t<=1000000)(AG:O (∀s'∈D.E,s'.1≠D.x+1))(hl:O (J D.E<2^20)):dQ dG 294 #[jP #[],Pz b] w λr w'=>∃gN,vt w0 w b bs bn {D with x:=D.x+1,E:=D.E++[(D.x+1,D.t+10,[])]} (SB++[gN]) NB HB UB {ka with i:=D.x+1,n:=D.t+10} r w':=by
 let⟨X,iY,hX,hY,bY,zX,zY,BX,RY⟩:=ZW w #[] 256;have Oj:=af RY;have wW:=h.be.size;obtain⟨-,-,h2,-,-,-,hf⟩:=h.nM;have bl:b<U (Q w):=gD h.hd;have k2:=λ(o1 o2:Obj)=>aj h2 (((aR (U (Q w)) w).alloc az o1).alloc ai o2);have kf:=λ(o1 o2:Obj)(o:Nat)=>((((aR (U (Q w)) w).alloc az o1).alloc ai o2).frozen (p:=(Ad b o)) bl).Z (hf o);clear RY BX h2 hf bl;go_in
 go_wp21
 rw[<-hX,<-hY];have PY:=af (h.H bY);let⟨Z,hZ⟩:=aF (jS iY (Ad b 2) (.U (D.x+1)));rw[<-hZ];have uE:Z.heap[b]?=dO #[.U D.e,.U D.g,.U (D.x+1),.I D.t,.map bs,.map bn] 135:=by rw[hZ];simp[World.setCell,yD,PY.hd]
 have iO:=One.FB PY.be (by rw[hZ];exact aH.setCell (p:=(Ad b 2)) az _:Below b iY Z) PY.hd PY.lo.1 ai (λz _ aN=>by rw[hZ];exact fN _ _ _ _ (show z≠_ from aN));have PZ:=af (PY.ag7 iO D.e D.g (D.x+1) D.t uE);have FZ:=af iO.T;refine Aa 10 aU (λW eW=>?_);have bW:=mW eW;have PW:=af (PZ.H bW);have FW:=af (FZ.Z (Fr.H (T:=T3) bW));obtain⟨-,-,q2,q3,-⟩:=PW.nM;clear eW bW PZ FZ;simp only[An,uD,yE,vG]
 repeat still_step
 refine rJ ?_;obtain⟨V,hV,bV,zV,-,gV⟩:=bM W #[.U (D.x+1),.I (D.t+10),aq] 65
 go_wp21
 rw[<-hV];clear hV q2 q3;have PV:=af (PW.H bV);have FV:=af (FW.Z (Fr.H (T:=T3) bV));let⟨gN,eN⟩:=aF (U (Q W));rw[<-eN]at gV⊢;have hnS:gN∉SB:=λe=>by let⟨i,hi⟩:=ji.1 e;obtain⟨s',qK⟩:∃s',D.E[i]?=Y s':=⟨_,bN (by have:=PW.vw;simp only at this;rw[<-this];exact(bu.1 hi).1)⟩;obtain⟨-,u,hu,-⟩:=PW.vx i s' gN qK hi;have:=gD hu;omega
 have glo:U (Q w0)<=gN:=aM PW.be.size;have HN:=br hnS glo;have GV:=af gV;clear hnS eN PW FW gV;refine Aa 9 aU (λW2 Ny=>?_);have Sd:=mW Ny;have Fi:=af (PV.H Sd);have JM:=af (FV.Z (Fr.H (T:=T3) Sd));obtain⟨-,-,-,-,q4,-⟩:=Fi.nM;have Zy:=(Sd.block gN (gD GV)).Z GV;have g0:=cX Zy 0;have fe:=keyOf_int_mk underlying24 (DZ (i:=D.x+1) ae);let⟨M,n,o,hn,m,hz⟩:=Fi.uy;have o':=Il o;rw[hz]at o';let⟨iU,fW,ho,qN⟩:=o'.update mT underlying132 (by have:=aa hl;show J D.E<_;unfold maxLen;omega) fe (Ub gN);have O2:=One.Ec Fi.be qN Fi.lo.2.1 (ownsMap_at o');have PU:=af (Fi.eE2 (s:=(D.x+1,D.t+10,[])) (gN:=gN) ⟨HN.2,_,Zy,AQ.nil _ _⟩ HN.1 AG O2 hl (λM' o1=>by obtain⟨U',MK,yL,-⟩:=o1.update mT underlying132 (by have:=aa hl;show J D.E<_;unfold maxLen;omega) fe (Ub gN);rw[fW]at MK;cases MK;exact yL))
 have FU:=af (JM.Z O2.T);have aN:gN≠bs:=λe=>by let⟨es,c,hm⟩:=ownsMap_at o;rw[<-e,Zy]at hm;cases hm
 have GU:=af (O2.obj Zy aN);clear Ny Sd Zy o o' m hz ho qN O2 PV FV aN;simp only[An,uD,yE,vG]
 repeat still_step
 refine rJ ?_
 go_wp21
 clear fW g0 q4 Fi JM;refine Aa 9 aU (λW3 eW3=>?_);have bU:=mW eW3;have P3:=af (PU.H bU);have F3:=FU.Z (Fr.H (T:=T3) bU);have gW3:=(bU.block gN (gD GU)).Z GU;have g0:=cX gW3 0;have g1:=cX gW3 1;have R3:=Oj.T F3;have r0:=R3.cells;have F3':=af ((Fr.H (T:=T3) bY).Z F3);have R3':=af R3;clear eW3 bU gW3 R3 F3;simp only[An,uD,yE,vG]
 repeat still_step
 refine rJ ?_;go_wp2;exact Xb R3' aU rfl rfl ⟨gN,PS.rep P3 R3' ae _ _ _ _ _ _ _ _,F3'.low ((uV).h ae),rfl⟩
structure CI(ss:List aC)(ns:List au):Prop where
 so:sS ss
 nt:∀nd∈ns,NT ss nd/\nd.y.Pairwise (·<·)/\J nd.y<=2^20
 kd:KD ns
theorem NT.ids(h:NT ss nd)(o:ss'.map (·.1)=ss.map (·.1)):NT ss' nd:=
 ⟨h.VE,h.pl,h.ON,h.O0,λi q=>by let⟨j,s,m,e⟩:=bZ4 o (h.Tr i q);exact⟨s,bq m,e⟩⟩
theorem sS.tell(ev:Ev):∀(ids:LI){ss:List aC},sS ss->sS (wX ss ids ev)
 |[],ss,h=>h
 |a::r,ss,h=>sS.tell ev r (h.aw7 a ev)
theorem KD.erase(h:KD ns)(k:Nat):KD (jX ns k):=λi j a c m hc e=>by
 rw[aT4]at m hc;by_cases q:i<k<;>by_cases o:j<k
 {rw[aK q]at m;rw[aK o]at hc;exact h i j a c m hc e};{rw[aK q]at m;rw[aJ o]at hc;have:=h i (j+1) a c m hc e;omega};{rw[aJ q]at m;rw[aK o]at hc;have:=h (i+1) j a c m hc e;omega};{rw[aJ q]at m;rw[aJ o]at hc;have:=h (i+1) (j+1) a c m hc e;omega}
theorem KD.paths(h:KD ns)(r:ns'.map (·.A)=ns.map (·.A)):KD ns':=λi j a c q hc e=>by
 have key:∀(i:Nat)(a:au),ns'[i]?=Y a->∃o,ns[i]?=Y o/\o.A=a.A:=λi a q=>by
  have m:(ns'.map (·.A))[i]?=a.A:=by rw[qI,q];rfl
  rw[r,qI]at m;cases hn:ns[i]? with
  |none=>rw[hn]at m;cases m
  |some o=>rw[hn]at m;exact⟨o,rfl,by simpa using m⟩
 let⟨o,m,x⟩:=key i a q;let⟨y,s,u⟩:=key j c hc;exact h i j o y m s (by rw[x,u,e])
theorem TI(j:ns[k]?=nd)(i:nd'.A=nd.A):(ns.set k nd').map (·.A)=ns.map (·.A):=by
 rw[aV7,i];exact Pe (by rw[qI,j];rfl)
theorem CI.cw(h:CI ss ns)(id:Int):CI ss (ns.map (sP id)):=by
 refine⟨h.so,λu s=>?_,h.kd.paths (by rw[sA];rfl)⟩;obtain⟨y,m,rfl⟩:=fg.1 s;let⟨j,r,q⟩:=h.nt y m;exact⟨⟨j.VE,j.pl,Ma j.ON,fx (Mb) j.O0,λi o=>j.Tr i (Ia.1 o).1⟩,r,q⟩
theorem CI.set(h:CI ss ns)(y:ns[k]?=nd)(B:sS ss')(m:ss'.map (·.1)=ss.map (·.1))(s:nd'.A=nd.A)(r:nd'.X=nd.X\/nd'.X=[])(D:nd'.y.Pairwise (·<·)/\J nd'.y<=2^20):CI ss' (ns.set k nd'):=by
 refine⟨B,λx q=>?_,h.kd.paths (TI y s)⟩;obtain q|rfl:=PF q;{let⟨j,E⟩:=h.nt x q;exact⟨j.ids m,E⟩};{
 obtain⟨j,-⟩:=h.nt nd (bq y);refine⟨NT.ids ⟨by rw[s];exact j.VE,by rw[s];exact j.pl,?_,?_,?_⟩ m,D⟩;{
 obtain e|e:=r<;>rw[e]
 {exact j.ON};{exact List.Pairwise.nil}};{
 obtain e|e:=r<;>rw[e]
 {exact j.O0};{simp}};{
 obtain e|e:=r<;>rw[e]
 {exact j.Tr};{intro i m;cases m}}}
theorem CI.tell(h:CI D.E D.N)(hk:D.N[k]?=nd)(kd:Int):CI (kr D k kd).E (kr D k kd).N/\(kr D k kd).N.map (·.A)=D.N.map (·.A)/\(kr D k kd).E.map (·.1)=D.E.map (·.1)/\(kr D k kd).N[k]?=Y {nd with X:=[]}:=by
 unfold kr;rw[hk];refine⟨h.set hk (sS.tell _ _ h.so) (WH _ _ _) rfl (.R rfl) (h.nt nd (bq hk)).2,TI hk rfl,WH _ _ _,uM hk _⟩
theorem CI.drop(h:CI D.E D.N)(hk:D.N[k]?=nd)(id:Int):CI (ko D k id).E (ko D k id).N/\(ko D k id).N.map (·.A)=D.N.map (·.A)/\(ko D k id).E.map (·.1)=D.E.map (·.1)/\∃i,(ko D k id).N[k]?=Y i/\i.D=nd.D/\i.A=nd.A:=by
 unfold ko;rw[hk];let⟨B,y,x⟩:=h.nt nd (bq hk);by_cases hc:nd.y.contains id=dY;{
 simp only[hc,pQ];by_cases he:kG nd.y id=[];{
 simp only[he,pQ];have s:=uM hk {nd with y:=[],M:=0,P:=0,F:=0}
 let⟨r,q,m,j⟩:=CI.tell (D:={D with N:=D.N.set k {nd with y:=[],M:=0,P:=0,F:=0}}) (h.set hk h.so rfl rfl (.L rfl) ⟨List.Pairwise.nil,ai⟩) s 3;exact⟨r,q.Z (TI hk rfl),m,_,j,rfl,rfl⟩};{
 simp only[he,Ap];refine⟨h.set hk h.so rfl rfl (.L rfl) ⟨Ma y,fx (Mb) x⟩,TI hk rfl,?_,_,uM hk _,rfl,rfl⟩
 first|trivial|rfl}}
 {simp only[hc];exact⟨h,rfl,rfl,nd,hk,rfl,rfl⟩}
theorem CI.rm(h:CI D.E D.N)(k:Nat):CI (wY D k).E (wY D k).N:=⟨h.so,λi j=>h.nt i (Ms j),h.kd.erase k⟩
theorem cC2{α:Type}{l:List α}(i:k<J l):jD k (jX l k)=jD (k+1) l:=by
 rw[List.eraseIdx_eq_take_drop_succ,List.drop_append,List.drop_take];simp[show min k (J l)=k by omega]
theorem dx6(h:sS ss)(m:ss[i]?=s):Dc s.1 ss=jX ss i:=by
 have X:∀(j:Nat)(z:aC),ss[j]?=Y z->z.1=s.1->j=i:=λj z x e=>by have S:=FO.1 h.pw;let⟨R,M⟩:=bu.1 m;let⟨N,E⟩:=bu.1 x;obtain B|B|B:=Mz i j;{have:=S i j R N B;rw[M,E]at this;omega};{exact B.C};{have:=S j i N R B;rw[M,E]at this;omega}
 have key:∀(l:List aC)(i:Nat),l[i]?=s->(∀(j:Nat)(z:aC),l[j]?=Y z->z.1=s.1->j=i)->Dc s.1 l=jX l i:=by
  intro l
  induction l with
  |nil=>intro i m;simp at m
  | cons y r ih=>
   intro i m D;cases i with
   |zero=>
    simp at m;subst m;rw[List.eraseIdx_cons_zero,Dc,List.filter_cons,aJ ai,List.filter_eq_self.2];intro z V;let⟨j,x⟩:=ji.1 V;have:=D (j+1) z (by simpa using x);by_cases e:z.1=y.1;{have:=this e;omega};{simp[e]}
   |succ i=>
    have W:¬y.1=s.1:=λe=>aM (D 0 y ai e);rw[List.eraseIdx_cons_succ,Dc,List.filter_cons,aK (by simp[W]),<-Dc,ih i (by simpa using m) (λj z x e=>aM (D (j+1) z (by simpa using x) e))]
 exact key ss i m X
def CF(f:au->au)(left:Lit->Bool)(ns:List au):List au:=ns.map λs=>if left (dr s.A)then s else f s
variable {f:au->au}
theorem bK4(h:∀s∈ns,left (dr s.A)):CF f left ns=ns:=by
 unfold CF;rw[My (g:=id) (λs i=>by rw[aK (h s i)];rfl),aV5]
theorem bK5(h:∀k,left k=dF):CF f left ns=ns.map f:=by
 unfold CF;exact My λs _=>by rw[aJ (by rw[h];simp)]
variable {s:au}
theorem bK6{ss:List au}(j:ss[i]?=s)(hl:left (dr s.A)):(CF f left ss)[i]?=s:=by
 unfold CF;rw[qI,j,Iv,aK hl]
theorem bK3(hd:KD ns)(m:ns[i]?=s):(CF f left ns).set i (f s)=CF f (λz=>left z&&!z.sameKey (dr s.A)) ns:=by
 refine XK λj=>?_;unfold CF;rw[vJ,qI,qI,iH];by_cases q:i=j;{subst q;have o:(dr s.A).sameKey (dr s.A):=an2 (by unfold dr;trivial);rw[aK rfl,aK (bu.1 m).1,m];simp[o]};{
 rw[aJ q];cases hj:ns[j]? with
 |none=>rfl
 |some z=>
  have r:dr z.A≠dr s.A:=λe=>q (hd i j s z m hj e.C);simp[sameKey_ne r]}
theorem PS.iter{SB NB HB UB:iN}(h:PS w0 w b bs bn D SB NB HB UB)(iO:One w0 w w' z)(n1:∀cs ty,w.heap[z]?≠Y (dO cs ty))(n2:∀es c,w.heap[z]?≠Y (.map es c)):PS w0 w' b bs bn D SB NB HB UB:=by
 have m:∀{y:Nat}{cs:iA}{ty:TypeId},w.heap[y]?=dO cs ty->y≠z:=λs e=>n1 _ _ (e▸s);have i:∀{y:Nat}{es:Array MapEntry}{c:Nat},w.heap[y]?=Y (.map es c)->y≠z:=λs e=>n2 _ _ (e▸s);refine⟨h.be.Z iO.b,iO.obj h.hd (m h.hd),h.vw,?_,λj R g1 B E=>?_,h.snd,h.xi,h.hlen,h.xE,?_,λj Z gb hh N B E x h2=>?_,h.FM,h.lo,h.wu⟩;{let⟨M,n,o,r⟩:=h.uy;let⟨es,c,hm⟩:=ownsMap_at o;exact⟨M,n,iO.map o (i hm),r⟩};{have q:=h.vx j R g1 B E;obtain⟨-,u,x,-⟩:=id q;exact q.W iO (m x)};{let⟨M,n,o,r⟩:=h.qH;let⟨es,c,hm⟩:=ownsMap_at o;exact⟨M,n,iO.map o (i hm),r⟩};{have q:=h.rE j Z gb hh N B E x h2;obtain⟨-,⟨V,X,-⟩,W,S⟩:=id q;let⟨es,c,m3⟩:=W.at;let⟨Jj,c',m4⟩:=S.at;exact q.W iO (m X) (i m3) (i m4)}
theorem dJ1(N:1<=k)(M:k<=13){s f:Int}(u:Jw w 0 (k*7) se pa lo hi vs sq jo){B:Bool}(R:O (Bf se pa lo hi vs sq s f n m e g=B))(y:(B&&jo)=dF):dQ dG 127 #[qF k s (.S p n c) f (.S q m d) e g] w (Rb aq w):=by
 have h1:=gr 1 k;have h2:(k:Int)<=13:=ae;have h3:(k:Int)<14:=ae;have h4:k<14:=ae;have h5:=gr 0 k;go_in
 go_wp21
 let⟨W,i⟩:=aF (jA w (dO #[.I k,.U s,.S p n c,.I f,.S q m d,.U e,.U g] 26));have o:=ij i;have x:lr W (U (Q w)) (.I k) (.U s) (.S p n c) (.I f) (.S q m d) (.U e) (.U g):=by rw[i];simp[lr,go_sem]
 have r:=u.H o;rw[<-i];clear i u;refine cK (aI0 N M r R) λX j=>?_;have E:=x.H j;have V:=r.H j;have D:=ah o j;clear x r o j;have a0:=E;have Z:=V;cases B with
 |false=>
  go_wp2;go_ret;exact⟨rfl,D⟩
 |true=>
  rw[xm]at y;subst y;go_wp2;go_ret;exact⟨rfl,D⟩
theorem dJ0{k s f:Int}(r:k<1\/13<k):dQ dG 127 #[qF k s (.S p n c) f (.S q m d) e g] w (Rb aq w):=by
 go_in
 go_wp21
 let⟨W,i⟩:=aF (jA w (dO #[.I k,.U s,.S p n c,.I f,.S q m d,.U e,.U g] 26));have j:=ij i;rw[<-i];clear i;refine cK (cX7 r) λx o=>?_;have u:=ah j o;clear j o;go_wp2;go_ret;exact⟨rfl,u⟩
abbrev bE1(F:Nat)(w:G)(k s f e g:Int)(n m N:Nat)(P V R:LI):Prop:=
 ∀(q1 q2:OA)(d1 d2:Nat)(w':G),Bw w w'->Rd w' (.S q1 n d1) P->Rd w' (.S q2 m d2) V->dQ dG F #[qF k s (.S q1 n d1) f (.S q2 m d2) e g] w' λr w''=>∃p' c',r=dR (.S p' N c')/\Own (U (Q w')) w'' (.S p' N c') R/\Bw w' w''
theorem cz0{F:Nat}{k s f:Int}(h:∀(o j:OA)(u q:Nat)(w':G),Bw w w'->dQ dG F #[qF k s (.S o n u) f (.S j m q) e g] w' λr i=>r=dR aq/\Bw w' i):bE1 F w k s f e g n m 0 P V []:=
 λo j u q w' x _ _=>(h o j u q w' x).h (by rintro r i⟨rfl,y⟩;exact⟨dN,0,rfl,nK _ _ _ _,y⟩)
theorem cI0(en:Le ss n)(em:Le ns m)(eP:Le P np)(eV:Le V nv)(hS:O (ew B w (.S p n c) ss Qs))(hN:O (kF B w (.S q m d) ns))(hP:O (Rd w (.S pp np cp) P))(hV:O (Rd w (.S pq nv cv) V))(hB:B<=U (Q w))(hn:Mg n)(hm:Mg m)(hp:np<=2^20)(hv:nv<=2^20)(gL:np<=cp)(ju:cp<=maxLen)(hW:O (WF ⟨e,g,x,t,ss,ns⟩))(bP:O (aA P)){R:SD×RP}(hj:O (K=1\/K=3\/K=4\/K=5\/K=7\/K=8\/K=9))(eR:O (lM ⟨e,g,x,t,ss,ns⟩ K S F E iG P V=R)):dQ dG 54 #[bS e g x t (.S p n c) (.S q m d),rD K S (.S pp np cp) F (.S pq nv cv) E iG] w λr w'=>QR B w w' r R.1 R.2:=by
 let⟨W0,bG,b0,z0,C0⟩:=sQ w (.U e) (.U g) (.U x) (.I t) (.S p n c) (.S q m d);obtain⟨W1,fo,b1,z1,C1,-⟩:=bM W0 #[.I K,.U S,.S pp np cp,.I F,.S pq nv cv,.U E,.U iG] 26;let⟨W2,fM,b2,z2,C2⟩:=yY W1;let⟨W3,kJ,b3,z3,C3⟩:=DO W2 (.I 0) (.U 0) (.U 0) (.U 0) (.I 0) aV aV aV;rw[z0]at C1 z1;rw[z1]at C2 z2;rw[z2]at C3 z3;have LQ:QB W3 (U (Q w)) _ _ _ _:=⟨((C0.H b1).H b2).H b3,(C1.H ae b2).H ae b3,C2.H b3,C3⟩;have bW:=ah (ah (ah b0 b1) b2) b3;have M:=af (λ(v:G)(hv:Bw W3 v)=>aD (QB.W LQ (λj h1 h2=>hv.block j ae)) (aD (hS.T (bH (ah bW hv))) (aD (di.T hN (bH (ah bW hv))) (aD (hP.H (ah bW hv)) (aD (hV.H (ah bW hv)) (ah bW hv))))));clear b0 b1 b2 b3 C0 C1 C2 C3 LQ bW;have cW:=br (aa bP) (λnd aG=>(hW.pb nd aG).2.1);have hR:=aa eR;unfold lM at hR;rw[aa eP,aa eV]at hR;have HR:=af hR;clear hR;let⟨fb,efb⟩:=bL (Cq K S F np nv E iG);go_in
 go_wp21
 rw[<-bG,<-fo,<-fM,<-kJ];clear bG fo fM kJ;refine cK (ed8 efb) λw1 ao=>?_;have B1:=af ao;have L8:=ao.size;have o:=aa HR;rw[aa efb]at o;clear ao HR;cases fb;{
 rw[aK rfl]at o;have E9:=af o;clear o
 go_wp21
 obtain⟨s,SW,NW,-,-,BW⟩:=aa M w1 B1;exact rq 2 4 5 13 14 2 results54 s.1 s.2.2.1 s.2.2.2 en em SW NW (Fr.H BW) (BW.h hB) hB E9};rw[aJ ai]at o;obtain⟨W,-,-,-,-,-⟩:=aa M w1 B1;let⟨o0,o1,o2,o3,o4,o5,o6⟩:=Hg W.2.1.1;have X:=W.1.cells;clear W;by_cases uk:K=1;{
 rw[aK uk]at o;have cr3:(K==1):=by simp[uk]
 have E9:=af o;clear o uk
 go_wp21
 clear o0 o1 o2 o3 o4 o5 o6 X;obtain⟨-,S1,N1,-,-,Hb⟩:=aa M w1 B1;refine(du4 en em S1 N1 (aM Hb.size) hn hW.x hW.t).h ?_;rw[aa E9];clear S1 N1 Hb;rintro r w9⟨p',c',Z,d',Dv,Nv,Ev,tJ,rfl,rR,px,tD,tN,tE,hF,ir⟩;obtain⟨s,-,-,-,-,NS⟩:=aa M w1 B1;have N:=af (TX.T (show TX w1 (U (Q w)) _ _ _ from⟨s.1,s.2.2.1,s.2.2.2⟩) hF aX);have HQ:=af (show QR B w1 w9 _ R.1 R.2 from⟨p',c',Z,d',Dv,Nv,Ev,tJ,rfl,rR,px,tD,tN,tE,hF,ir⟩);obtain⟨dp,dc,rfl⟩:=tD.fO;obtain⟨xp,xc,rfl,-⟩:=RT.form tN;obtain⟨yp,yc,rfl,-⟩:=RT.form tE;have OK:=af NS;clear s NS rR px tD tN tE hF ir;have X:=N.1.cells;let⟨q0,q1,q2,q3,q4,q5,qf⟩:=N.2.1.cells;let⟨r0,r1,r2,r3,r4,r5,r6,r7,rf⟩:=N.2.2.cells;go_wp2;let⟨fF,bF⟩:=TX.fin N (.U R.1.e) (.U R.1.g) (.U R.1.x) (.I R.1.t) (.S p' (J R.1.E) c') (.S Z (J R.1.N) d') (.I R.2.k) (.U R.2.i) (.U R.2.e) (.U R.2.g) (.I R.2.n) (.S dp (J R.2.qB) dc) (.S xp (J R.2.nms) xc) (.S yp (J R.2.pG) yc);refine bO (v:=dT #[bS R.1.e R.1.g R.1.x R.1.t (.S p' (J R.1.E) c') (.S Z (J R.1.N) d'),mB R.2.k R.2.i R.2.e R.2.g R.2.n (.S dp (J R.2.qB) dc) (.S xp (J R.2.nms) xc) (.S yp (J R.2.pG) yc)]) (by simp[results,results54,go_sem,q0,q1,q2,q3,q4,q5,r0,r1,r2,r3,r4,r5,r6,r7]) rfl ?_;exact QR.low HQ (Fr.H OK) (OK.h hB) fF bF hB};rw[aJ uk]at o;have JK1:=af uk;have cr3:(K==1)=dF:=by simp[uk]
 have E8:=af o;clear o uk
 go_wp21
 clear o0 o1 o2 o3 o4 o5 o6 X;refine cK (dg9 en (af (aa M w1 B1).2.1) hn) λw2 ay=>?_;have B2:=af (ah B1 ay);clear ay cr3;let⟨ix,eix⟩:=bL (mZ ss S);let⟨T,eT⟩:=bL (Et K&&dD (ix<0));have o:=aa E8;rw[aa eix,aa eT]at o;rw[aa eix];have E7:=af o;have To:=B2.size;clear o E8 B1 L8;obtain⟨W,-,-,-,-,-⟩:=aa M w2 B2;let⟨o0,o1,o2,o3,o4,o5,o6⟩:=Hg W.2.1.1;have X:=W.1.cells;clear W
 go_upto_region 6 with fail
 go_cut[32](λrv wc=>rv=jO T/\w2=wc)
 case first=>(
 go_wp21
 refine(dM6).h ?_;rintro r w3⟨rfl,rfl⟩;let⟨hs,ehs⟩:=aZ (Et K);have y:=aa eT;rw[ehs]at y⊢;clear ehs;cases hs;{
 obtain rfl:T=dF:=y.C;clear y
 go_wp21
 go_meet;exact⟨rfl,rfl⟩};{
 by_cases hx:ix<0;{
 obtain rfl:T:=by rw[<-y];simp[hx]
 clear y
 go_wp21
 go_meet
 first|exact⟨rfl,rfl⟩|exact⟨by simp[hx],rfl⟩}
 {
 obtain rfl:T=dF:=by rw[<-y];simp[hx]
 clear y
 go_wp21
 go_meet
 first|exact⟨rfl,rfl⟩|exact⟨by simp[hx],rfl⟩}})
 case rest=>(
 obtain⟨rfl,rfl⟩:=hcut;have o:=aa E7;cases T;rotate_left;{
 rw[aK rfl]at o;have E9:=af o;clear o E7 o0 o1 o2 o3 o4 o5 o6 X
 go_wp21
 obtain⟨s,SW,NW,-,-,BW⟩:=aa M w2 B2;exact rq 2 4 5 33 34 3 results54 s.1 s.2.2.1 s.2.2.2 en em SW NW (Fr.H BW) (BW.h hB) hB E9};rw[aJ ai]at o;have tw:jY jV (t+10)=t+10:=l8 _ (by have:=hW.t;simp only at this;omega);by_cases uj:K=2;{have y:=aa hj;omega};rw[aJ uj]at o;have fo0:(K==2)=dF:=by simp[uj]
 by_cases GF:K=3;{
 have dZ8:(K==3):=by simp[GF]
 rw[aK GF]at o;let⟨D,eD⟩:=bL (xz ⟨e,g,x,t,ss,ns⟩ S);have bd1:=ew1 (D:=⟨e,g,x,t,ss,ns⟩) (id:=S);rw[aa eD]at o bd1;have HD:=br o bd1;clear o E7 GF uj bd1
 go_wp21
 clear o0 o1 o2 o3 o4 o5 o6 X;obtain⟨L2,S2,N2,-,-,RH⟩:=aa M w2 B2;have TX2:=af (show TX w2 (U (Q w)) _ _ _ from⟨L2.1,L2.2.2.1,L2.2.2.2⟩);have OM:=af RH;refine(ew0 en em S2 N2 hW.nb (aM RH.size) hn hm eD).h ?_;rintro r w3⟨p',c',Z,d',rfl,⟨Q3,Ck⟩,sO,tY,DC⟩;have N:=af (TX.T TX2 tY aX);have X:=N.1.cells;let⟨q0,q1,q2,q3,q4,q5,qf⟩:=N.2.1.cells;let⟨r0,r1,r2,r3,r4,r5,r6,r7,rf⟩:=N.2.2.cells;have HY:=jq Ck sO ((Fr.H OM).Z tY) ((OM.h hB).Z DC);clear Ck sO tY DC L2 S2 N2 RH;go_wp2;let⟨fF,bF⟩:=TX.fin N (.U e) (.U g) (.U x) (.I t) (.S p' (J D.E) c') (.S Z (J D.N) d') (.I 0) (.U 0) (.U 0) (.U 0) (.I 0) aV aV aV;refine bO (v:=dT #[bS e g x t (.S p' (J D.E) c') (.S Z (J D.N) d'),mB 0 0 0 0 0 aV aV aV]) (by simp[results,results54,go_sem,q0,q1,q2,q3,q4,q5,r0,r1,r2,r3,r4,r5,r6,r7]) rfl ?_;rw[<-HD.1];have hQ:=QR.num (e:=e) (g:=g) (x:=x) (t:=t) (ss:=D.E) (ns:=D.N) rfl rfl HY.1 HY.2.1 HY.2.2.1 HY.2.2.2 fF bF hB 0 0 0 0 0;have eq:(⟨e,g,x,t,D.E,D.N⟩:SD)=D:=by obtain⟨h1,h2,h3,h4⟩:D.e=e/\D.g=g/\D.x=x/\D.t=t:=HD.2;rw[<-h1,<-h2,<-h3,<-h4]
 rw[eq]at hQ;exact hQ};rw[aJ GF]at o;have JK3:=af GF;have dZ8:(K==3)=dF:=by simp[GF]
 by_cases bk0:K=12;{have y:=aa hj;omega};rw[aJ bk0]at o;have fo1:(K==12)=dF:=by simp[bk0]
 let⟨rt,ert⟩:=bL (Aj K P);unfold CM at o;rw[aa ert]at o;have E8:=af o;clear o E7 uj GF bk0 eT eix
 go_upto_region 18 with fail
 go_cut[8](λrv wc=>rv=jO rt/\O (Bw W3 wc))
 case first=>(
 by_cases Ng:K=13;{have y:=aa hj;omega};{
 have dZ9:(K==13)=dF:=by simp[Ng]
 obtain rfl:rt=dF:=by rw[<-aa ert,Aj];simp[Ng]
 clear Ng
 go_wp21
 go_meet;exact⟨rfl,B2⟩})
 case rest=>(
 obtain⟨w3,rfl⟩:=aF wc;obtain⟨rfl,B3⟩:=hcut;clear o0 o1 o2 o3 o4 o5 o6 X;obtain⟨W,-,-,-,-,-⟩:=aa M w3 B3;let⟨o0,o1,o2,o3,o4,o5,o6⟩:=Hg W.2.1.1;have X:=W.1.cells;clear W;let⟨T2,Cu⟩:=bL (!rt&&!vp P);have z3':=B3.size
 go_upto_region 19 with fail
 go_cut[106](λrv wc=>rv=jO T2/\O (Bw W3 wc))
 case first=>(
 cases rt;{
 go_wp21
 let⟨vb,evb⟩:=bL (vp P);refine cK (WR eP (aa M w3 B3).2.2.2.1 bP hp evb) λw4 cG=>?_;have y:=aa Cu;rw[aa evb]at y;have B4:=af (ah B3 cG);clear cG;cases vb;{
 obtain rfl:T2:=y.C;clear y
 go_wp21
 go_meet;exact⟨rfl,B4⟩};{
 obtain rfl:T2=dF:=y.C;clear y
 go_wp21
 go_meet;exact⟨rfl,B4⟩}};{
 obtain rfl:T2=dF:=Cu.C
 go_wp21
 go_meet;exact⟨rfl,B3⟩})
 case rest=>(
 obtain⟨w4,rfl⟩:=aF wc;obtain⟨rfl,B4⟩:=hcut;have z4':=B4.size;clear o0 o1 o2 o3 o4 o5 o6 X z3' B3;have o:=aa E8;rw[aa Cu]at o;cases T2;rotate_left;{
 rw[aK rfl]at o;have E9:=af o;clear o E8
 go_wp21
 obtain⟨s,SW,NW,-,-,BW⟩:=aa M w4 B4;exact rq 2 4 5 107 108 4 results54 s.1 s.2.2.1 s.2.2.2 en em SW NW (Fr.H BW) (BW.h hB) hB E9};rw[aJ ai]at o;obtain⟨W,-,-,-,-,-⟩:=aa M w4 B4;let⟨o0,o1,o2,o3,o4,o5,o6⟩:=Hg W.2.1.1;have X:=W.1.cells;clear W;by_cases KT:K=4;{
 have dZ7:(K==4):=by simp[KT]
 rw[aK KT]at o;have E9:=af o;clear o E8 KT
 go_wp21
 clear o0 o1 o2 o3 o4 o5 o6 X;obtain⟨-,S4,N4,P4,V4,VG⟩:=aa M w4 B4;refine(et7 en em eP eV S4 N4 P4 V4 (aM VG.size) hm hp hv gL ju cW E9).h ?_;clear S4 N4 P4 V4 VG;rintro r w9⟨p',c',Z,d',Dv,Nv,Ev,tJ,rfl,rR,px,tD,tN,tE,hF,ir⟩;obtain⟨s,-,-,-,-,NS⟩:=aa M w4 B4;have N:=af (TX.T (show TX w4 (U (Q w)) _ _ _ from⟨s.1,s.2.2.1,s.2.2.2⟩) hF aX);have HQ:=af (show QR B w4 w9 _ R.1 R.2 from⟨p',c',Z,d',Dv,Nv,Ev,tJ,rfl,rR,px,tD,tN,tE,hF,ir⟩);obtain⟨dp,dc,rfl⟩:=tD.fO;obtain⟨xp,xc,rfl,-⟩:=RT.form tN;obtain⟨yp,yc,rfl,-⟩:=RT.form tE;have OK:=af NS;clear s NS rR px tD tN tE hF ir;have X:=N.1.cells;let⟨q0,q1,q2,q3,q4,q5,qf⟩:=N.2.1.cells;let⟨r0,r1,r2,r3,r4,r5,r6,r7,rf⟩:=N.2.2.cells;go_wp2;let⟨fF,bF⟩:=TX.fin N (.U R.1.e) (.U R.1.g) (.U R.1.x) (.I R.1.t) (.S p' (J R.1.E) c') (.S Z (J R.1.N) d') (.I R.2.k) (.U R.2.i) (.U R.2.e) (.U R.2.g) (.I R.2.n) (.S dp (J R.2.qB) dc) (.S xp (J R.2.nms) xc) (.S yp (J R.2.pG) yc);refine bO (v:=dT #[bS R.1.e R.1.g R.1.x R.1.t (.S p' (J R.1.E) c') (.S Z (J R.1.N) d'),mB R.2.k R.2.i R.2.e R.2.g R.2.n (.S dp (J R.2.qB) dc) (.S xp (J R.2.nms) xc) (.S yp (J R.2.pG) yc)]) (by simp[results,results54,go_sem,q0,q1,q2,q3,q4,q5,r0,r1,r2,r3,r4,r5,r6,r7]) rfl ?_;exact QR.low HQ (Fr.H OK) (OK.h hB) fF bF hB};rw[aJ KT]at o;have JK4:=af KT;have dZ7:(K==4)=dF:=by simp[KT]
 by_cases bk1:K=10;{have y:=aa hj;omega};rw[aJ bk1]at o;have fo2:(K==10)=dF:=by simp[bk1]
 let⟨jx,ejx⟩:=bL (yC ns P);simp only[aa ejx]at o;have E7:=af o;clear o E8 KT bk1
 go_wp21
 clear o0 o1 o2 o3 o4 o5 o6 X;refine cK (dx1 em eP (di.Ua (aa M w4 B4).2.2.1) (aa M w4 B4).2.2.2.1 hm ae cW hW.pd) λw5 cR=>?_;rw[aa ejx];have B5:=af (ah B4 cR);have z5':=B5.size;clear cR z4' B4;let⟨T3,GO⟩:=bL (!rt&&dD (jx<0))
 go_upto_region 26 with fail
 go_cut[133](λrv wc=>rv=jO T3/\w5=wc)
 case first=>(
 have y:=aa GO;cases rt;{
 by_cases hx:jx<0;{
 obtain rfl:T3:=by rw[<-y];simp[hx]
 clear y
 go_wp21
 go_meet
 first|exact⟨rfl,rfl⟩|exact⟨by simp[hx],rfl⟩}
 {
 obtain rfl:T3=dF:=by rw[<-y];simp[hx]
 clear y
 go_wp21
 go_meet
 first|exact⟨rfl,rfl⟩|exact⟨by simp[hx],rfl⟩}}
 {
 obtain rfl:T3=dF:=y.C;clear y
 go_wp21
 go_meet;exact⟨rfl,rfl⟩})
 case rest=>(
 obtain⟨rfl,rfl⟩:=hcut;have o:=aa E7;rw[aa GO]at o;cases T3;rotate_left;{
 rw[aK rfl]at o;have E9:=af o;clear o E7
 go_wp21
 obtain⟨s,SW,NW,-,-,BW⟩:=aa M w5 B5;exact rq 2 4 5 134 135 5 results54 s.1 s.2.2.1 s.2.2.2 en em SW NW (Fr.H BW) (BW.h hB) hB E9};rw[aJ ai]at o;obtain⟨W,-,-,-,-,-⟩:=aa M w5 B5;let⟨o0,o1,o2,o3,o4,o5,o6⟩:=Hg W.2.1.1;have X:=W.1.cells;clear W;by_cases Ng:K=13;{have y:=aa hj;omega};{
 have dZ9:(K==13)=dF:=by simp[Ng]
 rw[aJ Ng]at o;have vO:rt=dF:=by rw[<-aa ert,Aj];simp[Ng]
 have hx:¬jx<0:=λhx=>by have h:=aa GO;rw[vO]at h;simp[hx]at h
 let⟨k,nd,ek,hk⟩:=dy6 (ns:=ns) (P:=P) (aa ejx▸hx);rw[aa ejx]at ek;subst ek;rw[sC]at o;have E9:=af o;have mF:=bq hk;have HK:=af hk;clear o E7 Ng vO hx hk
 go_wp21
 clear o0 o1 o2 o3 o4 o5 o6 X;obtain⟨-,S5,N5,-,V5,VF⟩:=aa M w5 B5;refine(dw8 en em HK eV S5 N5 V5 (aM VF.size) hn hm (hW.nb nd mF) (hW.vl nd mF) hv hW.pb hW.g (hW.ex nd mF) (af (by have:=aa hj;have:=aa JK1;have:=aa JK3;have:=aa JK4;omega)) E9).h ?_;clear S5 N5 V5 VF;rintro r w9⟨p',c',Z,d',Dv,Nv,Ev,tJ,rfl,rR,px,tD,tN,tE,hF,ir⟩;obtain⟨s,-,-,-,-,NS⟩:=aa M w5 B5;have N:=af (TX.T (show TX w5 (U (Q w)) _ _ _ from⟨s.1,s.2.2.1,s.2.2.2⟩) hF aX);have HQ:=af (show QR B w5 w9 _ R.1 R.2 from⟨p',c',Z,d',Dv,Nv,Ev,tJ,rfl,rR,px,tD,tN,tE,hF,ir⟩);obtain⟨dp,dc,rfl⟩:=tD.fO;obtain⟨xp,xc,rfl,-⟩:=RT.form tN;obtain⟨yp,yc,rfl,-⟩:=RT.form tE;have OK:=af NS;clear s NS rR px tD tN tE hF ir;have X:=N.1.cells;let⟨q0,q1,q2,q3,q4,q5,qf⟩:=N.2.1.cells;let⟨r0,r1,r2,r3,r4,r5,r6,r7,rf⟩:=N.2.2.cells;go_wp2;let⟨fF,bF⟩:=TX.fin N (.U R.1.e) (.U R.1.g) (.U R.1.x) (.I R.1.t) (.S p' (J R.1.E) c') (.S Z (J R.1.N) d') (.I R.2.k) (.U R.2.i) (.U R.2.e) (.U R.2.g) (.I R.2.n) (.S dp (J R.2.qB) dc) (.S xp (J R.2.nms) xc) (.S yp (J R.2.pG) yc);refine bO (v:=dT #[bS R.1.e R.1.g R.1.x R.1.t (.S p' (J R.1.E) c') (.S Z (J R.1.N) d'),mB R.2.k R.2.i R.2.e R.2.g R.2.n (.S dp (J R.2.qB) dc) (.S xp (J R.2.nms) xc) (.S yp (J R.2.pG) yc)]) (by simp[results,results54,go_sem,q0,q1,q2,q3,q4,q5,r0,r1,r2,r3,r4,r5,r6,r7]) rfl ?_;exact QR.low HQ (Fr.H OK) (OK.h hB) fF bF hB}))))
theorem kF.h(h:kF B w v ns)(j:B'<=B):kF B' w v ns:=by
 let⟨cs,E,D,y,u⟩:=RT.h h j;refine⟨cs,E,D,y,λi x c s hc=>?_⟩;let⟨P,V,H,iU,e,r,q,o,m⟩:=u i x c s hc;exact⟨P,V,H,iU,e,r.h j,q.h j,o.h j,m.h j⟩
theorem QR.h(h:QR B w w' r D R)(i:B'<=B):QR B' w w' r D R:=by
 obtain⟨p,c,q,d,N,M,Ev,E,e,u,x,s,m,o,j,y⟩:=h;exact⟨p,c,q,d,N,M,Ev,E,e,u.h i,kF.h x i,s,RT.h m i,oO.h o i,j,y.h i⟩
def SD0:SD:=⟨0,0,0,0,[],[]⟩
def AP(e g x t:Int)(ss:List aC)(ns:List au)(K S F E iG:Int)(P V:LI):SD×RP:=if mY e g x t ss ns then lM ⟨e,g,x,t,ss,ns⟩ K S F E iG P V else(SD0,kP 1)
theorem de1(en:Le ss n)(em:Le ns m)(eP:Le P np)(eV:Le V nv)(h:O (mX w (.S p n c) ss))(hN:O (iy w (.S q m d) ns))(hP:O (Rd w (.S pp np cp) P))(hV:O (Rd w (.S pq nv cv) V))(hn:Mg n)(hm:Mg m)(hp:np<=2^20)(y:nv<=2^20)(gL:np<=cp)(ju:cp<=maxLen)(gy:O (Bs ss))(cW:O (Bn ns))(hW:O (mY e g x t ss ns->WF ⟨e,g,x,t,ss,ns⟩))(bP:O (aA P)){R:SD×RP}(hj:O (K=1\/K=3\/K=4\/K=5\/K=7\/K=8\/K=9))(eR:O (AP e g x t ss ns K S F E iG P V=R)):dQ dG 34 #[bS e g x t (.S p n c) (.S q m d),rD K S (.S pp np cp) F (.S pq nv cv) E iG] w λr w'=>QR (U (Q w)) w w' r R.1 R.2:=by
 let⟨W0,bG,b0,z0,C0⟩:=sQ w (.U e) (.U g) (.U x) (.I t) (.S p n c) (.S q m d);obtain⟨W1,fo,b1,z1,C1,-⟩:=bM W0 #[.I K,.U S,.S pp np cp,.I F,.S pq nv cv,.U E,.U iG] 26;let⟨W2,fM,b2,z2,C2⟩:=yY W1;let⟨M,kJ,b3,z3,C3⟩:=DO W2 (.I 0) (.U 0) (.U 0) (.U 0) (.I 0) aV aV aV;rw[z0]at C1 z1;rw[z1]at C2 z2;rw[z2]at C3 z3;have LQ:QB M (U (Q w)) _ _ _ _:=⟨((C0.H b1).H b2).H b3,(C1.H ae b2).H ae b3,C2.H b3,C3⟩;have bW:=ah (ah (ah b0 b1) b2) b3;have B:=af (λ(v:G)(y:Bw M v)=>aD (QB.W LQ (λj h1 h2=>y.block j ae)) (aD (h.H (ah bW y)) (aD (hN.H (ah bW y)) (aD (hP.H (ah bW y)) (aD (hV.H (ah bW y)) (ah bW y))))));have BR:=af (aR (U (Q M)) M);have hR:=aa eR;unfold AP at hR;let⟨ok,ld⟩:=bL (mY e g x t ss ns);rw[aa ld]at hR;have HR:=af hR;go_in
 go_wp21
 rw[<-bG,<-fo,<-fM,<-kJ];refine cK (aL2 en em (aa B M BR).2.1 (aa B M BR).2.2.1 hn hm gy cW ld) λw1 ao=>?_;have B1:=af ao;have L8:=ao.size;have e9:=aa HR;cases ok;{
 rw[aJ ai]at e9;have E9:=af e9
 go_wp21
 refine cK (aX7) λw2 ay=>?_;obtain⟨LW,-,-,-,-,bw⟩:=aa B w2 (ah B1 ay);have jw:=af (show TX w2 (U (Q w)) _ _ _ from⟨LW.1,LW.2.2.1,LW.2.2.2⟩);have BW:=af bw;let⟨q0,q1,q2,q3,q4,q5,qf⟩:=jw.2.1.cells;let⟨r0,r1,r2,r3,r4,r5,r6,r7,rf⟩:=jw.2.2.cells;go_wp2;let⟨fF,bF⟩:=TX.fin jw (.U 0) (.U 0) (.U 0) (.I 0) aV aV (.I 1) (.U 0) (.U 0) (.U 0) (.I 0) aV aV aV;refine bO (v:=dT #[bS 0 0 0 0 aV aV,mB 1 0 0 0 0 aV aV aV]) (by simp[results,results34,go_sem,q0,q1,q2,q3,q4,q5,r0,r1,r2,r3,r4,r5,r6,r7]) rfl ?_;rw[<-aa E9];exact⟨dN,0,dN,0,aV,aV,aV,[],rfl,ew.nil _ _,RT.nil _ _ _ _ _,TB.nil _,RT.nil _ _ _ _ _,RT.nil _ _ _ _ _,Fr.H (BW.Z bF),BW.Z bF⟩};{
 rw[aK rfl]at e9;have E9:=af e9
 go_wp21
 have HCG:=af (λ(vs:iA)(w:G)=>show(callFunc 54 vs).run dG w=.ok (.enter 54 vs) w by kernel_rfl);let⟨D,de⟩:=aF w1.drew;have cQ:Bw M D:=ah (aa B1) (de▸aH.drew);have BA:=af cQ;have zA:=cQ.size;have SA:=af (λ(v:G)(hQ:QB v (U (Q w)) [.U e,.U g,.U x,.I t,.S p n c,.S q m d] [.I K,.U S,.S pp np cp,.I F,.S pq nv cv,.U E,.U iG] [.U 0,.U 0,.U 0,.I 0,aq,aq] [.I 0,.U 0,.U 0,.U 0,.I 0,aV,aV,aV])=>aD hQ.1.WT (aD (hQ.2.1.1 0 _ rfl) (aD (hQ.2.1.1 1 _ rfl) (aD (hQ.2.1.1 2 _ rfl) (aD (hQ.2.1.1 3 _ rfl) (aD (hQ.2.1.1 4 _ rfl) (aD (hQ.2.1.1 5 _ rfl) (hQ.2.1.1 6 _ rfl))))))));refine fK (λw'=>(I w' (Aw w 0)=dU e/\I w' (Aw w 1)=dU g/\I w' (Aw w 2)=dU x/\I w' (Aw w 3)=dI t/\I w' (Aw w 4)=dS p n c/\I w' (Aw w 5)=dS q m d)/\I w' (Ax w 0)=dI K/\I w' (Ax w 1)=dU S/\I w' (Ax w 2)=dS pp np cp/\I w' (Ax w 3)=dI F/\I w' (Ax w 4)=dS pq nv cv/\I w' (Ax w 5)=dU E/\I w' (Ax w 6)=dU iG) (de▸aa SA D (aa B D cQ).1) λhS=>?_;rw[<-de]at hS⊢;refine gh 0 2 hS ?_;refine ft 1 λKK hK=>?_;refine js (aA0 en em (aa B D BA).2.1 (aa B D BA).2.2.1 hn hm (af λs hs=>⟨(aa gy s hs).1,λev he=>((aa gy s hs).2 ev he).2⟩) (af λnd aG=>(aa cW nd aG).2)) ?_;rintro r v1⟨p1,c1,q1,d1,rfl,⟨Qs,QP⟩,AZ,ay⟩;refine⟨_,rfl,?_⟩;have B2:=af (ah BA ay);have To:=ay.size;have H1:=br QP AZ;refine bQ hK (by exact SA v1 (aa B v1 B2).1) λhS=>?_;refine ft 3 λKK hK=>?_;refine Tz aP aP aP aP (λ_=>aa HCG _ _) (cI0 en em eP eV H1.1 H1.2 (af (aa B v1 B2).2.2.2.1) (af (aa B v1 B2).2.2.2.2.1) To hn hm hp y gL ju (aa hW ld) bP hj E9) ?_;rintro r v2⟨p',c',q',d',Dv,Nv,Ev,tJ,rfl,rR,px,tD,tN,tE,hF,ir⟩;refine⟨_,rfl,?_⟩;have z3':=hF.1;have L2:=af (QB.W (w'':=v2) (aa B v1 B2).1 (λj h1 h2=>ir.block j ae));have HQ:=af (show QR (U (Q D)) v1 v2 _ R.1 R.2 from⟨p',c',q',d',Dv,Nv,Ev,tJ,rfl,rR,px,tD,tN,tE,hF,ir⟩);obtain⟨dp,dc,rfl⟩:=tD.fO;obtain⟨N,W,rfl,-⟩:=RT.form tN;obtain⟨yp,yc,rfl,-⟩:=RT.form tE;refine bQ hK (by exact SA v2 L2) λhS=>?_;refine gh 4 5 hS ?_;refine bS0 6 7 4 5 15 16 aU aU aU rfl rfl (U (Q w)+1+1) (U (Q w)+1+1+1) R.1.e R.1.g R.1.x R.1.t p' (J R.1.E) c' q' (J R.1.N) d' R.2.k R.2.i R.2.e R.2.g R.2.n dp (J R.2.qB) dc N (J R.2.nms) W yp (J R.2.pG) yc rfl rfl rfl rfl L2.2.2.1 L2.2.2.2 ae (λv y _=>?_) ?_;{have h1:=L2.1.eh (y.block _ ae);have h2:=L2.2.1.eh (y.block _ ae);exact⟨h1.WT,h2.1 0 _ rfl,h2.1 1 _ rfl,h2.1 2 _ rfl,h2.1 3 _ rfl,h2.1 4 _ rfl,h2.1 5 _ rfl,h2.1 6 _ rfl⟩};intro w' ao pR f1 Jp;refine Hf ?_;have Z:=(aa B v1 B2).2.2.2.2.2;have HF:=af (QR.low (QR.h HQ (by omega:U (Q w)<=U (Q D))) (Fr.H Z) Z f1 (Jp.h ae) az);let⟨q0,q1',q2,q3,q4,q5,qf⟩:=ao.cells;let⟨r0,r1,r2,r3,r4,r5,r6,r7,rf⟩:=pR.cells;go_wp2;refine bO (v:=dT #[bS R.1.e R.1.g R.1.x R.1.t (.S p' (J R.1.E) c') (.S q' (J R.1.N) d'),mB R.2.k R.2.i R.2.e R.2.g R.2.n (.S dp (J R.2.qB) dc) (.S N (J R.2.nms) W) (.S yp (J R.2.pG) yc)]) (by simp[results,results34,go_sem,q0,q1',q2,q3,q4,q5,r0,r1,r2,r3,r4,r5,r6,r7]) rfl ?_;exact HF}
structure fu where
 e:Int
 g:Int
 x:Int
 t:Int
 E:List aC
 N:List au
def mO:fu:=⟨0,0,0,0,[],[]⟩
def nG(B:Nat)(w:G)(p:OA)(n c:Nat)(q:OA)(m d:Nat)(ss:List aC)(ns:List au):Prop:=
 ∃j i,mJ w (.S p n c) ss/\iy w (.S q m d) ns/\LvS w (.S p n c) ss j/\LvN w (.S q m d) ns i/\je B w (j++i)
theorem nG.zero(B:Nat)(w:G):nG B w dN 0 0 dN 0 0 [] []:=
 ⟨[],[],⟨dN,0,rfl,.L rfl⟩,⟨dN,0,rfl,.L rfl⟩,⟨dN,0,[],rfl,rfl,rfl,.L rfl⟩,⟨dN,0,[],rfl,rfl,rfl,.L rfl⟩,je.nil _ _⟩
theorem nG.W(h:nG B w p n c q m d ss ns)(D:∀b,B<=b->b<U (Q w)->w'.heap[b]?=w.heap[b]?):nG B w' p n c q m d ss ns:=by
 obtain⟨r,o,M,E,y,x,j⟩:=h;have k:∀a∈r++o,w'.heap[a.b]?=w.heap[a.b]?:=λa i=>D _ (j.lo a i) (j.oy.lt i);have u:∀a∈r,w'.heap[a.b]?=w.heap[a.b]?:=λa i=>k a (Ux _ i);have s:∀a∈o,w'.heap[a.b]?=w.heap[a.b]?:=λa i=>k a (Kf _ i);exact⟨r,o,M.ox y u,E.ox x s,LvS.W y u,LvN.W x s,j.W k⟩
theorem nG.H(h:nG B w p n c q m d ss ns)(j:Bw w w'):nG B w' p n c q m d ss ns:=h.W λb _ i=>j.block b i
theorem nG.h(h:nG B w p n c q m d ss ns)(i:B'<=B):nG B' w p n c q m d ss ns:=by
 obtain⟨y,x,u,s,r,o,j⟩:=h;exact⟨y,x,u,s,r,o,j.h i⟩
def bx8(B:Nat)(r:Ending)(w:G)(D:fu)(code:Int):Prop:=∃p c q d,r=dR (dT #[bS D.e D.g D.x D.t (.S p (J D.E) c) (.S q (J D.N) d),.I code])/\nG B w p (J D.E) c q (J D.N) d D.E D.N
def NM(nd:au):Prop:=(J nd.A<=136/\J nd.V<=41/\J nd.y<=51)/\(0<=nd.M/\nd.M<=3)/\(0<=nd.D/\nd.D<2^64)/\(0<=nd.P/\nd.P<2^64)/\(0<=nd.F/\nd.F<2^64)/\∀i∈nd.y,0<=i/\i<2^64
structure SmW(ss:List aC)(ns:List au):Prop where
 n1:J ss<=51
 n2:J ns<=201
 s:∀s∈ss,0<=s.1/\s.1<2^64
 d:∀nd∈ns,NM nd
theorem PB.nS{M N z0:Nat}(h:PB w M N v xs A)(m:z0<M)(i:∀z,z≠z0->w'.heap[z]?=w.heap[z]?):PB w' M N v xs A:=
 have k:∀a∈A,w'.heap[a.b]?=w.heap[a.b]?:=λa j=>i _ (aM (h.ap.lo a j))
 ⟨h.rd.ox h.lv k,h.cap,h.lv,h.ap.W k,h.hi⟩
theorem PU.nS{M N z0:Nat}(h:PU w M N v xs A)(m:z0<M)(i:∀z,z≠z0->w'.heap[z]?=w.heap[z]?):PU w' M N v xs A:=
 have k:∀a∈A,w'.heap[a.b]?=w.heap[a.b]?:=λa j=>i _ (aM (h.ap.lo a j))
 ⟨h.rd.ox h.lv k,h.lv,h.ap.W k,h.hi⟩
theorem nW.pu(h:nW B w (.S p n c) l):∃A,PU w B (U (Q w)) (.S p n c) l A:=by
 let⟨A,q,m,y,x⟩:=Xa (kd:=jU) h;refine⟨A,?_,q,m,λa s=>m.oy.lt s⟩;obtain⟨e,o⟩|⟨g,j,u,e,M,E,D⟩:=h.2;{rw[e];exact⟨dN,0,by rw[o],.L (vI.1 o)⟩};{rw[e]at h⊢;refine⟨_,j,rfl,.R ⟨g,0,rfl,λi r=>?_⟩⟩;have:=Py h i ae;rw[l9,this];simp[iR,r]}
theorem oO.rde(h:oO B w v es):vo w v es:=by
 obtain⟨p,c,rfl,-,-,o⟩:=RT.form h;refine⟨p,c,rfl,?_⟩;by_cases j:es=[];{exact .L j};{obtain⟨g,rfl⟩:=o (PC.2 j);refine .R ⟨g,0,rfl,λi e q=>?_⟩;obtain⟨s,-,⟨P,r,m⟩,hc,-⟩:=RT.at h q;subst r;exact⟨by have:=hc 0 _ rfl;simpa using this,P,by have:=hc 1 _ rfl;simpa using this,m.1⟩}
theorem ew.rds(h:ew B w v ss Qs):mX w v ss:=by
 have y:J (ss.zip Qs)=J ss:=by rw[Uk,h.len];simp
 obtain⟨p,c,e,-,-,o⟩:=RT.form h.row;rw[y]at e o;subst e;refine⟨p,c,rfl,?_⟩;by_cases r:ss=[];{exact .L r};{obtain⟨g,rfl⟩:=o (PC.2 r);refine .R ⟨g,0,rfl,λi s m=>?_⟩;have u:=(bu.1 m).1;obtain⟨j,q⟩:∃j,Qs[i]?=Y j:=⟨_,bN (h.len▸u)⟩;obtain⟨E,-,D,hc,-⟩:=RT.at h.row (i:=i) (x:=(s,j)) (by rw[Mr];exact⟨m,q⟩);rw[show E=_ from D]at hc;exact⟨by have:=hc 0 _ rfl;simpa using this,by have:=hc 1 _ rfl;simpa using this,j,by have:=hc 2 _ rfl;simpa using this,(h.uT i s j m q).rde⟩}
theorem oO.dp1(h:oO B w v es):ur w v es:=by
 obtain⟨p,c,rfl,-,-,o⟩:=RT.form h;refine⟨p,c,rfl,?_⟩;by_cases m:es=[];{exact .L m};{obtain⟨g,rfl⟩:=o (PC.2 m);refine .R ⟨g,0,rfl,λi e q=>?_⟩;obtain⟨s,-,⟨P,r,j⟩,hc,-⟩:=RT.at h q;subst r;exact⟨by have:=hc 0 _ rfl;simpa using this,P,by have:=hc 1 _ rfl;simpa using this,j.1,j.2.2⟩}
theorem ew.dp0(h:ew B w v ss Qs):mJ w v ss:=by
 have y:J (ss.zip Qs)=J ss:=by rw[Uk,h.len];simp
 obtain⟨p,c,e,-,-,o⟩:=RT.form h.row;rw[y]at e o;subst e;refine⟨p,c,rfl,?_⟩;by_cases r:ss=[];{exact .L r};{obtain⟨g,rfl⟩:=o (PC.2 r);refine .R ⟨g,0,rfl,λi s m=>?_⟩;have u:=(bu.1 m).1;obtain⟨j,q⟩:∃j,Qs[i]?=Y j:=⟨_,bN (h.len▸u)⟩;obtain⟨E,-,D,hc,-⟩:=RT.at h.row (i:=i) (x:=(s,j)) (by rw[Mr];exact⟨m,q⟩);rw[show E=_ from D]at hc;exact⟨by have:=hc 0 _ rfl;simpa using this,by have:=hc 1 _ rfl;simpa using this,j,by have:=hc 2 _ rfl;simpa using this,(h.uT i s j m q).dp1⟩}
theorem ew.ge{g:Nat}(h:ew B w (.T g n c) ss Qs):B<=g:=(h.row.lt g rfl).1
def DuR(w:G)(e g x t:Int)(n m:Nat)(ss:List aC)(ns:List au)(r:Ending)(w':G):Prop:=∃j q i o B s,r=dR (bS e g x t (.S j n q) (.S i m o))/\U (Q w)<=B/\ew B w' (.S j n q) ss s/\kF B w' (.S i m o) ns/\Bw w w'
theorem cC1(en:Le ss n)(em:Le ns m)(h:mX w (.S p n c) ss)(hN:iy w (.S q m d) ns)(hn:Mg n)(hm:Mg m)(gy:O (∀s∈ss,J s.2.2<=2^20/\∀ev∈s.2.2,J ev.2<=2^20))(nO:O (∀nd∈ns,J nd.A<=2^20/\J nd.V<=2^20/\J nd.y<=2^20/\J nd.X<=2^20)):dQ dG 35 #[bS e g x t (.S p n c) (.S q m d)] w (DuR w e g x 0 n m (ss.map lZ) (ns.map lE)):=by
 let⟨W0,bG,b0,z0,C0⟩:=sQ w (.U e) (.U g) (.U x) (.I t) (.S p n c) (.S q m d);let⟨W1,fo,b1,z1,C1⟩:=sQ W0 (.U 0) (.U 0) (.U 0) (.I 0) aq aq;rw[z0]at C1 z1;have bW:=ah b0 b1;have HC:=af (aA0 (e:=e) (g:=g) (x:=x) (t:=t) en em (h.H bW) (hN.H bW) hn hm gy nO);have HB:=dy C1 bW z1;go_in
 go_wp21
 rw[<-bG,<-fo];refine HC.h ?_;rintro r w1⟨N,X,M,W,rfl,⟨Qs,hS⟩,AZ,ao⟩;let⟨W2,fM,b2,z2,C2⟩:=sQ w1 (.U e) (.U g) (.U x) (.I 0) (.S N n X) (.S M m W);let⟨ob,Dw⟩:=aF (U (Q w1));rw[<-Dw]at C2;have F2:=Fr.H (T:=[34]) b2;have y:=nF (hS.T F2) (di.T AZ F2) C2 ((HB.1.H ao).H b2) ((HB.2.1.Z (ao.h (aM HB.2.2))).Z (b2.h (by have:=HB.2.2;have:=ao.size;omega)));let⟨B,hB⟩:=aF (U (Q W1));rw[<-hB]at y;have fw:U (Q w)<=B:=aM HB.2.2;go_wp2;rw[<-Dw,<-fM];clear fM Dw
 go_loopw[4](λZ wr=>∃(k:Nat)(Qs:List dV),k<=n/\Z=.I k/\O (ew B wr (.S N n X) (Cr lZ k ss) Qs/\kF B wr (.S M m W) ns/\BX wr ob [.U e,.U g,.U x,.I 0,.S N n X,.S M m W]/\BX wr (U (Q w)+1) [.U 0,.U 0,.U 0,.I 0,aq,aq]/\Bw w wr)) (λZ _=>n-(jN (intOf Z)))
 exact⟨0,Qs,cT _,rfl,by rw[bn4];exact y⟩;{
 obtain⟨k,Qs,hk,rfl,y⟩:=hrel;have i0:=y.2.2.1.cells;by_cases aL:k<n;{
 have cM:=bR k n;obtain⟨s,R⟩:∃s,ss[k]?=Y s:=⟨_,bN (aa en▸aL)⟩;obtain⟨gs,iZ,rfl,-,-,hQ,j0,j1,j2,hq,jf⟩:=y.1.at (Rl lZ R);have U0:=y.1.ge;have wk:jY jV ((k:Int)+1)=((k+1:Nat):Int):=by rw[l8 _ ae];omega
 let⟨S1,D⟩:=y.1.dl (Rl lZ R) 0;have db:k<J (Cr lZ k ss):=(bu.1 (Rl lZ R)).1;obtain⟨-,-,-,-,y4,-,-⟩:=(y.2.2.1.T D).cells;obtain⟨gs',Q',eg,-,-,-,-,-,yq,-,yf⟩:=S1.at (i:=k) (s:=(s.1,0,s.2.2)) (by rw[aU4 db]);obtain⟨rfl,-⟩:=By eg;let⟨iY,hY⟩:=aF (jS wr (Ad gs (k*3+1)) (.I 0));rw[<-hY]at S1 D;let⟨S2,F2⟩:=S1.aJ0 (i:=k) (s:=(s.1,0,s.2.2)) (by rw[aU4 db]) hQ (w1:=iY) (v':=aq) (q':=[]) (RT.nil _ _ _ _ _) (aw5) (λb e=>by simp[jB]at e);rw[Uo,show((s.1,0,[]):aC)=lZ s from rfl,bn5 lZ R]at S2;let⟨V,hV⟩:=aF (jS iY (Ad gs (k*3+2)) aq);rw[<-hV]at S2 F2;have F3:=D.sub (T':=[114,65]) ai;have FF:=F3.Z F2;have BV:Bw w V:=by rw[hV,hY];exact(y.2.2.2.2.setCell (p:=(Ad gs _)) (fx fw U0) _).setCell (p:=(Ad gs _)) (fx fw U0) _
 have HN:=nF S2 (di.T y.2.1 FF) (y.2.2.1.T FF) (y.2.2.2.1.T FF) BV;rw[hY]at hV;go_wp2;rw[<-hV];go_roundw;exact⟨k+1,_,ae,by go_num,HN⟩;exact dh};{
 have cM:=fG k n;have ek:k=n:=ae;have E:=aa y;rw[bn6 lZ (by rw[aa en];omega)]at E;have y:=af E;go_wp2
 go_loopw[5](λZ wr=>∃(k:Nat),k<=m/\Z=.I k/\O (ew B wr (.S N n X) (ss.map lZ) Qs/\kF B wr (.S M m W) (Cr lE k ns)/\BX wr ob [.U e,.U g,.U x,.I 0,.S N n X,.S M m W]/\BX wr (U (Q w)+1) [.U 0,.U 0,.U 0,.I 0,aq,aq]/\Bw w wr)) (λZ _=>m-(jN (intOf Z)))
 exact⟨0,cT _,rfl,by rw[bn4];exact y⟩;{
 obtain⟨k,hk,rfl,y⟩:=hrel;have i0:=y.2.2.1.cells;by_cases aL:k<m;{
 have cM:=bR k m;obtain⟨nd,R⟩:∃s,ns[k]?=Y s:=⟨_,bN (aa em▸aL)⟩;obtain⟨gn,P,V,H,iU,rfl,-,-,-,-,-,-,-,-,-,j7,-,-,-,-,jf⟩:=y.2.1.at (Rl lE R);have U0:=(RT.lt y.2.1 gn rfl).1;have wk:jY jV ((k:Int)+1)=((k+1:Nat):Int):=by rw[l8 _ ae];omega
 let⟨S1,D⟩:=di.put y.2.1 (Rl lE R) (j:=7) aX aq (lE nd) (λw' P V H iU h1 h2 h3 h4 _=>⟨P,V,H,aq,rfl,h1,h2,h3,TU.nil _⟩);rw[bn5 lE R]at S1;let⟨iY,hY⟩:=aF (jS wr (Ad gn (k*8+7)) aq);rw[<-hY]at S1 D;have BV:Bw w iY:=by rw[hY];exact y.2.2.2.2.setCell (p:=(Ad gn _)) (fx fw U0) _
 have HN:=nF (y.1.T D) S1 (y.2.2.1.T D) (y.2.2.2.1.T D) BV;go_wp2;rw[<-hY];go_roundw;exact⟨k+1,ae,by go_num,HN⟩;exact dh};{have cM:=fG k m;have E:=aa y;rw[bn6 lE (by rw[aa em];omega)]at E;let⟨r0,r1,r2,r3,r4,r5,rf⟩:=E.2.2.2.1.cells;let⟨cur,I0⟩:=E.2.2.2.1.2;have D:Fr [34] wr (fv wr (U (Q w)+1) (.U e) (.U g) (.U x) (.I 0) (.S N n X) (.S M m W)):=vu I0;have HN:=dy (E.1.T D) (di.T E.2.1 D) (E.2.2.2.2.Z ((sY (w:=wr) (U (Q w)+1) (.U e) (.U g) (.U x) (.I 0) (.S N n X) (.S M m W)).h ae));go_wp2;exact bO (v:=bS e g x 0 (.S N n X) (.S M m W)) (by simp[results,results35,go_sem,r0,r1,r2,r3,r4,r5]) rfl ⟨_,_,_,_,B,_,rfl,fw,HN.1,HN.2.1,HN.2.2⟩}}}}
def Hj(B:Nat)(w:G)(j i:List Lf)(p:OA)(n c:Nat)(q:OA)(m d:Nat)(ss:List aC)(ns:List au):Prop:=
 mJ w (.S p n c) ss/\iy w (.S q m d) ns/\LvS w (.S p n c) ss j/\LvN w (.S q m d) ns i/\je B w (j++i)
theorem Hj.W(h:Hj B w A1 A2 p n c q m d ss ns)(i:∀a∈A1++A2,w'.heap[a.b]?=w.heap[a.b]?):Hj B w' A1 A2 p n c q m d ss ns:=by
 obtain⟨D,y,u,s,x⟩:=h;have r:∀a∈A1,w'.heap[a.b]?=w.heap[a.b]?:=λa j=>i a (Ux _ j);have o:∀a∈A2,w'.heap[a.b]?=w.heap[a.b]?:=λa j=>i a (Kf _ j);exact⟨D.ox u r,y.ox s o,LvS.W u r,LvN.W s o,x.W i⟩
theorem Hj.H(h:Hj B w A1 A2 p n c q m d ss ns)(i:Bw w w'):Hj B w' A1 A2 p n c q m d ss ns:=h.W λa j=>i.block _ (h.2.2.2.2.oy.lt j)
end Go.Proofs.YtpkakgkipopiaaaGreatDoor
