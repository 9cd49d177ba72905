import Derived.Test.YtjjnidignljppaaGreatDoorK7
namespace Go.Proofs.YtjjnidignljppaaGreatDoor
set_option maxHeartbeats 6400000
set_option linter.all false
set_option maxRecDepth 100000
variable {a b i i2 j j2:Nat}{d:Array Int}{p:Int->Bool}
namespace Q
open Go.Sort Go.RowKit Go.Proofs.Tryz
def XH(h:i<=j)(hp:p d[i]! = true):scanUp p d j i=scanUp p d j (i+1):=by
 rw[scanUp,bN (by simp[h,hp])]
def JH(h:¬i<=j\/p d[i]! = false):scanUp p d j i=i:=by
 rw[scanUp,bH];rcases h with h|h;{simp;omega};{simp[h]}
theorem LG(hj:0<j)(h:i<=j)(hp:p d[j]! = true):scanDown p d i j=scanDown p d i (j-1):=by
 cases j with
 |zero=>omega
 |succ j=>rw[scanDown,bN (by simp[h,hp])];rfl
theorem AO(hi:0<i)(h:¬i<=j\/p d[j]! = false):scanDown p d i j=j:=by
 cases j with
 |zero=>rfl
 |succ j=>
  rw[scanDown,bH];rcases h with h|h;{simp;omega};{simp[h]}
def Hd(h1:scanUp (fun x=>ltInt x d[a]!) d j i=i2)(h2:scanDown (fun x=>!ltInt x d[a]!) d i2 j=j2)(h:j2<i2):partLoop ltInt a i j d=(j2,d):=by
 rw[partLoop];simp only[h1,h2];rw[bN h]
def Nj(h1:scanUp (fun x=>ltInt x d[a]!) d j i=i2)(h2:scanDown (fun x=>!ltInt x d[a]!) d i2 j=j2)(h:¬j2<i2)(hi:i<=i2)(hj:j2<=j)(hi0:0<i2):partLoop ltInt a i j d=partLoop ltInt a (i2+1) (j2-1) (swp d i2 j2):=by
 rw[partLoop];simp only[h1,h2];rw[bH h,NR ae]
theorem Yw{blk off cap N a b piv:Nat}(hN:Hid (d.size=N)){w:World}(h:HU w blk off d)(Xo:a<=piv)(hpb:piv<b)(hb:b<=N)(iO:N<=1048576):Cp 204 #[.S (some ⟨blk,off,none⟩) N cap,.I a,.I b,.I piv] w fun e w'=>e=.returned (.tuple #[.I (partition ltInt d a b piv).1,.bool (partition ltInt d a b piv).2.1])/\HU w' blk off (partition ltInt d a b piv).2.2/\w.grownBy w' (some blk):=by
 obtain⟨⟨R1,R2,R3⟩,eR⟩:∃R,partition ltInt d a b piv=R:=⟨_,rfl⟩;rw[eR];have xf:=aa hN;obtain⟨B1,eB1⟩:∃x:Nat,(b:Int)-1=(x:Int):=⟨b-1,ae⟩;have eB0:b-1=B1:=ae;have wB:=dZ B1;obtain⟨ca,fa⟩:=h a ae;obtain⟨cp,fp⟩:=h piv ae;obtain⟨u,eu⟩:=aI d[a]!;obtain⟨v,ev⟩:=aI d[piv]!;have HSW:=af (h.swap (i:=a) (j:=piv) ae ae ev.symm eu.symm);rw[eu]at ca;rw[ev]at cp;obtain⟨tt,ct⟩:=jw (q:=⟨blk,off+a,none⟩) (u:=.U v) cp;obtain⟨d1,ed1⟩:=aI (swp d a piv);rw[ed1]at HSW;have WU:Hid (d1.size=N):=by show _=_;rw[<-ed1,size_swp];exact xf
 obtain⟨y,ey⟩:=aI d1[a]!;have HY1:=af ey;have HG:=af (aY (aD w blk (off+a) (.U v)) (aD _ blk (off+piv) (.U u)));obtain⟨I1,eI1⟩:∃I,scanUp (fun x=>ltInt x d1[a]!) d1 B1 (a+1)=I:=⟨_,rfl⟩;obtain⟨J2,eJ2⟩:∃J,scanDown (fun x=>!ltInt x d1[a]!) d1 I1 B1=J:=⟨_,rfl⟩;have HR:Hid (((R1,R2,R3):Nat×Bool×Array Int)=if I1>J2 then(J2,true,swp d1 J2 a)else((partLoop ltInt a (I1+1) (J2-1) (swp d1 I1 J2)).1,false,swp (partLoop ltInt a (I1+1) (J2-1) (swp d1 I1 J2)).2 (partLoop ltInt a (I1+1) (J2-1) (swp d1 I1 J2)).1 a)):=by show _=_;rw[<-eR,partition,ed1,eB0];simp only[eI1,eJ2]
 have EI1:=af eI1;have EJ2:=af eJ2;have kk1:=aP a N;have kk2:=aP piv N;go_enter func204,ntmps204;go_wp2_with fail
 go_region
 go_wp2_with fail
 go_loopw[10](fun s wr=>∃i1:Nat,s=.I i1/\a+1<=i1/\i1<=B1+2/\Hid (HU wr blk off d1)/\Hid (scanUp (fun x=>ltInt x d1[a]!) d1 B1 i1=I1)/\Hid (w.grownBy wr (some blk))) (fun s _=>B1+1-(intOf s).toNat)
 exact⟨a+1,by first|rfl|go_num,ae,ae,(aa HSW),EI1,(ar HG)⟩;{
 obtain⟨i1,rfl,qa1,qb1,AI,hE1,hG1⟩:=hrel;obtain⟨Bc,Ww⟩:∃B,(decide (i1<=B1)&&((fun x=>ltInt x d1[a]!) d1[i1]!))=B:=⟨_,rfl⟩;have vd:=af Ww;go_wp2_with fail
 go_cut[43](fun rv wc=>rv=.bool Bc/\wc=wr.drew)
 case first=>(
 by_cases kF:i1<=B1;{
 have AE:=iE i1 B1;have hdd:=aa WU;obtain⟨ci,-⟩:=aa AI i1 ae;obtain⟨ca,-⟩:=aa AI a ae;obtain⟨x,ex⟩:=aI d1[i1]!;rw[ex]at ci;rw[aa HY1]at ca;have k1:=aP i1 N;have k2:=aP a N;have k3:=dw 0 i1;obtain⟨L,eL⟩:=aI (ltInt x y);have EL:=af eL;have eB:Bc=L:=by rw[<-aa vd];simp only[Aq kF,ox,ex,aa HY1,eL]
 subst eB;have K0:=af (ah ci ca);refine dy (fun w'=>w'.cell? ⟨blk,off+i1,none⟩=some (.U x)/\w'.cell? ⟨blk,off+a,none⟩=some (.U y)) (by exact K0) fun hS=>?_;refine mn 0 1 2 3 4 5 6 7 hS ?_;refine mu 8 9 10 11 hS ?_;refine dE 12 fun KK hK=>?_;refine cX aH aH aH aH (fun _=>fT) (fQ) ?_;rintro r' w2⟨rfl,rfl⟩;refine⟨_,rfl,?_⟩;rw[aa EL];refine gr hK (by exact K0) fun hS=>?_;refine tn 13 hS ?_;refine di ?_;go_wp2_with fail;go_meet;exact⟨rfl,rfl⟩};{
 have AE:¬(i1:Int)<=(B1:Int):=ae;have eB:Bc=false:=by rw[<-aa vd,tg kF];rfl
 subst eB;refine dy (fun w'=>True) jW fun hS=>?_;refine mu 0 1 2 3 hS ?_;refine nK 4 5 6 7 hS ?_;refine nK 8 9 10 11 hS ?_;refine sn 12 hS ?_;refine tn 13 hS ?_;refine di ?_;go_wp2_with fail;go_meet;exact⟨rfl,rfl⟩})
 obtain⟨rfl,rfl⟩:=hcut;cases Bc with
 |true=>
  have hh:i1<=B1/\((fun x=>ltInt x d1[a]!) d1[i1]!)=true:=by have:=aa vd;rw[fu,oq]at this;exact this
  have hn:Hid (scanUp (fun x=>ltInt x d1[a]!) d1 B1 (i1+1)=I1):=by show _=_;rw[<-XH hh.1 hh.2];exact aa hE1
  have hle:=hh.1;go_wp2;go_roundw;exact⟨i1+1,by go_num,ae,ae,AI.drew,hn,ar hG1⟩;exact bG
 |false=>
  have cR:i1=I1:=by rw[<-aa hE1,JH];have:=aa vd;rw[yw,CG]at this;exact this
  subst cR;go_wp2_with fail
  go_loopw[11](fun s wr=>∃j2:Nat,s=.I j2/\i1<=j2+2/\j2<=B1/\Hid (HU wr blk off d1)/\Hid (scanDown (fun x=>!ltInt x d1[a]!) d1 i1 j2=J2)/\Hid (w.grownBy wr (some blk))) (fun s _=>(intOf s).toNat)
  exact⟨B1,by first|rfl|go_num,ae,ae,AI,EJ2,(ar hG1)⟩;{
 obtain⟨j2,rfl,qa2,qb2,zF,hE2,hG2⟩:=hrel;obtain⟨Bc,Ww⟩:∃B,(decide (i1<=j2)&&((fun x=>!ltInt x d1[a]!) d1[j2]!))=B:=⟨_,rfl⟩;have vd:=af Ww;go_wp2_with fail
 go_cut[60](fun rv wc=>rv=.bool Bc/\wc=wr.drew)
 case first=>(
 by_cases kF:i1<=j2;{
 have AE:=iE i1 j2;have hdd:=aa WU;obtain⟨ci,-⟩:=aa zF j2 ae;obtain⟨ca,-⟩:=aa zF a ae;obtain⟨x,ex⟩:=aI d1[j2]!;rw[ex]at ci;rw[aa HY1]at ca;have k1:=aP j2 N;have k2:=aP a N;have k3:=dw 0 j2;obtain⟨L,eL⟩:=aI (ltInt x y);have EL:=af eL;have eB:Bc=(!L):=by rw[<-aa vd];simp only[Aq kF,ox,ex,aa HY1,eL]
 subst eB;have K0:=af (ah ci ca);refine dy (fun w'=>w'.cell? ⟨blk,off+j2,none⟩=some (.U x)/\w'.cell? ⟨blk,off+a,none⟩=some (.U y)) (by exact K0) fun hS=>?_;refine mn 0 1 2 3 4 5 6 7 hS ?_;refine mu 8 9 10 11 hS ?_;refine dE 12 fun KK hK=>?_;refine cX aH aH aH aH (fun _=>fT) (fQ) ?_;rintro r' w2⟨rfl,rfl⟩;refine⟨_,rfl,?_⟩;rw[aa EL];refine gr hK (by exact K0) fun hS=>?_;refine jZ 13 14 hS ?_;refine di ?_;go_wp2_with fail;go_meet;exact⟨rfl,rfl⟩};{
 have AE:¬(i1:Int)<=(j2:Int):=ae;have eB:Bc=false:=by rw[<-aa vd,tg kF];rfl
 subst eB;refine dy (fun w'=>True) jW fun hS=>?_;refine mu 0 1 2 3 hS ?_;refine nK 4 5 6 7 hS ?_;refine nK 8 9 10 11 hS ?_;refine sn 12 hS ?_;refine sn 13 hS ?_;refine tn 14 hS ?_;refine di ?_;go_wp2_with fail;go_meet;exact⟨rfl,rfl⟩})
 obtain⟨rfl,rfl⟩:=hcut;cases Bc with
 |true=>
  have hh:i1<=j2/\((fun x=>!ltInt x d1[a]!) d1[j2]!)=true:=by have:=aa vd;rw[fu,oq]at this;exact this
  have hle:=hh.1;obtain⟨m,em⟩:∃m:Nat,(j2:Int)-1=(m:Int):=⟨j2-1,ae⟩;have hn:Hid (scanDown (fun x=>!ltInt x d1[a]!) d1 i1 m=J2):=by show _=_;rw[<-aa hE2,LG ae hh.1 hh.2,show j2-1=m by omega]
  go_wp2;go_roundw;exact⟨m,by first|rfl|go_num,ae,ae,zF.drew,hn,ar hG2⟩;exact bG
 |false=>
  have cR:j2=J2:=by rw[<-aa hE2,AO ae];have:=aa vd;rw[yw,CG]at this;exact this
  subst cR;by_cases hgt:j2<i1;{
 have cf5:=aP j2 i1;have hr:=aa HR;rw[bN hgt]at hr;simp only[fO]at hr;obtain⟨Pn,Lw,er3⟩:=hr;replace Pn:=Pn.symm;replace er3:=er3.symm;subst Pn Lw er3;obtain⟨c1,f1⟩:=aa zF j2 (by have:=aa WU;omega);obtain⟨c2,f2⟩:=aa zF a (by have:=aa WU;omega);obtain⟨p1,Gf⟩:=aI d1[j2]!;obtain⟨p2,Ge⟩:=aI d1[a]!;rw[Gf]at c1;rw[Ge]at c2;obtain⟨tt,ct⟩:=jw (q:=⟨blk,off+j2,none⟩) (u:=.U p2) c2;have uI:=af (zF.swap (i:=j2) (j:=a) (by have:=aa WU;omega) (by have:=aa WU;omega) Ge.symm Gf.symm);have Qy:=af (aY (aY hG2 (aD _ blk (off+j2) (.U p2))) (aD _ blk (off+a) (.U p1)));have l1:=aP j2 N;have l2:=aP a N;have l3:=dw 0 j2;have l4:=dw 0 a;go_wp2_with fail
 go_region
 go_wp2
 go_ret2
 exact⟨rfl,uI,ar (ar Qy)⟩};{
 have cf5:=du j2 i1;obtain⟨⟨Q1,Q2⟩,eQ⟩:∃Q,partLoop ltInt a (i1+1) (j2-1) (swp d1 i1 j2)=Q:=⟨_,rfl⟩;have hr:=aa HR;rw[bH hgt,eQ]at hr;have HRB:=af hr;have EQ:=af eQ;obtain⟨c1,f1⟩:=aa zF i1 (by have:=aa WU;omega);obtain⟨c2,f2⟩:=aa zF j2 (by have:=aa WU;omega);obtain⟨p1,Gf⟩:=aI d1[i1]!;obtain⟨p2,Ge⟩:=aI d1[j2]!;rw[Gf]at c1;rw[Ge]at c2;obtain⟨tt,ct⟩:=jw (q:=⟨blk,off+i1,none⟩) (u:=.U p2) c2;have uI:=af (zF.swap (i:=i1) (j:=j2) (by have:=aa WU;omega) (by have:=aa WU;omega) Ge.symm Gf.symm);have Qy:=af (aY (aY hG2 (aD _ blk (off+i1) (.U p2))) (aD _ blk (off+j2) (.U p1)));have l1:=aP i1 N;have l2:=aP j2 N;have l3:=dw 0 i1;have l4:=dw 0 j2;obtain⟨m2,em2⟩:∃m:Nat,(j2:Int)-1=(m:Int):=⟨j2-1,ae⟩;have cn9:j2-1=m2:=ae;rw[cn9]at EQ;have HD2:Hid ((swp d1 i1 j2).size=N):=by show _=_;rw[size_swp];exact aa WU
 go_wp2_with fail
 go_region
 go_wp2_with fail
 go_loopw[10,11](fun Q7 s11 wr=>∃(i j:Nat)(dk:Array Int),Q7=.I i/\s11=.I j/\a+1<=i/\i<=j+2/\j<=B1/\Hid (dk.size=N)/\Hid (HU wr blk off dk)/\Hid (partLoop ltInt a i j dk=(Q1,Q2))/\Hid (w.grownBy wr (some blk))) (fun Q7 s11 _=>(intOf s11+2-intOf Q7).toNat)
 exact⟨i1+1,m2,_,by first|rfl|go_num,by first|rfl|go_num,ae,ae,ae,HD2,uI,EQ,ar (ar Qy)⟩;{
 obtain⟨i,j,dk,rfl,rfl,z1,z2,z3,Gy,Lo,hQ3,hG3⟩:=hrel;obtain⟨y,ey⟩:=aI dk[a]!;have HY3:=af ey;obtain⟨I4,eI4⟩:∃I,scanUp (fun x=>ltInt x dk[a]!) dk j i=I:=⟨_,rfl⟩;obtain⟨J5,eJ5⟩:∃J,scanDown (fun x=>!ltInt x dk[a]!) dk I4 j=J:=⟨_,rfl⟩;have EI4:=af eI4;have EJ5:=af eJ5;have aj0:=EI4;have ai9:=EJ5;go_wp2_with fail;obtain⟨Y,eY⟩:=au wr;subst eY
 go_loopw[10](fun s wr=>∃i4:Nat,s=.I i4/\i<=i4/\i4<=j+2/\Hid (HU wr blk off dk)/\Hid (scanUp (fun x=>ltInt x dk[a]!) dk j i4=I4)/\Hid (w.grownBy wr (some blk))) (fun s _=>j+1-(intOf s).toNat)
 exact⟨i,by first|rfl|go_num,ae,ae,Lo,EI4,hG3⟩;{
 obtain⟨i4,rfl,qa4,qb4,Pj,hE4,hG4⟩:=hrel;obtain⟨Bc,Ww⟩:∃B,(decide (i4<=j)&&((fun x=>ltInt x dk[a]!) dk[i4]!))=B:=⟨_,rfl⟩;have vd:=af Ww;go_wp2_with fail
 go_cut[112](fun rv wc=>rv=.bool Bc/\wc=wr.drew)
 case first=>(
 by_cases kF:i4<=j;{
 have AE:=iE i4 j;have hdd:=aa Gy;obtain⟨ci,-⟩:=aa Pj i4 ae;obtain⟨ca,-⟩:=aa Pj a ae;obtain⟨x,ex⟩:=aI dk[i4]!;rw[ex]at ci;rw[aa HY3]at ca;have k1:=aP i4 N;have k2:=aP a N;have k3:=dw 0 i4;obtain⟨L,eL⟩:=aI (ltInt x y);have EL:=af eL;have eB:Bc=L:=by rw[<-aa vd];simp only[Aq kF,ox,ex,aa HY3,eL]
 subst eB;have K0:=af (ah ci ca);refine dy (fun w'=>w'.cell? ⟨blk,off+i4,none⟩=some (.U x)/\w'.cell? ⟨blk,off+a,none⟩=some (.U y)) (by exact K0) fun hS=>?_;refine mn 0 1 2 3 4 5 6 7 hS ?_;refine mu 8 9 10 11 hS ?_;refine dE 12 fun KK hK=>?_;refine cX aH aH aH aH (fun _=>fT) (fQ) ?_;rintro r' w2⟨rfl,rfl⟩;refine⟨_,rfl,?_⟩;rw[aa EL];refine gr hK (by exact K0) fun hS=>?_;refine tn 13 hS ?_;refine di ?_;go_wp2_with fail;go_meet;exact⟨rfl,rfl⟩};{
 have AE:¬(i4:Int)<=(j:Int):=ae;have eB:Bc=false:=by rw[<-aa vd,tg kF];rfl
 subst eB;refine dy (fun w'=>True) jW fun hS=>?_;refine mu 0 1 2 3 hS ?_;refine nK 4 5 6 7 hS ?_;refine nK 8 9 10 11 hS ?_;refine sn 12 hS ?_;refine tn 13 hS ?_;refine di ?_;go_wp2_with fail;go_meet;exact⟨rfl,rfl⟩})
 obtain⟨rfl,rfl⟩:=hcut;cases Bc with
 |true=>
  have hh:i4<=j/\((fun x=>ltInt x dk[a]!) dk[i4]!)=true:=by have:=aa vd;rw[fu,oq]at this;exact this
  have hn:Hid (scanUp (fun x=>ltInt x dk[a]!) dk j (i4+1)=I4):=by show _=_;rw[<-XH hh.1 hh.2];exact aa hE4
  have hle:=hh.1;go_wp2;go_roundw;exact⟨i4+1,by go_num,ae,ae,Pj.drew,hn,ar hG4⟩;exact bG
 |false=>
  have cR:i4=I4:=by rw[<-aa hE4,JH];have:=aa vd;rw[yw,CG]at this;exact this
  subst cR;go_wp2_with fail
  go_loopw[11](fun s wr=>∃j5:Nat,s=.I j5/\i4<=j5+2/\j5<=j/\Hid (HU wr blk off dk)/\Hid (scanDown (fun x=>!ltInt x dk[a]!) dk i4 j5=J5)/\Hid (w.grownBy wr (some blk))) (fun s _=>(intOf s).toNat)
  exact⟨j,by first|rfl|go_num,ae,ae,Pj,EJ5,(ar hG4)⟩;{
 obtain⟨j5,rfl,qa5,qb5,Ig,hE5,hG5⟩:=hrel;obtain⟨Bc,Ww⟩:∃B,(decide (i4<=j5)&&((fun x=>!ltInt x dk[a]!) dk[j5]!))=B:=⟨_,rfl⟩;have vd:=af Ww;go_wp2_with fail
 go_cut[129](fun rv wc=>rv=.bool Bc/\wc=wr.drew)
 case first=>(
 by_cases kF:i4<=j5;{
 have AE:=iE i4 j5;have hdd:=aa Gy;obtain⟨ci,-⟩:=aa Ig j5 ae;obtain⟨ca,-⟩:=aa Ig a ae;obtain⟨x,ex⟩:=aI dk[j5]!;rw[ex]at ci;rw[aa HY3]at ca;have k1:=aP j5 N;have k2:=aP a N;have k3:=dw 0 j5;obtain⟨L,eL⟩:=aI (ltInt x y);have EL:=af eL;have eB:Bc=(!L):=by rw[<-aa vd];simp only[Aq kF,ox,ex,aa HY3,eL]
 subst eB;have K0:=af (ah ci ca);refine dy (fun w'=>w'.cell? ⟨blk,off+j5,none⟩=some (.U x)/\w'.cell? ⟨blk,off+a,none⟩=some (.U y)) (by exact K0) fun hS=>?_;refine mn 0 1 2 3 4 5 6 7 hS ?_;refine mu 8 9 10 11 hS ?_;refine dE 12 fun KK hK=>?_;refine cX aH aH aH aH (fun _=>fT) (fQ) ?_;rintro r' w2⟨rfl,rfl⟩;refine⟨_,rfl,?_⟩;rw[aa EL];refine gr hK (by exact K0) fun hS=>?_;refine jZ 13 14 hS ?_;refine di ?_;go_wp2_with fail;go_meet;exact⟨rfl,rfl⟩};{
 have AE:¬(i4:Int)<=(j5:Int):=ae;have eB:Bc=false:=by rw[<-aa vd,tg kF];rfl
 subst eB;refine dy (fun w'=>True) jW fun hS=>?_;refine mu 0 1 2 3 hS ?_;refine nK 4 5 6 7 hS ?_;refine nK 8 9 10 11 hS ?_;refine sn 12 hS ?_;refine sn 13 hS ?_;refine tn 14 hS ?_;refine di ?_;go_wp2_with fail;go_meet;exact⟨rfl,rfl⟩})
 obtain⟨rfl,rfl⟩:=hcut;cases Bc with
 |true=>
  have hh:i4<=j5/\((fun x=>!ltInt x dk[a]!) dk[j5]!)=true:=by have:=aa vd;rw[fu,oq]at this;exact this
  have hle:=hh.1;obtain⟨m,em⟩:∃m:Nat,(j5:Int)-1=(m:Int):=⟨j5-1,ae⟩;have hn:Hid (scanDown (fun x=>!ltInt x dk[a]!) dk i4 m=J5):=by show _=_;rw[<-aa hE5,LG ae hh.1 hh.2,show j5-1=m by omega]
  go_wp2;go_roundw;exact⟨m,by first|rfl|go_num,ae,ae,Ig.drew,hn,ar hG5⟩;exact bG
 |false=>
  have cR:j5=J5:=by rw[<-aa hE5,AO ae];have:=aa vd;rw[yw,CG]at this;exact this
  subst cR;by_cases ra:j5<i4;{
 have aS0:=aP j5 i4;have hq:=aa hQ3;rw[Hd (aa aj0) (aa ai9) ra]at hq;simp only[fO]at hq;obtain⟨eq1,eq2⟩:=hq;subst eq1 eq2;have hr:=aa HRB;simp only[fO]at hr;obtain⟨Pn,Lw,er3⟩:=hr;replace Pn:=Pn.symm;replace er3:=er3.symm;subst Pn Lw er3;obtain⟨c1,f1⟩:=aa Ig j5 (by have:=aa Gy;omega);obtain⟨c2,f2⟩:=aa Ig a (by have:=aa Gy;omega);obtain⟨p1,Gf⟩:=aI dk[j5]!;obtain⟨p2,Ge⟩:=aI dk[a]!;rw[Gf]at c1;rw[Ge]at c2;obtain⟨tt,ct⟩:=jw (q:=⟨blk,off+j5,none⟩) (u:=.U p2) c2;have uI:=af (Ig.swap (i:=j5) (j:=a) (by have:=aa Gy;omega) (by have:=aa Gy;omega) Ge.symm Gf.symm);have Qy:=af (aY (aY hG5 (aD _ blk (off+j5) (.U p2))) (aD _ blk (off+a) (.U p1)));have l1:=aP j5 N;have l2:=aP a N;have l3:=dw 0 j5;have l4:=dw 0 a;go_wp2_with fail
 go_region
 go_wp2
 go_ret2
 exact⟨rfl,uI,ar (ar Qy)⟩};{
 have aS0:=du j5 i4;have hq:=aa hQ3;rw[Nj (aa aj0) (aa ai9) ra ae ae ae]at hq;have HQ5:=af hq;obtain⟨c1,f1⟩:=aa Ig i4 (by have:=aa Gy;omega);obtain⟨c2,f2⟩:=aa Ig j5 (by have:=aa Gy;omega);obtain⟨p1,Gf⟩:=aI dk[i4]!;obtain⟨p2,Ge⟩:=aI dk[j5]!;rw[Gf]at c1;rw[Ge]at c2;obtain⟨tt,ct⟩:=jw (q:=⟨blk,off+i4,none⟩) (u:=.U p2) c2;have uI:=af (Ig.swap (i:=i4) (j:=j5) (by have:=aa Gy;omega) (by have:=aa Gy;omega) Ge.symm Gf.symm);have Qy:=af (aY (aY hG5 (aD _ blk (off+i4) (.U p2))) (aD _ blk (off+j5) (.U p1)));have l1:=aP i4 N;have l2:=aP j5 N;have l3:=dw 0 i4;have l4:=dw 0 j5;obtain⟨m5,em5⟩:∃m:Nat,(j5:Int)-1=(m:Int):=⟨j5-1,ae⟩;have aV6:j5-1=m5:=ae;rw[aV6]at HQ5;have HD5:Hid ((swp dk i4 j5).size=N):=by show _=_;rw[size_swp];exact aa Gy
 go_wp2_with fail
 go_region
 go_wp2;go_roundw;exact⟨i4+1,m5,_,by first|rfl|go_num,by first|rfl|go_num,ae,ae,ae,HD5,uI,HQ5,ar (ar Qy)⟩
 case measure=>simp[intOf];omega}}}}}}}
end Q
namespace Q
open Go.Sort Go.RowKit Go.Proofs.Tryz
def bi8(h:i<b)(hp:ltInt d[i]! d[i-1]! = false):scanSorted ltInt d b i=scanSorted ltInt d b (i+1):=by
 rw[scanSorted,bN (by simp[h,hp])]
def an9(h:¬i<b\/ltInt d[i]! d[i-1]! = true):scanSorted ltInt d b i=i:=by
 rw[scanSorted,bH];rcases h with h|h;{simp;omega};{simp[h]}
theorem Tz:∀(j:Nat)(d:Array Int),(shiftDown ltInt j d).size=d.size
 |0,d=>rfl
 |j+1,d=>by
  rw[shiftDown];split;{rfl}
  {rw[Tz j,size_swp]}
theorem an3(b:Nat):∀(k j:Nat)(d:Array Int),b-j<=k->(shiftUp ltInt b j d).size=d.size:=by
 intro k
 induction k with
 |zero=>intro j d h;rw[shiftUp,bH ae]
 |succ k ih=>
  intro j d h;rw[shiftUp];split;{
 split;{rfl}
 {rw[ih _ _ ae,size_swp]}};{rfl}
theorem bj2(h:0<j)(hp:ltInt d[j]! d[j-1]! = true):shiftDown ltInt j d=shiftDown ltInt (j-1) (swp d j (j-1)):=by
 cases j with
 |zero=>omega
 |succ j=>
  simp only[yC]at hp⊢;rw[shiftDown,bH (by simp[hp])]
theorem Ty(h:j=0\/ltInt d[j]! d[j-1]! = false):shiftDown ltInt j d=d:=by
 cases j with
 |zero=>rfl
 |succ j=>
  rcases h with h|h;{omega};{simp only[yC]at h;rw[shiftDown,bN (by simp[h])]}
def bi6(h:j<b)(hp:ltInt d[j]! d[j-1]! = true):shiftUp ltInt b j d=shiftUp ltInt b (j+1) (swp d j (j-1)):=by
 rw[shiftUp,bN h,bH (by simp[hp])]
def Tt(h:¬j<b\/ltInt d[j]! d[j-1]! = false):shiftUp ltInt b j d=d:=by
 rw[shiftUp];rcases h with h|h;{rw[bH h]};{split;{rw[bN (by simp[h])]};{rfl}}
def ap3{a b s i I:Nat}(hI:scanSorted ltInt d b i=I)(h:I=b):partialIns ltInt a b (s+1) i d=(d,true):=by
 rw[partialIns];simp only[hI];rw[bN h]
def pi_short{a b s i I:Nat}(hI:scanSorted ltInt d b i=I)(h:¬I=b)(h5:b-a<50):partialIns ltInt a b (s+1) i d=(d,false):=by
 rw[partialIns];simp only[hI];rw[bH h,bN h5]
def pi_go{a b s i I:Nat}(hI:scanSorted ltInt d b i=I)(h:¬I=b)(h5:¬b-a<50){d2 d3 d4:Array Int}(h2:swp d I (I-1)=d2)(h3:(if I-a>=2 then shiftDown ltInt (I-1) d2 else d2)=d3)(h4:(if b-I>=2 then shiftUp ltInt b (I+1) d3 else d3)=d4):partialIns ltInt a b (s+1) i d=partialIns ltInt a b s I d4:=by
 rw[partialIns];simp only[hI];rw[bH h,bH h5,h2,h3,h4]
theorem Vw{blk off cap N a b:Nat}(hN:Hid (d.size=N)){w:World}(h:HU w blk off d)(Ql:a<b)(hb:b<=N)(iO:N<=1048576):Cp 201 #[.S (some ⟨blk,off,none⟩) N cap,.I a,.I b] w fun e w'=>e=.returned (.bool (partialInsertionSort ltInt d a b).2)/\HU w' blk off (partialInsertionSort ltInt d a b).1/\w.grownBy w' (some blk):=by
 obtain⟨⟨R1,R2⟩,eR⟩:∃R,partialInsertionSort ltInt d a b=R:=⟨_,rfl⟩;rw[eR];have ER:Hid (partialIns ltInt a b 5 (a+1) d=(R1,R2)):=eR;have H0:=af h;obtain⟨Lz,eL⟩:∃x:Nat,(b:Int)-(a:Int)=(x:Int):=⟨b-a,ae⟩;have eL0:=af (show b-a=Lz by omega);have wL:=dZ Lz;go_enter func201,ntmps201;go_wp2_with fail
 go_loopw[7,8](fun s7 s8 wr=>∃(i s:Nat)(jz:Int)(dk:Array Int),s7=.I i/\s8=.I jz/\jz+s=5/\0<=jz/\a+1<=i/\i<=b/\Hid (dk.size=N)/\Hid (HU wr blk off dk)/\Hid (partialIns ltInt a b s i dk=(R1,R2))/\Hid (w.grownBy wr (some blk))) (fun _ s8 _=>(5-intOf s8).toNat)
 exact⟨a+1,5,0,d,by first|rfl|go_num,rfl,rfl,ae,ae,ae,hN,H0,ER,qj⟩;{
 obtain⟨i,s,jz,dk,rfl,rfl,z1,z2,z3,z4,HD,hH,hQ,hG⟩:=hrel;cases s with
 |zero=>
  have hj:¬jz<5:=ae;have hq:=aa hQ;simp only[partialIns,fO]at hq;obtain⟨eq1,eq2⟩:=hq;subst eq1 eq2;go_wp2;go_ret;exact⟨rfl,hH,hG⟩
 |succ t=>
  have hj:jz<5:=ae;obtain⟨I,eI⟩:=aI (scanSorted ltInt dk b i);have EI:=af eI;have EI':=af eI;have xf:=aa HD;go_wp2_with fail;obtain⟨Y,eY⟩:=au wr;subst eY
  go_loopw[7](fun s7 wr=>∃i1:Nat,s7=.I i1/\a+1<=i1/\i1<=b/\Hid (HU wr blk off dk)/\Hid (scanSorted ltInt dk b i1=I)/\Hid (w.grownBy wr (some blk))) (fun s7 _=>b-(intOf s7).toNat)
  exact⟨i,rfl,ae,ae,hH,EI,hG⟩;{
 obtain⟨i1,rfl,qa,qb,AI,hE1,hG1⟩:=hrel;obtain⟨Bc,Ww⟩:=aI (decide (i1<b)&&!ltInt dk[i1]! dk[i1-1]!);have vd:=af Ww;obtain⟨m,em⟩:∃m:Nat,(i1:Int)-1=(m:Int):=⟨i1-1,ae⟩;have em0:=af (show i1-1=m by omega);have wm:=dZ m;go_wp2_with fail
 go_cut[32](fun rv wc=>rv=.bool Bc/\wc=wr.drew)
 case first=>(
 by_cases kF:i1<b;{
 have AE:=aP i1 b;obtain⟨c1,-⟩:=aa AI i1 ae;obtain⟨c2,-⟩:=aa AI m ae;obtain⟨x,ex⟩:=aI dk[i1]!;obtain⟨y,ey⟩:=aI dk[m]!;rw[ex]at c1;rw[ey]at c2;have k1:=aP i1 N;have k2:=aP m N;have k3:=dw 0 i1;have k4:=dw 0 m;obtain⟨L,eL'⟩:=aI (ltInt x y);have EL:=af eL';have eB:Bc=(!L):=by rw[<-aa vd];simp only[Aq kF,ox,aa em0,ex,ey,eL']
 subst eB;have K0:=af (ah c1 c2);refine dy (fun w'=>w'.cell? ⟨blk,off+i1,none⟩=some (.U x)/\w'.cell? ⟨blk,off+m,none⟩=some (.U y)) (by exact K0) fun hS=>?_;refine mn 0 1 2 3 4 5 6 7 hS ?_;refine mu 8 9 10 11 hS ?_;refine tn 12 hS ?_;refine dE 13 fun KK hK=>?_;refine cX aH aH aH aH (fun _=>fT) (fQ) ?_;rintro r' w2⟨rfl,rfl⟩;refine⟨_,rfl,?_⟩;rw[aa EL];refine gr hK (by exact K0) fun hS=>?_;refine jZ 14 15 hS ?_;refine di ?_;go_wp2_with fail;go_meet;exact⟨rfl,rfl⟩};{
 have AE:=du i1 b;have eB:Bc=false:=by rw[<-aa vd,tg kF];rfl
 subst eB;refine dy (fun w'=>True) jW fun hS=>?_;refine mu 0 1 2 3 hS ?_;refine nK 4 5 6 7 hS ?_;refine nK 8 9 10 11 hS ?_;refine sn 12 hS ?_;refine sn 13 hS ?_;refine sn 14 hS ?_;refine tn 15 hS ?_;refine di ?_;go_wp2_with fail;go_meet;exact⟨rfl,rfl⟩})
 obtain⟨rfl,rfl⟩:=hcut;cases Bc with
 |true=>
  have hh:i1<b/\ltInt dk[i1]! dk[i1-1]! = false:=by have:=aa vd;simp only[fu,oq,Bool.not_eq_true']at this;exact this
  have hn:Hid (scanSorted ltInt dk b (i1+1)=I):=by show _=_;rw[<-bi8 hh.1 hh.2];exact aa hE1
  have hle:=hh.1;go_wp2;go_roundw;exact⟨i1+1,by go_num,ae,ae,AI.drew,hn,ar hG1⟩;exact bG
 |false=>
  have cR:i1=I:=by rw[<-aa hE1,an9];have:=aa vd;simp only[yw,CG,Bool.not_eq_false']at this;exact this
  subst cR;by_cases hib:i1=b;{have hq:=aa hQ;rw[ap3 (aa EI') hib,fO]at hq;obtain⟨eq1,eq2⟩:=hq;subst eq1 eq2;subst hib;go_wp2;go_ret;exact⟨rfl,AI,ar hG1⟩};{
 have dr2:¬(i1:Int)=(b:Int):=ae;by_cases h5:Lz<50;{have h5':(Lz:Int)<50:=ae;have hq:=aa hQ;rw[pi_short (aa EI') hib (by rw[aa eL0];exact h5),fO]at hq;obtain⟨eq1,eq2⟩:=hq;subst eq1 eq2;go_wp2;go_ret;exact⟨rfl,AI,ar hG1⟩};{
 have h5':¬(Lz:Int)<50:=ae;obtain⟨d2,e2⟩:=aI (swp dk i1 (i1-1));obtain⟨d3,e3⟩:∃x,(if i1-a>=2 then shiftDown ltInt (i1-1) d2 else d2)=x:=⟨_,rfl⟩;obtain⟨d4,e4⟩:∃x,(if b-i1>=2 then shiftUp ltInt b (i1+1) d3 else d3)=x:=⟨_,rfl⟩;have hq:=aa hQ;rw[pi_go (aa EI') hib (by rw[aa eL0];exact h5) e2 e3 e4]at hq;have HQ:=af hq;rw[aa em0]at e2 e3;have HD2:Hid (d2.size=N):=by show _=_;rw[<-e2,size_swp];exact xf
 have Gy:Hid (d3.size=N):=by show _=_;rw[<-e3];split;{rw[Tz];exact aa HD2};{exact HD2}
 have HD4:Hid (d4.size=N):=by show _=_;rw[<-e4];split;{rw[an3 b _ _ _ ao];exact aa Gy};{exact Gy}
 obtain⟨c1,f1⟩:=aa AI i1 ae;obtain⟨c2,f2⟩:=aa AI m ae;obtain⟨p1,Gf⟩:=aI dk[i1]!;obtain⟨p2,Ge⟩:=aI dk[m]!;rw[Gf]at c1;rw[Ge]at c2;have uI:=af (AI.swap (i:=i1) (j:=m) ae ae Ge.symm Gf.symm);rw[e2]at uI;have Qy:=af (aY (aY hG1 (aD _ blk (off+i1) (.U p2))) (aD _ blk (off+m) (.U p1)));have l1:=aP i1 N;have l2:=aP m N;have l3:=dw 0 m;have E3:=af e3;have E4:=af e4;obtain⟨A1,eA⟩:∃x:Nat,(i1:Int)-(a:Int)=(x:Int):=⟨i1-a,ae⟩;have eA0:=af (show i1-a=A1 by omega);have wA:=dZ A1;obtain⟨B1,eB1⟩:∃x:Nat,(b:Int)-(i1:Int)=(x:Int):=⟨b-i1,ae⟩;have eB0:=af (show b-i1=B1 by omega);have wB:=dZ B1;go_wp2_with fail
 go_region
 go_upto_if 61 with fail
 go_cut[9](fun s9 wc=>Hid (HU wc blk off d3)/\Hid (w.grownBy wc (some blk)))
 case first=>(
 by_cases hC:A1>=2;{
 have hC':(A1:Int)>=2:=ae;have hC2:=dw 2 A1
 try simp only[hC2,decide_true]
 have E3':Hid (shiftDown ltInt m d2=d3):=by have:=aa E3;rw[aa eA0,bN hC]at this;exact this
 go_wp2_with fail;obtain⟨Y2,eY2⟩:=au wr;subst eY2
 go_loopw[9](fun s9 wr=>∃(j:Nat)(dj:Array Int),s9=.I j/\j<=m/\Hid (dj.size=N)/\Hid (HU wr blk off dj)/\Hid (shiftDown ltInt j dj=d3)/\Hid (w.grownBy wr (some blk))) (fun s9 _=>(intOf s9).toNat)
 exact⟨m,d2,by first|rfl|go_num,ae,HD2,by exact uI,E3',by exact ar (ar Qy)⟩;{
 obtain⟨j,dj,rfl,q1,hdj,GP,Se,hg⟩:=hrel;by_cases hgo:0<j;{
 have aa2:=dw 1 j;obtain⟨jm,ejm⟩:∃x:Nat,(j:Int)-1=(x:Int):=⟨j-1,ae⟩;have Sy:j-1=jm:=ae;have wjm:=dZ jm;have OY:=aa hdj;obtain⟨cj,fj⟩:=aa GP j ae;obtain⟨cm,fm⟩:=aa GP jm ae;obtain⟨y,ey⟩:=aI dj[j]!;obtain⟨z,ez⟩:=aI dj[jm]!;have RH:=af (GP.swap (i:=j) (j:=jm) ae ae ez.symm ey.symm);rw[ey]at cj;rw[ez]at cm;have i1':=aP j N;have i2':=aP jm N;have i3':=dw 0 jm;have i4':=dw 0 j;obtain⟨B,eB⟩:=aI (ltInt y z);have EB:=af eB;have uJ:Hid (B=false->dj=d3):=fun hB=>by rw[<-aa Se,Ty (.inr (by rw[Sy,ey,ez,eB,hB]))]
 have HGO:Hid (B=true->shiftDown ltInt jm (swp dj j jm)=d3):=fun hB=>by rw[<-aa Se,bj2 hgo (by rw[Sy,ey,ez,eB,hB]),Sy]
 have tC:Hid ((swp dj j jm).size=N):=by show _=_;rw[size_swp];exact OY
 have HGs:=af (aY (aY hg (aD _ blk (off+j) (.U z))) (aD _ blk (off+jm) (.U y)));have K0:=af (ah cj cm);have FF:=af (ah fj fm);go_wp2_with fail
 go_cut[78](fun rv wc=>rv=.bool (!B)/\wc=wr.drew)
 case first=>(
 refine dy (fun w'=>w'.cell? ⟨blk,off+j,none⟩=some (.U y)/\w'.cell? ⟨blk,off+jm,none⟩=some (.U z)) (by exact K0) fun hS=>?_;refine mn 0 1 2 3 4 5 6 7 hS ?_;refine tn 8 hS ?_;refine ry [9] ?_;refine cn (fun KK hK=>?_) ?_;{refine cX aH aH aH aH (fun _=>fT) (fQ) ?_;rintro r w2⟨rfl,rfl⟩;refine⟨_,rfl,?_⟩;rw[aa EB];refine gr hK (by exact K0) fun hS=>?_;refine tn 10 hS ?_;refine di ?_;go_wp2_with fail;go_meet;exact⟨rfl,rfl⟩};exact AllReadyH.nil)
 obtain⟨rfl,rfl⟩:=hcut;cases B with
 |false=>
  have e:=aa uJ rfl;subst e;go_wp2_with fail;go_meet;exact⟨GP,ar hg⟩
 |true=>
  have e:=af (aa HGO rfl);obtain⟨cj,cm⟩:=aa K0;obtain⟨fj,fm⟩:=aa FF;go_wp2_with fail
  go_region
  go_wp2;go_roundw
  case rel=>(
 exact⟨jm,swp dj j jm,by first|rfl|go_num,ae,tC,(aa RH),e,ar (ar HGs)⟩)
  case measure=>simp[intOf];omega}
 {
 have aa2:¬(1:Int)<=(j:Int):=ae;have e:dj=d3:=by rw[<-aa Se,Ty (.inl ae)]
 subst e;go_wp2_with fail;go_meet;exact⟨GP,hg⟩}}};{
 have hC':¬(A1:Int)>=2:=ae;have hC2:¬(2:Int)<=(A1:Int):=ae
 try simp only[hC2,Ui]
 have e:d2=d3:=by have:=aa E3;rw[aa eA0,bH hC]at this;exact this
 subst e;go_wp2_with fail;go_meet;exact⟨by exact uI,by exact ar (ar Qy)⟩})
 obtain⟨Lo,hG3⟩:=hcut;obtain⟨Y3,eY3⟩:=au wc;subst eY3
 go_upto_if 98 with fail
 by_cases hC:B1>=2;{
 have hC':(B1:Int)>=2:=ae;have hC2:=dw 2 B1
 try simp only[hC2,decide_true]
 have E3':Hid (shiftUp ltInt b (i1+1) d3=d4):=by have:=aa E4;rw[aa eB0,bN hC]at this;exact this
 go_wp2_with fail;obtain⟨Y2,eY2⟩:=au wr;subst eY2
 go_loopw[10](fun Q7 wr=>∃(j:Nat)(dj:Array Int),Q7=.I j/\i1+1<=j/\j<=b/\Hid (dj.size=N)/\Hid (HU wr blk off dj)/\Hid (shiftUp ltInt b j dj=d4)/\Hid (w.grownBy wr (some blk))) (fun Q7 _=>b-(intOf Q7).toNat)
 exact⟨i1+1,d3,by first|rfl|go_num,ae,ae,Gy,by exact Lo,E3',by exact hG3⟩;{
 obtain⟨j,dj,rfl,q1,q2,hdj,GP,Se,hg⟩:=hrel;by_cases hgo:j<b;{
 have aa2:=aP j b;obtain⟨jm,ejm⟩:∃x:Nat,(j:Int)-1=(x:Int):=⟨j-1,ae⟩;have Sy:j-1=jm:=ae;have wjm:=dZ jm;have OY:=aa hdj;obtain⟨cj,fj⟩:=aa GP j ae;obtain⟨cm,fm⟩:=aa GP jm ae;obtain⟨y,ey⟩:=aI dj[j]!;obtain⟨z,ez⟩:=aI dj[jm]!;have RH:=af (GP.swap (i:=j) (j:=jm) ae ae ez.symm ey.symm);rw[ey]at cj;rw[ez]at cm;have i1':=aP j N;have i2':=aP jm N;have i3':=dw 0 jm;have i4':=dw 0 j;obtain⟨B,eB⟩:=aI (ltInt y z);have EB:=af eB;have uJ:Hid (B=false->dj=d4):=fun hB=>by rw[<-aa Se,Tt (.inr (by rw[Sy,ey,ez,eB,hB]))]
 have HGO:Hid (B=true->shiftUp ltInt b (j+1) (swp dj j jm)=d4):=fun hB=>by rw[<-aa Se,bi6 hgo (by rw[Sy,ey,ez,eB,hB]),Sy]
 have tC:Hid ((swp dj j jm).size=N):=by show _=_;rw[size_swp];exact OY
 have HGs:=af (aY (aY hg (aD _ blk (off+j) (.U z))) (aD _ blk (off+jm) (.U y)));have K0:=af (ah cj cm);have FF:=af (ah fj fm);go_wp2_with fail
 go_cut[116](fun rv wc=>rv=.bool (!B)/\wc=wr.drew)
 case first=>(
 refine dy (fun w'=>w'.cell? ⟨blk,off+j,none⟩=some (.U y)/\w'.cell? ⟨blk,off+jm,none⟩=some (.U z)) (by exact K0) fun hS=>?_;refine mn 0 1 2 3 4 5 6 7 hS ?_;refine tn 8 hS ?_;refine ry [9] ?_;refine cn (fun KK hK=>?_) ?_;{refine cX aH aH aH aH (fun _=>fT) (fQ) ?_;rintro r w2⟨rfl,rfl⟩;refine⟨_,rfl,?_⟩;rw[aa EB];refine gr hK (by exact K0) fun hS=>?_;refine tn 10 hS ?_;refine di ?_;go_wp2_with fail;go_meet;exact⟨rfl,rfl⟩};exact AllReadyH.nil)
 obtain⟨rfl,rfl⟩:=hcut;cases B with
 |false=>
  have e:=aa uJ rfl;subst e;go_wp2;go_roundw
  case rel=>(
 exact⟨i1,t,jz+1,_,rfl,by first|rfl|go_num,ae,ae,ae,ae,HD4,GP,HQ,ar hg⟩)
  case measure=>simp[intOf];omega
 |true=>
  have e:=af (aa HGO rfl);obtain⟨cj,cm⟩:=aa K0;obtain⟨fj,fm⟩:=aa FF;go_wp2_with fail
  go_region
  go_wp2;go_roundw
  case rel=>(
 exact⟨j+1,swp dj j jm,by first|rfl|go_num,ae,ae,tC,(aa RH),e,ar (ar HGs)⟩)
  case measure=>simp[intOf];omega}
 {
 have aa2:=du j b;have e:dj=d4:=by rw[<-aa Se,Tt (.inl hgo)]
 subst e;go_wp2;go_roundw
 case rel=>(
 exact⟨i1,t,jz+1,_,rfl,by first|rfl|go_num,ae,ae,ae,ae,HD4,GP,HQ,hg⟩)
 case measure=>simp[intOf];omega}}}
 {
 have hC':¬(B1:Int)>=2:=ae;have hC2:¬(2:Int)<=(B1:Int):=ae
 try simp only[hC2,Ui]
 have e:d3=d4:=by have:=aa E4;rw[aa eB0,bH hC]at this;exact this
 subst e;go_wp2;go_roundw
 case rel=>(
 exact⟨i1,t,jz+1,_,rfl,by first|rfl|go_num,ae,ae,ae,ae,HD4,by exact Lo,HQ,by exact hG3⟩)
 case measure=>simp[intOf];omega}}}}}
end Q
end Go.Proofs.YtjjnidignljppaaGreatDoor
