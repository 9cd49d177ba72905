import Derived.Test.YtjjnidignljppaaGreatDoorK16
import Derived.Test.YtjjnidignljppaaGreatDoorK15
import Derived.Test.YtjjnidignljppaaGreatDoorK14
namespace Go.Proofs.YtjjnidignljppaaGreatDoor
set_option maxHeartbeats 12800000
set_option linter.all false
set_option maxRecDepth 100000
variable {a i i2 j j2:Nat}{d:Array Int}{ss:LI}
namespace Q
open Go.Sort Go.RowKit Go.Proofs.Tryz
def Cv(h1:scanUp (fun x=>!ltInt d[a]! x) d j i=i2)(h2:scanDown (fun x=>ltInt d[a]! x) d i2 j=j2)(h:j2<i2):partEqLoop ltInt a i j d=(i2,d):=by
 rw[partEqLoop];simp only[h1,h2];rw[bN h]
def He(h1:scanUp (fun x=>!ltInt d[a]! x) d j i=i2)(h2:scanDown (fun x=>ltInt d[a]! x) d i2 j=j2)(h:¬j2<i2)(hi:i<=i2)(hj:j2<=j)(hi0:0<i2):partEqLoop ltInt a i j d=partEqLoop ltInt a (i2+1) (j2-1) (swp d i2 j2):=by
 rw[partEqLoop];simp only[h1,h2];rw[bH h,NR ae]
theorem Rf{blk off cap N a b piv:Nat}(hN:Hid (d.size=N)){w:World}(h:HU w blk off d)(Xo:a<=piv)(hpb:piv<b)(hb:b<=N)(iO:N<=1048576):Cp 203 #[.S (some ⟨blk,off,none⟩) N cap,.I a,.I b,.I piv] w fun e w'=>e=.returned (.I (partitionEqual ltInt d a b piv).1)/\HU w' blk off (partitionEqual ltInt d a b piv).2/\w.grownBy w' (some blk):=by
 obtain⟨⟨Q1,Q2⟩,eR⟩:∃R,partitionEqual ltInt d a b piv=R:=⟨_,rfl⟩;rw[eR];have xf:=aa hN;obtain⟨B1,eB1⟩:∃x:Nat,(b:Int)-1=(x:Int):=⟨b-1,ae⟩;have eB0:b-1=B1:=ae;have wB:=dZ B1;obtain⟨ca,fa⟩:=h a ae;obtain⟨cp,fp⟩:=h piv ae;obtain⟨u,eu⟩:=aI d[a]!;obtain⟨v,ev⟩:=aI d[piv]!;have HSW:=af (h.swap (i:=a) (j:=piv) ae ae ev.symm eu.symm);rw[eu]at ca;rw[ev]at cp;obtain⟨tt,ct⟩:=jw (q:=⟨blk,off+a,none⟩) (u:=.U v) cp;obtain⟨d1,ed1⟩:=aI (swp d a piv);rw[ed1]at HSW;have WU:Hid (d1.size=N):=by show _=_;rw[<-ed1,size_swp];exact xf
 have HG:=af (aY (aD w blk (off+a) (.U v)) (aD _ blk (off+piv) (.U u)));have EQ:Hid (partEqLoop ltInt a (a+1) B1 d1=(Q1,Q2)):=by show _=_;rw[<-eR,partitionEqual,ed1,eB0]
 have kk1:=aP a N;have kk2:=aP piv N;go_enter func203,ntmps203;go_wp2_with fail
 go_region
 go_wp2_with fail
 go_loopw[9,10](fun s9 Q7 wr=>∃(i j:Nat)(dk:Array Int),s9=.I i/\Q7=.I j/\a+1<=i/\i<=j+2/\j<=B1/\Hid (dk.size=N)/\Hid (HU wr blk off dk)/\Hid (partEqLoop ltInt a i j dk=(Q1,Q2))/\Hid (w.grownBy wr (some blk))) (fun s9 Q7 _=>(intOf Q7+2-intOf s9).toNat)
 exact⟨a+1,B1,_,by first|rfl|go_num,by first|rfl|go_num,ae,ae,ae,WU,HSW,EQ,ar HG⟩;{
 obtain⟨i,j,dk,rfl,rfl,z1,z2,z3,Gy,Lo,hQ3,hG3⟩:=hrel;obtain⟨y,ey⟩:=aI dk[a]!;have HY3:=af ey;obtain⟨I4,eI4⟩:∃I,scanUp (fun x=>!ltInt dk[a]! x) dk j i=I:=⟨_,rfl⟩;obtain⟨J5,eJ5⟩:∃J,scanDown (fun x=>ltInt dk[a]! x) dk I4 j=J:=⟨_,rfl⟩;have EI4:=af eI4;have EJ5:=af eJ5;have aj0:=EI4;have ai9:=EJ5;go_wp2_with fail;obtain⟨Y,eY⟩:=au wr;subst eY
 go_loopw[9](fun s wr=>∃i4:Nat,s=.I i4/\i<=i4/\i4<=j+2/\Hid (HU wr blk off dk)/\Hid (scanUp (fun x=>!ltInt dk[a]! x) dk j i4=I4)/\Hid (w.grownBy wr (some blk))) (fun s _=>j+1-(intOf s).toNat)
 exact⟨i,by first|rfl|go_num,ae,ae,Lo,EI4,hG3⟩;{
 obtain⟨i4,rfl,qa4,qb4,Pj,hE4,hG4⟩:=hrel;obtain⟨Bc,Ww⟩:∃B,(decide (i4<=j)&&((fun x=>!ltInt dk[a]! x) dk[i4]!))=B:=⟨_,rfl⟩;have vd:=af Ww;go_wp2_with fail
 go_cut[43](fun rv wc=>rv=.bool Bc/\wc=wr.drew)
 case first=>(
 by_cases kF:i4<=j;{
 have AE:=iE i4 j;have hdd:=aa Gy;obtain⟨ci,-⟩:=aa Pj i4 ae;obtain⟨ca,-⟩:=aa Pj a ae;obtain⟨x,ex⟩:=aI dk[i4]!;rw[ex]at ci;rw[aa HY3]at ca;have k1:=aP i4 N;have k2:=aP a N;have k3:=dw 0 i4;obtain⟨L,eL⟩:=aI (ltInt y x);have EL:=af eL;have eB:Bc=(!L):=by rw[<-aa vd];simp only[Aq kF,ox,ex,aa HY3,eL]
 subst eB;have K0:=af (ah ci ca);refine dy (fun w'=>w'.cell? ⟨blk,off+i4,none⟩=some (.U x)/\w'.cell? ⟨blk,off+a,none⟩=some (.U y)) (by exact K0) fun hS=>?_;refine mn 0 1 2 3 4 5 6 7 hS ?_;refine mu 8 9 10 11 hS ?_;refine dE 12 fun KK hK=>?_;refine cX aH aH aH aH (fun _=>fT) (fQ) ?_;rintro r' w2⟨rfl,rfl⟩;refine⟨_,rfl,?_⟩;rw[aa EL];refine gr hK (by exact K0) fun hS=>?_;refine jZ 13 14 hS ?_;refine di ?_;go_wp2_with fail;go_meet;exact⟨rfl,rfl⟩};{
 have AE:¬(i4:Int)<=(j:Int):=ae;have eB:Bc=false:=by rw[<-aa vd,tg kF];rfl
 subst eB;refine dy (fun w'=>True) jW fun hS=>?_;refine mu 0 1 2 3 hS ?_;refine nK 4 5 6 7 hS ?_;refine nK 8 9 10 11 hS ?_;refine sn 12 hS ?_;refine sn 13 hS ?_;refine tn 14 hS ?_;refine di ?_;go_wp2_with fail;go_meet;exact⟨rfl,rfl⟩})
 obtain⟨rfl,rfl⟩:=hcut;cases Bc with
 |true=>
  have hh:i4<=j/\((fun x=>!ltInt dk[a]! x) dk[i4]!)=true:=by have:=aa vd;rw[fu,oq]at this;exact this
  have hn:Hid (scanUp (fun x=>!ltInt dk[a]! x) dk j (i4+1)=I4):=by show _=_;rw[<-XH hh.1 hh.2];exact aa hE4
  have hle:=hh.1;go_wp2;go_roundw;exact⟨i4+1,by go_num,ae,ae,Pj.drew,hn,ar hG4⟩;exact bG
 |false=>
  have cR:i4=I4:=by rw[<-aa hE4,JH];have:=aa vd;rw[yw,CG]at this;exact this
  subst cR;go_wp2_with fail
  go_loopw[10](fun s wr=>∃j5:Nat,s=.I j5/\i4<=j5+2/\j5<=j/\Hid (HU wr blk off dk)/\Hid (scanDown (fun x=>ltInt dk[a]! x) dk i4 j5=J5)/\Hid (w.grownBy wr (some blk))) (fun s _=>(intOf s).toNat)
  exact⟨j,by first|rfl|go_num,ae,ae,Pj,EJ5,(ar hG4)⟩;{
 obtain⟨j5,rfl,qa5,qb5,Ig,hE5,hG5⟩:=hrel;obtain⟨Bc,Ww⟩:∃B,(decide (i4<=j5)&&((fun x=>ltInt dk[a]! x) dk[j5]!))=B:=⟨_,rfl⟩;have vd:=af Ww;go_wp2_with fail
 go_cut[59](fun rv wc=>rv=.bool Bc/\wc=wr.drew)
 case first=>(
 by_cases kF:i4<=j5;{
 have AE:=iE i4 j5;have hdd:=aa Gy;obtain⟨ci,-⟩:=aa Ig j5 ae;obtain⟨ca,-⟩:=aa Ig a ae;obtain⟨x,ex⟩:=aI dk[j5]!;rw[ex]at ci;rw[aa HY3]at ca;have k1:=aP j5 N;have k2:=aP a N;have k3:=dw 0 j5;obtain⟨L,eL⟩:=aI (ltInt y x);have EL:=af eL;have eB:Bc=L:=by rw[<-aa vd];simp only[Aq kF,ox,ex,aa HY3,eL]
 subst eB;have K0:=af (ah ci ca);refine dy (fun w'=>w'.cell? ⟨blk,off+j5,none⟩=some (.U x)/\w'.cell? ⟨blk,off+a,none⟩=some (.U y)) (by exact K0) fun hS=>?_;refine mn 0 1 2 3 4 5 6 7 hS ?_;refine mu 8 9 10 11 hS ?_;refine dE 12 fun KK hK=>?_;refine cX aH aH aH aH (fun _=>fT) (fQ) ?_;rintro r' w2⟨rfl,rfl⟩;refine⟨_,rfl,?_⟩;rw[aa EL];refine gr hK (by exact K0) fun hS=>?_;refine tn 13 hS ?_;refine di ?_;go_wp2_with fail;go_meet;exact⟨rfl,rfl⟩};{
 have AE:¬(i4:Int)<=(j5:Int):=ae;have eB:Bc=false:=by rw[<-aa vd,tg kF];rfl
 subst eB;refine dy (fun w'=>True) jW fun hS=>?_;refine mu 0 1 2 3 hS ?_;refine nK 4 5 6 7 hS ?_;refine nK 8 9 10 11 hS ?_;refine sn 12 hS ?_;refine tn 13 hS ?_;refine di ?_;go_wp2_with fail;go_meet;exact⟨rfl,rfl⟩})
 obtain⟨rfl,rfl⟩:=hcut;cases Bc with
 |true=>
  have hh:i4<=j5/\((fun x=>ltInt dk[a]! x) dk[j5]!)=true:=by have:=aa vd;rw[fu,oq]at this;exact this
  have hle:=hh.1;obtain⟨m,em⟩:∃m:Nat,(j5:Int)-1=(m:Int):=⟨j5-1,ae⟩;have hn:Hid (scanDown (fun x=>ltInt dk[a]! x) dk i4 m=J5):=by show _=_;rw[<-aa hE5,LG ae hh.1 hh.2,show j5-1=m by omega]
  go_wp2;go_roundw;exact⟨m,by first|rfl|go_num,ae,ae,Ig.drew,hn,ar hG5⟩;exact bG
 |false=>
  have cR:j5=J5:=by rw[<-aa hE5,AO ae];have:=aa vd;rw[yw,CG]at this;exact this
  subst cR;by_cases ra:j5<i4;{have aS0:=aP j5 i4;have hq:=aa hQ3;rw[Cv (aa aj0) (aa ai9) ra]at hq;simp only[fO]at hq;obtain⟨eq1,eq2⟩:=hq;subst eq1 eq2;go_wp2;go_ret;exact⟨rfl,Ig,ar hG5⟩};{
 have aS0:=du j5 i4;have hq:=aa hQ3;rw[He (aa aj0) (aa ai9) ra ae ae ae]at hq;have HQ5:=af hq;obtain⟨c1,f1⟩:=aa Ig i4 (by have:=aa Gy;omega);obtain⟨c2,f2⟩:=aa Ig j5 (by have:=aa Gy;omega);obtain⟨p1,Gf⟩:=aI dk[i4]!;obtain⟨p2,Ge⟩:=aI dk[j5]!;rw[Gf]at c1;rw[Ge]at c2;obtain⟨tt,ct⟩:=jw (q:=⟨blk,off+i4,none⟩) (u:=.U p2) c2;have uI:=af (Ig.swap (i:=i4) (j:=j5) (by have:=aa Gy;omega) (by have:=aa Gy;omega) Ge.symm Gf.symm);have Qy:=af (aY (aY hG5 (aD _ blk (off+i4) (.U p2))) (aD _ blk (off+j5) (.U p1)));have l1:=aP i4 N;have l2:=aP j5 N;have l3:=dw 0 i4;have l4:=dw 0 j5;obtain⟨m5,em5⟩:∃m:Nat,(j5:Int)-1=(m:Int):=⟨j5-1,ae⟩;have aV6:j5-1=m5:=ae;rw[aV6]at HQ5;have HD5:Hid ((swp dk i4 j5).size=N):=by show _=_;rw[size_swp];exact aa Gy
 go_wp2_with fail
 go_region
 go_wp2;go_roundw;exact⟨i4+1,m5,_,by first|rfl|go_num,by first|rfl|go_num,ae,ae,ae,HD5,uI,HQ5,ar (ar Qy)⟩
 case measure=>simp[intOf];omega}}}}
end Q
namespace Q
open Go.Sort Go.RowKit Go.Proofs.Tryz
def Bg:SWO ltInt:=swo_ltInt
abbrev Left(a b a1 b1:Nat)(d dk:Array Int):Prop:=∀R,PermIn a1 b1 dk R->SortedIn ltInt a1 b1 R->PermIn a b d R/\SortedIn ltInt a b R
theorem ap5(blk off cap N:Nat)(iO:N<=1048576):∀(n a b:Nat)(Of:Int)(d:Array Int)(w:World),Hid (b-a=n)->Hid (d.size=N)->HU w blk off d->blk<w.heap.size->a<=b->b<=N->0<=Of->Of<=64->Go.Sort.Below ltInt a b d→
  Cp 177 #[.S (some ⟨blk,off,none⟩) N cap,.I a,.I b,.I Of] w fun e w'=>
   e=.returned (.tuple #[])/\∃d',HU w' blk off d'/\PermIn a b d d'/\SortedIn ltInt a b d'/\w.grownBy w' (some blk):=by
 intro n
 induction n using Nat.strongRecOn with
 |_ n ih=>
  intro a b Of d w hn hN h ji Ql hb uz Jq hB;have IH:=af ih;have H0:=af h;have B0:=af hB;go_enter func177,ntmps177;go_wp2_with fail
  go_loopw[1,2,3,8,9](fun s1 s2 s3 s8 s9 wr=>∃(a1 b1:Nat)(li:Int)(p q:Bool)(dk:Array Int),s1=.I a1/\s2=.I b1/\s3=.I li/\s8=.bool p/\s9=.bool q/\a<=a1/\a1<=b1/\b1<=b/\0<=li/\li<=64/\Hid (dk.size=N)/\Hid (HU wr blk off dk)/\Hid (Go.Sort.Below ltInt a1 b1 dk)/\Hid (Left a b a1 b1 d dk)/\Hid (w.grownBy wr (some blk))) (fun s1 s2 _ _ _ _=>(intOf s2-intOf s1).toNat)
  exact⟨a,b,Of,true,true,d,rfl,rfl,rfl,rfl,rfl,Nat.le_refl _,Ql,Nat.le_refl _,uz,Jq,hN,H0,B0,fun R h1 h2=>⟨h1,h2⟩,qj⟩;{
 obtain⟨a1,b1,li,p,q,dk,rfl,rfl,rfl,rfl,rfl,z1,z2,z3,z4,z5,hD,hH,hB,hF,hG⟩:=hrel;obtain⟨L,eL⟩:∃x:Nat,(b1:Int)-(a1:Int)=(x:Int):=⟨b1-a1,ae⟩;have wL:=dZ L;have L8:b1<=N:=ae;by_cases h12:L<=12;{have cm5:(L:Int)<=12:=ae;go_wp2_with fail;refine(as7 (blk:=blk) (off:=off) (cap:=cap) (N:=N) (a:=a1) (b:=b1) (d:=dk) hD hH z2 L8 iO).mono ?_;rintro e w1⟨rfl,AI,fU⟩;have HH1:=af AI;have HG1:=af (aY hG fU);go_wp2;refine bodyPost_ret (results_none (h:=rfl) _ _ _) rfl ⟨rfl,_,HH1,?_,?_,HG1⟩;{have:=insertionSort_holds Bg dk a1 b1 z2 (by rw[aa hD];exact L8);exact(aa hF _ this.1 this.2).1};{have:=insertionSort_holds Bg dk a1 b1 z2 (by rw[aa hD];exact L8);exact(aa hF _ this.1 this.2).2}};{
 have cm5:¬(L:Int)<=12:=ae;by_cases hli:li=0;{subst hli;go_wp2_with fail;refine(aa5 (blk:=blk) (off:=off) (cap:=cap) (N:=N) (a:=a1) (b:=b1) (d:=dk) hD hH z2 L8 iO).mono ?_;rintro e w1⟨rfl,AI,fU⟩;have HH1:=af AI;have HG1:=af (aY hG fU);go_wp2;refine bodyPost_ret (results_none (h:=rfl) _ _ _) rfl ⟨rfl,_,HH1,?_,?_,HG1⟩;{have:=heapSort_holds Bg dk a1 b1 z2 (by rw[aa hD];exact L8);exact(aa hF _ this.1 this.2).1};{have:=heapSort_holds Bg dk a1 b1 z2 (by rw[aa hD];exact L8);exact(aa hF _ this.1 this.2).2}};{
 have h8:a1+8<=b1:=ae
 go_upto_if 35 with fail
 go_cut[3](fun s3 wc=>∃(lj:Int)(d1:Array Int),s3=.I lj/\0<=lj/\lj<=64/\Hid (d1.size=N)/\Hid (HU wc blk off d1)/\Hid (PermIn a1 b1 dk d1)/\Hid (w.grownBy wc (some blk)))
 case first=>(
 cases p with
 |true=>
  go_wp2_with fail;go_meet;exact⟨li,dk,rfl,z4,z5,hD,hH,permIn_refl dk a1 b1,hG⟩
 |false=>
  go_wp2_with fail;refine(WL (blk:=blk) (off:=off) (cap:=cap) (N:=N) (a:=a1) (b:=b1) (d:=dk) hD hH (Nat.lt_of_lt_of_le ji hG.size) h8 L8 iO).mono ?_;rintro e w1⟨rfl,d1,AI,hP1,fU⟩;have HH1:=af AI;have HP1:=af hP1;have HG1:=af (aY hG fU);go_wp2_with fail;go_meet;exact⟨li-1,d1,by first|rfl|go_num,ae,ae,HP1.1.trans hD,HH1,HP1,HG1⟩)
 obtain⟨lj,d1,rfl,y1,y2,hD1,AI,hP1,hG1⟩:=hcut;obtain⟨Y1,eY1⟩:=au wc;subst eY1;go_wp2_with fail;refine(Vu (blk:=blk) (off:=off) (cap:=cap) (N:=N) (a:=a1) (b:=b1) (d:=d1) hD1 AI (Nat.lt_of_lt_of_le ji hG1.size) h8 L8 iO).mono ?_;rintro e w2⟨pv,t,rfl,v1,v2,zF,ga⟩;have HH2:=af zF;have HG2:=af (aY hG1 ga)
 go_upto_if 50 with fail
 go_cut[11,12](fun s11 s12 wc=>∃(pw:Nat)(tt:Int)(d2:Array Int),s11=.I pw/\s12=.I tt/\a1<=pw/\pw<b1/\Hid (d2.size=N)/\Hid (HU wc blk off d2)/\Hid (PermIn a1 b1 d1 d2)/\Hid (w.grownBy wc (some blk)))
 case first=>(
 by_cases ht:t=2;{
 subst ht;have q1:IntKind.i64.wrap ((b1:Int)-1)=(b1:Int)-1:=IntWalk.i64_in _ ae;have q2:IntKind.i64.wrap ((pv:Int)-(a1:Int))=(pv:Int)-(a1:Int):=IntWalk.i64_in _ ae;obtain⟨nv,env⟩:∃x:Nat,(b1:Int)-1-((pv:Int)-(a1:Int))=(x:Int):=⟨b1-1-(pv-a1),ae⟩;have q3:=dZ nv;have bn:a1<=nv/\nv<b1:=ae
 go_wp2_with fail;refine(ao9 (blk:=blk) (off:=off) (cap:=cap) (N:=N) (a:=a1) (b:=b1) (d:=d1) hD1 HH2 z2 L8 iO).mono ?_;rintro e w3⟨rfl,Lo,tz⟩;have HH3:=af Lo;have HG3:=af (aY HG2 tz);have HP3:=af (reverseRange_holds d1 a1 b1 z2 (by rw[aa hD1];exact L8));go_wp2_with fail;go_meet;exact⟨nv,1,_,rfl,rfl,bn.1,bn.2,HP3.1.trans hD1,HH3,HP3,HG3⟩};{
 have ht':(t==2)=false:=by simp[ht]
 go_wp2_with fail;go_meet;exact⟨pv,t,d1,rfl,rfl,v1,v2,hD1,HH2,permIn_refl d1 a1 b1,HG2⟩})
 obtain⟨pw,tt,d2,rfl,rfl,x1,x2,hD2,zF,Lk,hG2⟩:=hcut;obtain⟨Y2,eY2⟩:=au wc;subst eY2
 go_upto_region 15 with fail
 go_cut[68](fun s68 wc=>∃Bq:Bool,s68=.bool Bq/\wc=Y2)
 case first=>(
 cases p<;>cases q
 all_goals
  go_wp2_with fail;go_meet;exact⟨_,rfl,rfl⟩)
 obtain⟨Bq,rfl,rfl⟩:=hcut
 go_upto_if 68 with fail
 go_cut[72](fun s72 wc=>∃d3:Array Int,Hid (d3.size=N)/\Hid (HU wc blk off d3)/\Hid (PermIn a1 b1 d2 d3)/\Hid (w.grownBy wc (some blk)))
 case first=>(
 cases Bq with
 |false=>
  go_wp2_with fail;go_meet;exact⟨d2,hD2,zF,permIn_refl d2 a1 b1,hG2⟩
 | true=>
  go_wp2_with fail;refine(Vw (blk:=blk) (off:=off) (cap:=cap) (N:=N) (a:=a1) (b:=b1) (d:=d2) hD2 zF ae L8 iO).mono ?_;have jc:Go.Sort.Below ltInt a1 b1 d2:=(hB.perm (by rw[aa hD];exact L8) (aa hP1)).perm (by rw[aa hD1];exact L8) (aa Lk);have HPI:=af (partialInsertionSort_holds Bg d2 a1 b1 ae (by rw[aa hD2];exact L8) jc);generalize partialInsertionSort ltInt d2 a1 b1=R at HPI;obtain⟨R1,R2⟩:=R;rintro e w3⟨rfl,Lo,tz⟩;have HH3:=af Lo;have HG3:=af (aY hG2 tz);cases R2 with
  |true=>
   go_wp2;refine bodyPost_ret (results_none (h:=rfl) _ _ _) rfl ⟨rfl,R1,HH3,?_,?_,HG3⟩;{exact(aa hF R1 (permIn_trans _ _ _ a1 b1 (permIn_trans _ _ _ a1 b1 hP1 Lk) HPI.1) (HPI.2 (by first|trivial|rfl))).1};{exact(aa hF R1 (permIn_trans _ _ _ a1 b1 (permIn_trans _ _ _ a1 b1 hP1 Lk) HPI.1) (HPI.2 (by first|trivial|rfl))).2}
  |false=>
   go_wp2_with fail;go_meet;exact⟨R1,HPI.1.1.trans hD2,HH3,HPI.1,HG3⟩)
 obtain⟨d3,hD3,Lo,cj7,hG3⟩:=hcut;obtain⟨Y3,eY3⟩:=au wc;subst eY3;have hP3:Hid (PermIn a1 b1 dk d3):=permIn_trans _ _ _ a1 b1 (permIn_trans _ _ _ a1 b1 hP1 Lk) cj7;have hB3:Hid (Go.Sort.Below ltInt a1 b1 d3):=hB.perm (by rw[aa hD];exact L8) (aa hP3)
 go_upto_region 17 with fail
 go_cut[87](fun s87 wc=>∃B:Bool,s87=.bool B/\Hid (B=true->0<a1/\ltInt d3[a1-1]! d3[pw]! = false)/\wc=Y3.drew)
 case first=>(
 by_cases ha:0<a1;{have Qm:=pW 0 a1;have yN:(a1:Int)>0:=ae;obtain⟨m,em⟩:∃x:Nat,(a1:Int)-1=(x:Int):=⟨a1-1,ae⟩;have em0:a1-1=m:=ae;have wm:=dZ m;have xf:=aa hD3;obtain⟨c1,-⟩:=aa Lo m ae;obtain⟨c2,-⟩:=aa Lo pw ae;obtain⟨x,ex⟩:=aI d3[m]!;obtain⟨y,ey⟩:=aI d3[pw]!;rw[ex]at c1;rw[ey]at c2;have k1:=aP m N;have k2:=aP pw N;have k3:=dw 0 m;obtain⟨Lt,eLt⟩:=aI (ltInt x y);have EL:=af eLt;have HX:Hid ((!Lt)=true->0<a1/\ltInt d3[a1-1]! d3[pw]! = false):=fun bL=>⟨ha,by rw[em0,ex,ey,eLt];simpa using bL⟩;have K0:=af (ah c1 c2);refine dy (fun w'=>w'.cell? ⟨blk,off+m,none⟩=some (.U x)/\w'.cell? ⟨blk,off+pw,none⟩=some (.U y)) (by exact K0) fun hS=>?_;refine mn 0 1 2 3 4 5 6 7 hS ?_;refine mu 8 9 10 11 hS ?_;refine dE 12 fun KK hK=>?_;refine cX aH (f:=202) aH (v1:=.U x) (v2:=.U y) aH aH (fun _=>fT) (fQ (x:=x) (y:=y)) ?_;rintro r' w2'⟨rfl,rfl⟩;refine⟨_,rfl,?_⟩;rw[aa EL];refine gr hK (by exact K0) fun hS=>?_;refine jZ 13 14 hS ?_;refine di ?_;go_wp2_with fail;go_meet;exact⟨_,rfl,HX,rfl⟩};{have Qm:¬(0:Int)<(a1:Int):=ae;refine dy (fun w'=>True) trivial fun hS=>?_;refine jZ 0 1 hS ?_;refine tn 2 hS ?_;refine nK 3 4 5 6 hS ?_;refine nK 7 8 9 10 hS ?_;refine sn 11 hS ?_;refine sn 12 hS ?_;refine sn 13 hS ?_;refine tn 14 hS ?_;refine di ?_;go_wp2_with fail;go_meet;exact⟨false,rfl,(fun h=>by cases h),rfl⟩})
 obtain⟨B,rfl,hBB,rfl⟩:=hcut;cases B with
 |true=>
  obtain⟨⟨mid,d4⟩,ePE⟩:∃R,partitionEqual ltInt d3 a1 b1 pw=R:=⟨_,rfl⟩;have hc:=Rf (blk:=blk) (off:=off) (cap:=cap) (N:=N) (a:=a1) (b:=b1) (piv:=pw) (d:=d3) hD3 (w:=Y3.drew) Lo x1 x2 L8 iO;rw[ePE]at hc;obtain⟨m1,m2,m3,m4,m5⟩:=round_eq Bg (partitionEqual_holds ltInt) (aa hBB rfl).1 x1 x2 (by rw[aa hD3];exact L8) (aa hB3) (aa hBB rfl).2 ePE;have HD4:Hid (d4.size=N):=m3.trans hD3;have Iu:=af m4;have HL4:Hid (Left a b mid b1 d d4):=fun R r1 r2=>by have:=m5 R r1 r2;exact hF R (permIn_trans _ _ _ a1 b1 hP3 this.1) this.2
  go_wp2_with fail;refine hc.mono ?_;rintro e w4⟨rfl,Pj,sS⟩;have HH4:=af Pj;have HG4:=af (aY (ar hG3) sS);go_wp2;go_roundw;exact⟨mid,b1,lj,p,q,d4,rfl,rfl,rfl,rfl,rfl,ae,ae,ae,ae,ae,HD4,HH4,Iu,HL4,HG4⟩;exact bG
 |false=>
  obtain⟨⟨mid,ap,d4⟩,ePE⟩:∃R,partition ltInt d3 a1 b1 pw=R:=⟨_,rfl⟩;have hc:=Yw (blk:=blk) (off:=off) (cap:=cap) (N:=N) (a:=a1) (b:=b1) (piv:=pw) (d:=d3) hD3 (w:=Y3.drew) Lo x1 x2 L8 iO;rw[ePE]at hc;obtain⟨m1,m2,m3,m4,m5,m6,m7⟩:=round_part Bg (partition_holds ltInt) x1 x2 (by rw[aa hD3];exact L8) (aa hB3) ePE;have HD4:Hid (d4.size=N):=m3.trans hD3;have Iu:=af m4;have zJ:=af m5;have HL6:=af m6;have HL7:=af m7;obtain⟨lL,elL⟩:∃x:Nat,(mid:Int)-(a1:Int)=(x:Int):=⟨mid-a1,ae⟩;obtain⟨rL,erL⟩:∃x:Nat,(b1:Int)-(mid:Int)=(x:Int):=⟨b1-mid,ae⟩;have wlL:=dZ lL;have wrL:=dZ rL;obtain⟨th,eth⟩:∃x:Nat,(L:Int) / 8=(x:Int):=⟨L / 8,ae⟩;have dy6:Int.tdiv (L:Int) 8=(th:Int):=by rw[<-eth];exact Int.tdiv_eq_ediv_of_nonneg ae
  have wth:=dZ th;go_wp2_with fail;refine hc.mono ?_;rintro e w4⟨rfl,Pj,sS⟩;have HH4:=af Pj;have HG4:=af (aY (ar hG3) sS);by_cases hlr:lL<rL;{
 have cd8:=aP lL rL;go_wp2_with fail;refine(aa IH (mid-a1) (by have:=aa hn;omega) a1 mid lj d4 _ rfl HD4 HH4 (Nat.lt_of_lt_of_le ji HG4.size) m1 ae y1 y2 Iu).mono ?_;rintro e w5⟨rfl,d5,Ig,hP5,hS5,ra⟩;have HH5:=af Ig;have HG5:=af (aY HG4 ra);obtain⟨o1,o2⟩:=aa HL6 d5 hP5 hS5;have ba8:=af o1;have HD5:Hid (d5.size=N):=hP5.1.trans HD4;have HL5:Hid (Left a b (mid+1) b1 d d5):=fun R r1 r2=>by have:=o2 R r1 r2;exact hF R (permIn_trans _ _ _ a1 b1 hP3 this.1) this.2
 go_wp2;go_roundw;exact⟨mid+1,b1,lj,_,ap,d5,by first|rfl|go_num,rfl,rfl,rfl,rfl,ae,ae,ae,ae,ae,HD5,HH5,ba8,HL5,HG5⟩;exact bG};{
 have cd8:=du lL rL;obtain⟨mp,emp⟩:∃x:Nat,(mid:Int)+1=(x:Int):=⟨mid+1,ae⟩;have cn8:mid+1=mp:=ae;have wmp:=dZ mp;rw[cn8]at zJ HL7;go_wp2_with fail;refine(aa IH (b1-mp) (by have:=aa hn;omega) mp b1 lj d4 _ rfl HD4 HH4 (Nat.lt_of_lt_of_le ji HG4.size) ae ae y1 y2 zJ).mono ?_;rintro e w5⟨rfl,d5,Ig,hP5,hS5,ra⟩;have HH5:=af Ig;have HG5:=af (aY HG4 ra);obtain⟨o1,o2⟩:=aa HL7 d5 hP5 hS5;have ba8:=af o1;have HD5:Hid (d5.size=N):=hP5.1.trans HD4;have HL5:Hid (Left a b a1 mid d d5):=fun R r1 r2=>by have:=o2 R r1 r2;exact hF R (permIn_trans _ _ _ a1 b1 hP3 this.1) this.2
 go_wp2;go_roundw;exact⟨a1,mid,lj,_,ap,d5,rfl,rfl,rfl,rfl,rfl,ae,ae,ae,ae,ae,HD5,HH5,ba8,HL5,HG5⟩
 case measure=>simp[intOf];omega}}}}
end Q
namespace Q
open Go.Sort Go.RowKit Go.Proofs.Tryz
def as6{cap:Nat}{w:World}:Cp 196 #[.S none 0 cap,.I 0,.I 0] w fun e w'=>e=.returned (.tuple #[])/\w'=w:=by
 go_enter func196,ntmps196;go_wp2_with fail
 go_loopw[6](fun s6 wr=>s6=.I 1/\wr=w) (fun _ _=>0)
 exact⟨rfl,rfl⟩;{
 obtain⟨rfl,rfl⟩:=hrel;go_wp2
 go_end0
 exact⟨rfl,rfl⟩}
def ap4{cap:Nat}{w:World}:Cp 177 #[.S none 0 cap,.I 0,.I 0,.I 0] w fun e w'=>e=.returned (.tuple #[])/\w'=w:=by
 go_enter func177,ntmps177;go_wp2_with fail
 go_loopw[1,2,3,8,9](fun s1 s2 s3 s8 s9 wr=>s1=.I 0/\s2=.I 0/\s3=.I 0/\s8=.bool true/\s9=.bool true/\wr=w) (fun _ _ _ _ _ _=>0)
 exact⟨rfl,rfl,rfl,rfl,rfl,rfl⟩;{obtain⟨rfl,rfl,rfl,rfl,rfl,rfl⟩:=hrel;go_wp2_with fail;refine(as6).mono ?_;rintro e w1⟨rfl,rfl⟩;go_wp2;exact fL (wD (h:=rfl) _ _ _) rfl ⟨rfl,rfl⟩}
def D5(cap:Nat)(w:World):Cp 156 #[.S none 0 cap] w fun e w'=>e=.returned (.tuple #[])/\w'=w:=by
 have hL:=Kz (n:=0) ae;have e0:Lib.bitLen 0=0:=aU;rw[e0]at hL;go_enter func156,ntmps156;go_wp2_with fail;refine(hL _).mono ?_;rintro e w1⟨rfl,rfl⟩;go_wp2_with fail;refine(ap4).mono ?_;rintro e w1⟨rfl,rfl⟩;go_wp2
 go_end0
 exact⟨rfl,rfl⟩
def XV{blk off cap N:Nat}(hN:Hid (d.size=N))(iO:N<=1048576){w:World}(h:HU w blk off d)(ji:blk<w.heap.size):Cp 156 #[.S (some ⟨blk,off,none⟩) N cap] w fun e w'=>
   e=.returned (.tuple #[])/\∃d',HU w' blk off d'/\PermIn 0 N d d'/\SortedIn ltInt 0 N d'/\w.grownBy w' (some blk):=by
 have hL:=Kz iO;have hK:Lib.bitLen N<=21:=Lib.bitLen_le N 21 ae ae;generalize Lib.bitLen N=K at hL hK;have wU:IntKind.u64.wrap (N:Int)=(N:Int):=by rw[IntKind.wrap_u64];omega
 have H0:=af h;clear h;go_enter func156,ntmps156;go_wp2_with fail;refine(hL _).mono ?_;rintro e w1⟨rfl,rfl⟩;go_wp2_with fail;refine(ap5 blk off cap N iO N 0 N K d _ (by show _=_;omega) hN H0 ji (gq _) ao ae ae (Or.inl rfl)).mono ?_;rintro e w2⟨rfl,d',hH,hP,hS,hg⟩;have HH:=af hH;have HP:=af hP;have HS:=af hS;have HG:=af hg;clear hH hP hS hg;go_wp2
 go_end0
 exact⟨rfl,d',HH,HP,HS,HG⟩
def Ag(blk off cap:Nat)(l:LI)(iO:l.length<=1048576)(w:World)(h:HU w blk off l.toArray)(ji:blk<w.heap.size):Cp 156 #[.S (some ⟨blk,off,none⟩) l.length cap] w fun e w'=>
   e=.returned (.tuple #[])/\HU w' blk off (l.mergeSort (fun x y=>decide (x<=y))).toArray/\w.grownBy w' (some blk):=by
 refine(XV (by show _=_;simp) iO h ji).mono ?_;rintro e w'⟨rfl,d',hH,hP,hS,hg⟩;refine⟨rfl,?_,hg⟩;have e:=sorted_unique_holds Bg (fun x y h1 h2=>by simp[ltInt]at h1 h2;omega) l.toArray d' (by simpa using hP) (by simpa using hS);have e2:(fun x y:Int=>!ltInt y x)=(fun x y=>decide (x<=y)):=by
  funext x y
  by_cases hh:x<=y;{rw[Aq hh];simp[ltInt];omega};{rw[tg hh];simp[ltInt];omega}
 rw[e2]at e;have e3:d'=(l.mergeSort (fun x y=>decide (x<=y))).toArray:=by rw[<-show d'.toList.toArray=d' from by simp,e]
 rw[<-e3];exact hH
end Q
namespace Q
open Go.RowKit Go.Maps Go.Sort Go.Proofs.Tryz
def xn(n:Nat)(hn:3<=n)(g:Nat)(lb:Array Value)(eg:∀args w,(callFunc g args).run prog w=.ok (.enter g args) w)(S Sp:LI->Prop)(N:Nat)(hN:N<=1048576)(w:World)(uv:SeqStopsK Fence.wide (n-1-1) prog g lb (fun x:Int=>#[fv x]) KeepsWalks S Sp N w):CallsIn Fence.wide n prog 155 #[.func (.func g) #[] lb] w fun e w'=>∃(v:Value)(ss:LI),e=.returned v/\S ss/\w'.ownsRow (w.heap.size+1) 28 1 v ss.length (ss.map fv)/\(v=.S none 0 0↔ss=[])/\Bw w w':=by
 have h1:1<=n:=ae;have hfS:Fence.wide.fn 176:=jW;refine callsIn_of_wp func155 rfl jW ?_ rfl;simp only[ntmps155,qR,Nat.reduceAdd,Nat.reduceSub]
 gi_wp2_with(gi_at_call 176;refine(sL (n-1) ae g lb eg S Sp N hN _ uv).mono ?_;rintro e w'⟨v,ss,rfl,hS,dh,Hz,hb⟩)
 go_ret;exact⟨v,ss,rfl,hS,dh,Hz,hb⟩
def RG{w:World}{g:Nat}{cur:Array Value}{e:TypeId}(hb:w.heap[g]?=some (.cells cur e (0,0)))(ht:cur.toList.take ss.length=ss.map fv):HU w g 0 ss.toArray:=by
 intro j hj;have hj':j<ss.length:=by simpa using hj
 refine⟨?_,by simp[World.frozen?,hb]⟩;have h1:(cur.toList.take ss.length)[j]?=(ss.map fv)[j]?:=by rw[ht]
 rw[aD7 hj']at h1;simp only[World.cell?,hb,lu];simp only[YX,Hj,wu];rw[<-Ug,h1];simp[hj',fv]
def RdK(B:Nat)(w:World)(v:Value)(ss:LI):Prop:=(v=.S none 0 0/\ss=[])\/∃g cap,v=.T g ss.length cap/\B<=g/\g<w.heap.size/\HU w g 0 ss.toArray
structure Asc{H:Type}(D0:DataW H)(ss:LI):Prop where
 lt:ss.Pairwise (·<·)
 mem:∀x,x∈ss↔has D0 (.U x)=true
 size:ss.length<=Maps.size D0
def L9{H:Type}{D0:DataW H}(h:kO D0 ss):Asc D0 (ss.mergeSort (fun x y=>decide (x<=y))):=by
 have hp:=List.mergeSort_perm ss (fun x y=>decide (x<=y));refine⟨?_,fun x=>(hp.mem_iff).trans (h.2.1 x),by rw[hp.length_eq];exact h.2.2⟩;have h1:=aD6 (le:=fun x y:Int=>decide (x<=y)) (fun a b c h1 h2=>by simp at*;omega) (fun a b=>by simp;omega) ss;have h2:(ss.mergeSort (fun x y=>decide (x<=y))).Pairwise (·≠·):=hp.nodup_iff.2 h.1;exact(h1.and h2).imp (fun{a b}⟨x,y⟩=>by simp at x;omega)
def uQ(n:Nat)(hn:4<=n)(g:Nat)(lb:Array Value)(eg:∀args w,(callFunc g args).run prog w=.ok (.enter g args) w)(S Sp:LI->Prop)(N:Nat)(hN:N<=1048576)(hS:∀ss,S ss->ss.length<=1048576)(w:World)(uv:SeqStopsK Fence.wide (n-1-1-1) prog g lb (fun x:Int=>#[fv x]) KeepsWalks S Sp N w):CallsIn Fence.wide n prog 112 #[.func (.func g) #[] lb] w fun e w'=>∃(v:Value)(ss:LI),e=.returned v/\S ss/\RdK w.heap.size w' v (ss.mergeSort (fun x y=>decide (x<=y)))/\Bw w w':=by
 have h1:1<=n:=ae;have hfC:Fence.wide.fn 155:=jW;have hfS:Fence.wide.fn 156:=jW;refine callsIn_of_wp func112 rfl jW ?_ rfl;simp only[ntmps112,qR,Nat.reduceAdd,Nat.reduceSub]
 gi_wp2_with(gi_at_call 155;refine(xn (n-1) ae g lb eg S Sp N hN _ uv).mono ?_;rintro e w'⟨v,ss,rfl,hSs,dh,Hz,hb⟩)
 rcases dh.2 with⟨rfl,_⟩|⟨gb,cap,cur,rfl,yL,hgb,Hw,kY,GJ,VW⟩;{
 have e0:ss=[]:=Hz.1 rfl;subst e0
 gi_wp2_with(gi_at_call 156;refine(callsIn_wide.2 (D5 0 _)).mono ?_;rintro e w2⟨rfl,rfl⟩)
 go_ret;exact⟨_,[],rfl,hSs,.inl ⟨rfl,ai⟩,hb⟩};{
 have aX:gb<w'.heap.size:=(EF.1 hgb).1;have hH:=RG hgb (by simpa using VW)
 gi_wp2_with(gi_at_call 156;refine(callsIn_wide.2 (Ag gb 0 cap ss (hS ss hSs) _ hH aX)).mono ?_;rintro e w2⟨rfl,zF,ga⟩)
 go_ret;refine⟨_,ss,rfl,hSs,.inr ⟨gb,cap,by rw[List.length_mergeSort];rfl,ae,kV aX ga.size,zF⟩,?_⟩;exact hb.grown ga hb.size (fun k e=>by cases e;omega)}
theorem ka{H:Type}(b nn:Nat)(D0:DataW H){R:Value->Option (DataW H×List MemPlace)}(w:World)(bO:w.ownsMap prog 28 R b nn D0)(iO:Maps.size D0<=1048576):Cp 65 #[.map (some b)] w fun e w'=>∃(v:Value)(ss:LI),e=.returned v/\Asc D0 ss/\RdK w.heap.size w' v ss/\Bw w w':=by
 refine(callsIn_wide (n:=6)).1 ?_;have hfK:Fence.wide.fn 113:=jW;have hfS:Fence.wide.fn 112:=jW;have CQ:=bO.lt;have sR:(w.alloc (.cells #[.map (some b)] 111)).ownsMap prog 28 R b nn D0:=by obtain⟨es,clock,hb,Ft,hs,hD⟩:=bO;exact⟨es,clock,(Ks _ _ b CQ).trans hb,Ft,hs,hD⟩
 have uv:=JO 2 ae w.heap.size b nn D0 (w.alloc (.cells #[.map (some b)] 111)) ai ai sR;refine callsIn_of_wp func65 rfl jW ?_ rfl;simp only[ntmps65,qR,Nat.reduceAdd,Nat.reduceSub]
 gi_wp2_with(first
  |(gi_at_call 113;refine(Rr _ _ _).mono ?_;rintro e w'⟨rfl,rfl⟩)
  |(gi_at_call 112;refine(uQ 5 ae _ _ (fun args w=>(by kernel_rfl:(callFunc 157 args).run prog w=.ok (.enter 157 args) w)) _ _ _ iO (fun ss h=>fW h.2.2 iO) _ uv).mono ?_;rintro e w'⟨v,ss,rfl,hS,yI,hb⟩))
 go_ret;refine⟨v,_,rfl,L9 hS,?_,((cW _ w).alloc ao _).trans (hb.mono ai)⟩;rcases yI with h|⟨g,cap,h1,h2,h3,h4⟩;{exact .inl h};{exact .inr ⟨g,cap,h1,by simp at h2;omega,h3,h4⟩}
theorem r8{H:Type}(b nn:Nat)(D0:DataW H){R:Value->Option (DataW H×List MemPlace)}(w:World)(bO:w.ownsMap prog 28 R b nn D0)(iO:Maps.size D0<=1048576):Cp 116 #[.map (some b)] w fun e w'=>∃(v:Value)(ss:LI),e=.returned v/\Asc D0 ss/\RdK w.heap.size w' v ss/\Bw w w':=by
 refine(callsIn_wide (n:=6)).1 ?_;have hfK:Fence.wide.fn 161:=jW;have hfS:Fence.wide.fn 112:=jW;have CQ:=bO.lt;have sR:(w.alloc (.cells #[.map (some b)] 117)).ownsMap prog 28 R b nn D0:=by obtain⟨es,clock,hb,Ft,hs,hD⟩:=bO;exact⟨es,clock,(Ks _ _ b CQ).trans hb,Ft,hs,hD⟩
 have uv:=an4 (n:=2) ae (Bm:=w.heap.size) ai ai sR;refine callsIn_of_wp func116 rfl jW ?_ rfl;simp only[ntmps116,qR,Nat.reduceAdd,Nat.reduceSub]
 gi_wp2_with(first
  |(gi_at_call 161;refine(aO2).mono ?_;rintro e w'⟨rfl,rfl⟩)
  |(gi_at_call 112;refine(uQ 5 ae _ _ (fun args w=>(by kernel_rfl:(callFunc 181 args).run prog w=.ok (.enter 181 args) w)) _ _ _ iO (fun ss h=>fW h.2.2 iO) _ uv).mono ?_;rintro e w'⟨v,ss,rfl,hS,yI,hb⟩))
 go_ret;refine⟨v,_,rfl,L9 hS,?_,((cW _ w).alloc ao _).trans (hb.mono ai)⟩;rcases yI with h|⟨g,cap,h1,h2,h3,h4⟩;{exact .inl h};{exact .inr ⟨g,cap,h1,by simp at h2;omega,h3,h4⟩}
end Q
end Go.Proofs.YtjjnidignljppaaGreatDoor
