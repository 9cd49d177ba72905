import Derived.Test.YtcfcafeciggjeaaGreatDoorK8
namespace Go.Proofs.YtcfcafeciggjeaaGreatDoor
set_option maxHeartbeats 6400000
set_option linter.unusedVariables false
set_option linter.all false
set_option maxRecDepth 100000
variable {a i i2 j j2:Nat} {d:Array Int} {p:Int->Bool}
structure SD where
 e:Int
 g:Int
 x:Int
 t:Int
 ss:List aY
 ns:List aD
def lQ (ids:List Int) (id:Int):List Int:=ids.filter fun x=>!(x==id)
def ig:List Int->Int->List Int
 | [],id=>[id]
 | x::r,id=>if id<=x then id::lQ (x::r) id else x::ig r id
def dM (q:List Ev) (ev:Ev):List Ev:=if q.length<7 then q++[ev] else if q.length=7 then q++[(4,[])] else q
def jG (ss:List aY) (id:Int) (ev:Ev):List aY:=ss.map fun s=>if s.1=id then (s.1,s.2.1,dM s.2.2 ev) else s
def fN (ss:List aY) (ids:List Int) (ev:Ev):List aY:=ids.foldl (fun ss id=>jG ss id ev) ss
def cO (D:SD) (k:Nat) (kind:Int):SD:=match D.ns[k]? with
 | none=>D
 | some nd=>{ D with ss:=fN D.ss nd.watchers (kind,nd.path),ns:=D.ns.set k { nd with watchers:=[] } }
def AH (D:SD) (k:Nat):SD:={ D with ns:=D.ns.eraseIdx k }
def cT (D:SD) (k:Nat) (id:Int):SD:=match D.ns[k]? with
 | none=>D
 | some nd=>if nd.holders.contains id then (if lQ nd.holders id=[] then cO { D with ns:=D.ns.set k { nd with holders:=[],mode:=0,aB:=0,gen:=0 } } k 3 else { D with ns:=D.ns.set k { nd with holders:=lQ nd.holders id } }) else D
namespace Q
open Go.Sort Go.RowKit Go.Proofs.Tryz
theorem Kq (h:i<=j) (hp:p d[i]! = true):scanUp p d j i=scanUp p d j (i+1):=by
 rw [scanUp,if_pos (by simp [h,hp])]
theorem Aq (h:¬ i<=j\/p d[i]! = false):scanUp p d j i=i:=by
 rw [scanUp,if_neg];rcases h with h | h;{simp;omega};{simp [h]}
theorem By (hj:0<j) (h:i<=j) (hp:p d[j]! = true):scanDown p d i j=scanDown p d i (j-1):=by
 cases j with
 | zero=>omega
 | succ j=>rw [scanDown,if_pos (by simp [h,hp])];rfl
theorem tS (hi:0<i) (h:¬ i<=j\/p d[j]! = false):scanDown p d i j=j:=by
 cases j with
 | zero=>rfl
 | succ j=>
  rw [scanDown,if_neg];rcases h with h | h;{simp;omega};{simp [h]}
theorem yr (h1:scanUp (fun x=>ltInt x d[a]!) d j i=i2) (h2:scanDown (fun x=>!ltInt x d[a]!) d i2 j=j2) (h:j2<i2):partLoop ltInt a i j d=(j2,d):=by
 rw [partLoop];simp only [h1,h2];rw [if_pos h]
theorem aa6 (h1:scanUp (fun x=>ltInt x d[a]!) d j i=i2) (h2:scanDown (fun x=>!ltInt x d[a]!) d i2 j=j2) (h:¬ j2<i2) (hi:i<=i2) (hj:j2<=j) (hi0:0<i2):partLoop ltInt a i j d=partLoop ltInt a (i2+1) (j2-1) (swp d i2 j2):=by
 rw [partLoop];simp only [h1,h2];rw [if_neg h,dif_pos (by omega)]
theorem Ld (aI off cap N a b piv:Nat) (d:Array Int) (hN:Hid (d.size=N)) (w:World) (h:HU w aI off d) (Ym:a<=piv) (hpb:piv<b) (hb:b<=N) (il:N<=1048576) :
  Calls prog 193 #[.S (some ⟨aI,off,none⟩) N cap,.I a,.I b,.I piv] w fun e w'=>e=.returned (.tuple #[.I (partition ltInt d a b piv).1,.bool (partition ltInt d a b piv).2.1])/\HU w' aI off (partition ltInt d a b piv).2.2/\w.grownBy w' (some aI):=by
 obtain ⟨⟨R1,R2,R3⟩,eR⟩:∃ R,partition ltInt d a b piv=R:=⟨_,rfl⟩;rw [eR];have qO:=aa hN;obtain ⟨B1,eB1⟩:∃ x:Nat,(b:Int)-1=(x:Int):=⟨b-1,by omega⟩;have YD:b-1=B1:=by omega
 have wB:=fH B1;obtain ⟨ca,fa⟩:=h a (by omega);obtain ⟨cp,fp⟩:=h piv (by omega);obtain ⟨u,eu⟩:=aH d[a]!;obtain ⟨v,ev⟩:=aH d[piv]!;have XI:=ae (h.swap (i:=a) (j:=piv) (by omega) (by omega) ev.symm eu.symm);rw [eu] at ca;rw [ev] at cp;obtain ⟨tt,ct⟩:=ij (q:=⟨aI,off+a,none⟩) (u:=.U v) cp;obtain ⟨d1,Xa⟩:=aH (swp d a piv);rw [Xa] at XI;have JK:Hid (d1.size=N):=by show _=_;rw [<-Xa,size_swp];exact qO
 obtain ⟨y,ey⟩:=aH d1[a]!;have HY1:=ae ey;have HG:=ae (aQ (aE w aI (off+a) (.U v)) (aE _ aI (off+piv) (.U u)));obtain ⟨I1,eI1⟩:∃ I,scanUp (fun x=>ltInt x d1[a]!) d1 B1 (a+1)=I:=⟨_,rfl⟩;obtain ⟨J2,Xd⟩:∃ J,scanDown (fun x=>!ltInt x d1[a]!) d1 I1 B1=J:=⟨_,rfl⟩;have HR:Hid (((R1,R2,R3):Nat × Bool × Array Int)=if I1>J2 then (J2,true,swp d1 J2 a) else ((partLoop ltInt a (I1+1) (J2-1) (swp d1 I1 J2)).1,false,swp (partLoop ltInt a (I1+1) (J2-1) (swp d1 I1 J2)).2 (partLoop ltInt a (I1+1) (J2-1) (swp d1 I1 J2)).1 a)):=by show _=_;rw [<-eR,partition,Xa,YD];simp only [eI1,Xd]
 have EI1:=ae eI1;have EJ2:=ae Xd;have kk1:=aT a N;have kk2:=aT piv N;go_enter func193,ntmps193;go_wp2_with fail
 go_region
 go_wp2_with fail
 go_loopw [10] (fun s wr=>∃ i1:Nat,s=.I i1/\a+1<=i1/\i1<=B1+2/\Hid (HU wr aI off d1)/\Hid (scanUp (fun x=>ltInt x d1[a]!) d1 B1 i1=I1)/\Hid (w.grownBy wr (some aI))) (fun s _=>B1+1-(intOf s).toNat)
 case atStart=>exact ⟨a+1,by first | rfl | go_num,by omega,by omega,(aa XI),EI1,(ar HG)⟩
 case round =>(
 obtain ⟨i1,rfl,qa1,qb1,tL,Rw,Ph⟩:=hrel;obtain ⟨Bc,Jn⟩:∃ B,(decide (i1<=B1)&&((fun x=>ltInt x d1[a]!) d1[i1]!))=B:=⟨_,rfl⟩;have pE:=ae Jn;go_wp2_with fail
 go_cut [43] (fun rv wc=>rv=.bool Bc/\wc=wr.drew)
 case first =>(
 by_cases jc:i1<=B1;{
 have tK:=vj i1 B1;have hdd:=aa JK;obtain ⟨ci,-⟩:=aa tL i1 (by omega);obtain ⟨ca,-⟩:=aa tL a (by omega);obtain ⟨x,ex⟩:=aH d1[i1]!;rw [ex] at ci;rw [aa HY1] at ca;have k1:=aT i1 N;have k2:=aT a N;have k3:=dE 0 i1;obtain ⟨L,eL⟩:=aH (ltInt x y);have EL:=ae eL;have eB:Bc=L:=by rw [<-aa pE];simp only [decide_eq_true jc,Bool.true_and,ex,aa HY1,eL]
 subst eB;have K0:=ae (ag ci ca);refine bO (fun w'=>w'.cell? ⟨aI,off+i1,none⟩=some (.U x)/\w'.cell? ⟨aI,off+a,none⟩=some (.U y)) (by exact K0) fun hS=>?_;refine gy 0 1 2 3 4 5 6 7 hS ?_;refine gC 8 9 10 11 hS ?_;refine bH 12 fun KK hK=>?_;refine cL (by rfl) 191 _ _ _ (by rfl) (.U x) (.U y) (by rfl) (by rfl) (fun _=>dZ _ _) (dY x y _) ?_;rintro r' w2 ⟨rfl,rfl⟩;refine ⟨_,rfl,?_⟩;rw [aa EL];refine cg hK (by exact K0) fun hS=>?_;refine tn 13 hS ?_;refine bu ?_;go_wp2_with fail;go_meet;exact ⟨rfl,rfl⟩};{
 have tK:¬ (i1:Int)<=(B1:Int):=by omega
 have eB:Bc=false:=by rw [<-aa pE,decide_eq_false jc];rfl
 subst eB;refine bO (fun w'=>True) trivial fun hS=>?_;refine gC 0 1 2 3 hS ?_;refine iI 4 5 6 7 hS ?_;refine iI 8 9 10 11 hS ?_;refine sn 12 hS ?_;refine tn 13 hS ?_;refine bu ?_;go_wp2_with fail;go_meet;exact ⟨rfl,rfl⟩})
 obtain ⟨rfl,rfl⟩:=hcut;cases Bc with
 | true=>
  have hh:i1<=B1/\((fun x=>ltInt x d1[a]!) d1[i1]!)=true:=by have:=aa pE;rw [Bool.and_eq_true,decide_eq_true_iff] at this;exact this
  have hn:Hid (scanUp (fun x=>ltInt x d1[a]!) d1 B1 (i1+1)=I1):=by show _=_;rw [<-Kq hh.1 hh.2];exact aa Rw
  have hle:=hh.1;go_wp2;go_roundw
  case rel=>exact ⟨i1+1,by go_num,by omega,by omega,tL.drew,hn,ar Ph⟩
  case measure=>simp [intOf];omega
 | false=>
  have dz:i1=I1:=by rw [<-aa Rw,Aq];have:=aa pE;rw [Bool.and_eq_false_iff,decide_eq_false_iff_not] at this;exact this
  subst dz;go_wp2_with fail
  go_loopw [11] (fun s wr=>∃ j2:Nat,s=.I j2/\i1<=j2+2/\j2<=B1/\Hid (HU wr aI off d1)/\Hid (scanDown (fun x=>!ltInt x d1[a]!) d1 i1 j2=J2)/\Hid (w.grownBy wr (some aI))) (fun s _=>(intOf s).toNat)
  case atStart=>exact ⟨B1,by first | rfl | go_num,by omega,by omega,tL,EJ2,(ar Ph)⟩
  case round =>(
 obtain ⟨j2,rfl,qa2,qb2,sX,hE2,Yr⟩:=hrel;obtain ⟨Bc,Jn⟩:∃ B,(decide (i1<=j2)&&((fun x=>!ltInt x d1[a]!) d1[j2]!))=B:=⟨_,rfl⟩;have pE:=ae Jn;go_wp2_with fail
 go_cut [60] (fun rv wc=>rv=.bool Bc/\wc=wr.drew)
 case first =>(
 by_cases jc:i1<=j2;{
 have tK:=vj i1 j2;have hdd:=aa JK;obtain ⟨ci,-⟩:=aa sX j2 (by omega);obtain ⟨ca,-⟩:=aa sX a (by omega);obtain ⟨x,ex⟩:=aH d1[j2]!;rw [ex] at ci;rw [aa HY1] at ca;have k1:=aT j2 N;have k2:=aT a N;have k3:=dE 0 j2;obtain ⟨L,eL⟩:=aH (ltInt x y);have EL:=ae eL;have eB:Bc=(!L):=by rw [<-aa pE];simp only [decide_eq_true jc,Bool.true_and,ex,aa HY1,eL]
 subst eB;have K0:=ae (ag ci ca);refine bO (fun w'=>w'.cell? ⟨aI,off+j2,none⟩=some (.U x)/\w'.cell? ⟨aI,off+a,none⟩=some (.U y)) (by exact K0) fun hS=>?_;refine gy 0 1 2 3 4 5 6 7 hS ?_;refine gC 8 9 10 11 hS ?_;refine bH 12 fun KK hK=>?_;refine cL (by rfl) 191 _ _ _ (by rfl) (.U x) (.U y) (by rfl) (by rfl) (fun _=>dZ _ _) (dY x y _) ?_;rintro r' w2 ⟨rfl,rfl⟩;refine ⟨_,rfl,?_⟩;rw [aa EL];refine cg hK (by exact K0) fun hS=>?_;refine fe 13 14 hS ?_;refine bu ?_;go_wp2_with fail;go_meet;exact ⟨rfl,rfl⟩};{
 have tK:¬ (i1:Int)<=(j2:Int):=by omega
 have eB:Bc=false:=by rw [<-aa pE,decide_eq_false jc];rfl
 subst eB;refine bO (fun w'=>True) trivial fun hS=>?_;refine gC 0 1 2 3 hS ?_;refine iI 4 5 6 7 hS ?_;refine iI 8 9 10 11 hS ?_;refine sn 12 hS ?_;refine sn 13 hS ?_;refine tn 14 hS ?_;refine bu ?_;go_wp2_with fail;go_meet;exact ⟨rfl,rfl⟩})
 obtain ⟨rfl,rfl⟩:=hcut;cases Bc with
 | true=>
  have hh:i1<=j2/\((fun x=>!ltInt x d1[a]!) d1[j2]!)=true:=by have:=aa pE;rw [Bool.and_eq_true,decide_eq_true_iff] at this;exact this
  have hle:=hh.1;obtain ⟨m,em⟩:∃ m:Nat,(j2:Int)-1=(m:Int):=⟨j2-1,by omega⟩;have hn:Hid (scanDown (fun x=>!ltInt x d1[a]!) d1 i1 m=J2):=by show _=_;rw [<-aa hE2,By (by omega) hh.1 hh.2,show j2-1=m by omega]
  go_wp2;go_roundw
  case rel=>exact ⟨m,by first | rfl | go_num,by omega,by omega,sX.drew,hn,ar Yr⟩
  case measure=>simp [intOf];omega
 | false=>
  have dz:j2=J2:=by rw [<-aa hE2,tS (by omega)];have:=aa pE;rw [Bool.and_eq_false_iff,decide_eq_false_iff_not] at this;exact this
  subst dz;by_cases hgt:j2<i1;{
 have aN0:=aT j2 i1;have hr:=aa HR;rw [if_pos hgt] at hr;simp only [Prod.mk.injEq] at hr;obtain ⟨Nl,er2,WN⟩:=hr;replace Nl:=Nl.symm;replace WN:=WN.symm;subst Nl er2 WN;obtain ⟨c1,f1⟩:=aa sX j2 (by have:=aa JK;omega);obtain ⟨c2,f2⟩:=aa sX a (by have:=aa JK;omega);obtain ⟨p1,xB⟩:=aH d1[j2]!;obtain ⟨p2,xA⟩:=aH d1[a]!;rw [xB] at c1;rw [xA] at c2;obtain ⟨tt,ct⟩:=ij (q:=⟨aI,off+j2,none⟩) (u:=.U p2) c2;have oV:=ae (sX.swap (i:=j2) (j:=a) (by have:=aa JK;omega) (by have:=aa JK;omega) xA.symm xB.symm);have EA:=ae (aQ (aQ Yr (aE _ aI (off+j2) (.U p2))) (aE _ aI (off+a) (.U p1)));have l1:=aT j2 N;have l2:=aT a N;have l3:=dE 0 j2;have l4:=dE 0 a;go_wp2_with fail
 go_region
 go_wp2
 go_ret2
 exact ⟨rfl,oV,ar (ar EA)⟩};{
 have aN0:=dy j2 i1;obtain ⟨⟨Q1,Q2⟩,eQ⟩:∃ Q,partLoop ltInt a (i1+1) (j2-1) (swp d1 i1 j2)=Q:=⟨_,rfl⟩;have hr:=aa HR;rw [if_neg hgt,eQ] at hr;have HRB:=ae hr;have EQ:=ae eQ;obtain ⟨c1,f1⟩:=aa sX i1 (by have:=aa JK;omega);obtain ⟨c2,f2⟩:=aa sX j2 (by have:=aa JK;omega);obtain ⟨p1,xB⟩:=aH d1[i1]!;obtain ⟨p2,xA⟩:=aH d1[j2]!;rw [xB] at c1;rw [xA] at c2;obtain ⟨tt,ct⟩:=ij (q:=⟨aI,off+i1,none⟩) (u:=.U p2) c2;have oV:=ae (sX.swap (i:=i1) (j:=j2) (by have:=aa JK;omega) (by have:=aa JK;omega) xA.symm xB.symm);have EA:=ae (aQ (aQ Yr (aE _ aI (off+i1) (.U p2))) (aE _ aI (off+j2) (.U p1)));have l1:=aT i1 N;have l2:=aT j2 N;have l3:=dE 0 i1;have l4:=dE 0 j2;obtain ⟨m2,em2⟩:∃ m:Nat,(j2:Int)-1=(m:Int):=⟨j2-1,by omega⟩;have aU1:j2-1=m2:=by omega
 rw [aU1] at EQ;have HD2:Hid ((swp d1 i1 j2).size=N):=by show _=_;rw [size_swp];exact aa JK
 go_wp2_with fail
 go_region
 go_wp2_with fail
 go_loopw [10,11] (fun AG Zd wr=>∃ (i j:Nat) (dk:Array Int),AG=.I i/\Zd=.I j/\a+1<=i/\i<=j+2/\j<=B1/\Hid (dk.size=N)/\Hid (HU wr aI off dk)/\Hid (partLoop ltInt a i j dk=(Q1,Q2))/\Hid (w.grownBy wr (some aI))) (fun AG Zd _=>(intOf Zd+2-intOf AG).toNat)
 case atStart=>exact ⟨i1+1,m2,_,by first | rfl | go_num,by first | rfl | go_num,by omega,by omega,by omega,HD2,oV,EQ,ar (ar EA)⟩
 case round =>(
 obtain ⟨i,j,dk,rfl,rfl,z1,z2,z3,xV,Bp,hQ3,Ru⟩:=hrel;obtain ⟨y,ey⟩:=aH dk[a]!;have SJ:=ae ey;obtain ⟨I4,eI4⟩:∃ I,scanUp (fun x=>ltInt x dk[a]!) dk j i=I:=⟨_,rfl⟩;obtain ⟨J5,eJ5⟩:∃ J,scanDown (fun x=>!ltInt x dk[a]!) dk I4 j=J:=⟨_,rfl⟩;have EI4:=ae eI4;have EJ5:=ae eJ5;have OI:=EI4;have OG:=EJ5;go_wp2_with fail;obtain ⟨Y,eY⟩:=ax wr;subst eY
 go_loopw [10] (fun s wr=>∃ i4:Nat,s=.I i4/\i<=i4/\i4<=j+2/\Hid (HU wr aI off dk)/\Hid (scanUp (fun x=>ltInt x dk[a]!) dk j i4=I4)/\Hid (w.grownBy wr (some aI))) (fun s _=>j+1-(intOf s).toNat)
 case atStart=>exact ⟨i,by first | rfl | go_num,by omega,by omega,Bp,EI4,Ru⟩
 case round =>(
 obtain ⟨i4,rfl,qa4,qb4,DQ,hE4,hG4⟩:=hrel;obtain ⟨Bc,Jn⟩:∃ B,(decide (i4<=j)&&((fun x=>ltInt x dk[a]!) dk[i4]!))=B:=⟨_,rfl⟩;have pE:=ae Jn;go_wp2_with fail
 go_cut [112] (fun rv wc=>rv=.bool Bc/\wc=wr.drew)
 case first =>(
 by_cases jc:i4<=j;{
 have tK:=vj i4 j;have hdd:=aa xV;obtain ⟨ci,-⟩:=aa DQ i4 (by omega);obtain ⟨ca,-⟩:=aa DQ a (by omega);obtain ⟨x,ex⟩:=aH dk[i4]!;rw [ex] at ci;rw [aa SJ] at ca;have k1:=aT i4 N;have k2:=aT a N;have k3:=dE 0 i4;obtain ⟨L,eL⟩:=aH (ltInt x y);have EL:=ae eL;have eB:Bc=L:=by rw [<-aa pE];simp only [decide_eq_true jc,Bool.true_and,ex,aa SJ,eL]
 subst eB;have K0:=ae (ag ci ca);refine bO (fun w'=>w'.cell? ⟨aI,off+i4,none⟩=some (.U x)/\w'.cell? ⟨aI,off+a,none⟩=some (.U y)) (by exact K0) fun hS=>?_;refine gy 0 1 2 3 4 5 6 7 hS ?_;refine gC 8 9 10 11 hS ?_;refine bH 12 fun KK hK=>?_;refine cL (by rfl) 191 _ _ _ (by rfl) (.U x) (.U y) (by rfl) (by rfl) (fun _=>dZ _ _) (dY x y _) ?_;rintro r' w2 ⟨rfl,rfl⟩;refine ⟨_,rfl,?_⟩;rw [aa EL];refine cg hK (by exact K0) fun hS=>?_;refine tn 13 hS ?_;refine bu ?_;go_wp2_with fail;go_meet;exact ⟨rfl,rfl⟩};{
 have tK:¬ (i4:Int)<=(j:Int):=by omega
 have eB:Bc=false:=by rw [<-aa pE,decide_eq_false jc];rfl
 subst eB;refine bO (fun w'=>True) trivial fun hS=>?_;refine gC 0 1 2 3 hS ?_;refine iI 4 5 6 7 hS ?_;refine iI 8 9 10 11 hS ?_;refine sn 12 hS ?_;refine tn 13 hS ?_;refine bu ?_;go_wp2_with fail;go_meet;exact ⟨rfl,rfl⟩})
 obtain ⟨rfl,rfl⟩:=hcut;cases Bc with
 | true=>
  have hh:i4<=j/\((fun x=>ltInt x dk[a]!) dk[i4]!)=true:=by have:=aa pE;rw [Bool.and_eq_true,decide_eq_true_iff] at this;exact this
  have hn:Hid (scanUp (fun x=>ltInt x dk[a]!) dk j (i4+1)=I4):=by show _=_;rw [<-Kq hh.1 hh.2];exact aa hE4
  have hle:=hh.1;go_wp2;go_roundw
  case rel=>exact ⟨i4+1,by go_num,by omega,by omega,DQ.drew,hn,ar hG4⟩
  case measure=>simp [intOf];omega
 | false=>
  have dz:i4=I4:=by rw [<-aa hE4,Aq];have:=aa pE;rw [Bool.and_eq_false_iff,decide_eq_false_iff_not] at this;exact this
  subst dz;go_wp2_with fail
  go_loopw [11] (fun s wr=>∃ j5:Nat,s=.I j5/\i4<=j5+2/\j5<=j/\Hid (HU wr aI off dk)/\Hid (scanDown (fun x=>!ltInt x dk[a]!) dk i4 j5=J5)/\Hid (w.grownBy wr (some aI))) (fun s _=>(intOf s).toNat)
  case atStart=>exact ⟨j,by first | rfl | go_num,by omega,by omega,DQ,EJ5,(ar hG4)⟩
  case round =>(
 obtain ⟨j5,rfl,qa5,qb5,yI,hE5,WA⟩:=hrel;obtain ⟨Bc,Jn⟩:∃ B,(decide (i4<=j5)&&((fun x=>!ltInt x dk[a]!) dk[j5]!))=B:=⟨_,rfl⟩;have pE:=ae Jn;go_wp2_with fail
 go_cut [129] (fun rv wc=>rv=.bool Bc/\wc=wr.drew)
 case first =>(
 by_cases jc:i4<=j5;{
 have tK:=vj i4 j5;have hdd:=aa xV;obtain ⟨ci,-⟩:=aa yI j5 (by omega);obtain ⟨ca,-⟩:=aa yI a (by omega);obtain ⟨x,ex⟩:=aH dk[j5]!;rw [ex] at ci;rw [aa SJ] at ca;have k1:=aT j5 N;have k2:=aT a N;have k3:=dE 0 j5;obtain ⟨L,eL⟩:=aH (ltInt x y);have EL:=ae eL;have eB:Bc=(!L):=by rw [<-aa pE];simp only [decide_eq_true jc,Bool.true_and,ex,aa SJ,eL]
 subst eB;have K0:=ae (ag ci ca);refine bO (fun w'=>w'.cell? ⟨aI,off+j5,none⟩=some (.U x)/\w'.cell? ⟨aI,off+a,none⟩=some (.U y)) (by exact K0) fun hS=>?_;refine gy 0 1 2 3 4 5 6 7 hS ?_;refine gC 8 9 10 11 hS ?_;refine bH 12 fun KK hK=>?_;refine cL (by rfl) 191 _ _ _ (by rfl) (.U x) (.U y) (by rfl) (by rfl) (fun _=>dZ _ _) (dY x y _) ?_;rintro r' w2 ⟨rfl,rfl⟩;refine ⟨_,rfl,?_⟩;rw [aa EL];refine cg hK (by exact K0) fun hS=>?_;refine fe 13 14 hS ?_;refine bu ?_;go_wp2_with fail;go_meet;exact ⟨rfl,rfl⟩};{
 have tK:¬ (i4:Int)<=(j5:Int):=by omega
 have eB:Bc=false:=by rw [<-aa pE,decide_eq_false jc];rfl
 subst eB;refine bO (fun w'=>True) trivial fun hS=>?_;refine gC 0 1 2 3 hS ?_;refine iI 4 5 6 7 hS ?_;refine iI 8 9 10 11 hS ?_;refine sn 12 hS ?_;refine sn 13 hS ?_;refine tn 14 hS ?_;refine bu ?_;go_wp2_with fail;go_meet;exact ⟨rfl,rfl⟩})
 obtain ⟨rfl,rfl⟩:=hcut;cases Bc with
 | true=>
  have hh:i4<=j5/\((fun x=>!ltInt x dk[a]!) dk[j5]!)=true:=by have:=aa pE;rw [Bool.and_eq_true,decide_eq_true_iff] at this;exact this
  have hle:=hh.1;obtain ⟨m,em⟩:∃ m:Nat,(j5:Int)-1=(m:Int):=⟨j5-1,by omega⟩;have hn:Hid (scanDown (fun x=>!ltInt x dk[a]!) dk i4 m=J5):=by show _=_;rw [<-aa hE5,By (by omega) hh.1 hh.2,show j5-1=m by omega]
  go_wp2;go_roundw
  case rel=>exact ⟨m,by first | rfl | go_num,by omega,by omega,yI.drew,hn,ar WA⟩
  case measure=>simp [intOf];omega
 | false=>
  have dz:j5=J5:=by rw [<-aa hE5,tS (by omega)];have:=aa pE;rw [Bool.and_eq_false_iff,decide_eq_false_iff_not] at this;exact this
  subst dz;by_cases qh:j5<i4;{
 have Wc:=aT j5 i4;have hq:=aa hQ3;rw [yr (aa OI) (aa OG) qh] at hq;simp only [Prod.mk.injEq] at hq;obtain ⟨RR,RO⟩:=hq;subst RR RO;have hr:=aa HRB;simp only [Prod.mk.injEq] at hr;obtain ⟨Nl,er2,WN⟩:=hr;replace Nl:=Nl.symm;replace WN:=WN.symm;subst Nl er2 WN;obtain ⟨c1,f1⟩:=aa yI j5 (by have:=aa xV;omega);obtain ⟨c2,f2⟩:=aa yI a (by have:=aa xV;omega);obtain ⟨p1,xB⟩:=aH dk[j5]!;obtain ⟨p2,xA⟩:=aH dk[a]!;rw [xB] at c1;rw [xA] at c2;obtain ⟨tt,ct⟩:=ij (q:=⟨aI,off+j5,none⟩) (u:=.U p2) c2;have oV:=ae (yI.swap (i:=j5) (j:=a) (by have:=aa xV;omega) (by have:=aa xV;omega) xA.symm xB.symm);have EA:=ae (aQ (aQ WA (aE _ aI (off+j5) (.U p2))) (aE _ aI (off+a) (.U p1)));have l1:=aT j5 N;have l2:=aT a N;have l3:=dE 0 j5;have l4:=dE 0 a;go_wp2_with fail
 go_region
 go_wp2
 go_ret2
 exact ⟨rfl,oV,ar (ar EA)⟩};{
 have Wc:=dy j5 i4;have hq:=aa hQ3;rw [aa6 (aa OI) (aa OG) qh (by omega) (by omega) (by omega)] at hq;have Ke:=ae hq;obtain ⟨c1,f1⟩:=aa yI i4 (by have:=aa xV;omega);obtain ⟨c2,f2⟩:=aa yI j5 (by have:=aa xV;omega);obtain ⟨p1,xB⟩:=aH dk[i4]!;obtain ⟨p2,xA⟩:=aH dk[j5]!;rw [xB] at c1;rw [xA] at c2;obtain ⟨tt,ct⟩:=ij (q:=⟨aI,off+i4,none⟩) (u:=.U p2) c2;have oV:=ae (yI.swap (i:=i4) (j:=j5) (by have:=aa xV;omega) (by have:=aa xV;omega) xA.symm xB.symm);have EA:=ae (aQ (aQ WA (aE _ aI (off+i4) (.U p2))) (aE _ aI (off+j5) (.U p1)));have l1:=aT i4 N;have l2:=aT j5 N;have l3:=dE 0 i4;have l4:=dE 0 j5;obtain ⟨m5,em5⟩:∃ m:Nat,(j5:Int)-1=(m:Int):=⟨j5-1,by omega⟩;have WT:j5-1=m5:=by omega
 rw [WT] at Ke;have XQ:Hid ((swp dk i4 j5).size=N):=by show _=_;rw [size_swp];exact aa xV
 go_wp2_with fail
 go_region
 go_wp2;go_roundw
 case rel=>exact ⟨i4+1,m5,_,by first | rfl | go_num,by first | rfl | go_num,by omega,by omega,by omega,XQ,oV,Ke,ar (ar EA)⟩
 case measure=>simp [intOf];omega})))}))
end Q
namespace Q
open Go.Sort Go.RowKit Go.Proofs.Tryz
theorem uP (h1:scanUp (fun x=>!ltInt d[a]! x) d j i=i2) (h2:scanDown (fun x=>ltInt d[a]! x) d i2 j=j2) (h:j2<i2):partEqLoop ltInt a i j d=(i2,d):=by
 rw [partEqLoop];simp only [h1,h2];rw [if_pos h]
theorem yt (h1:scanUp (fun x=>!ltInt d[a]! x) d j i=i2) (h2:scanDown (fun x=>ltInt d[a]! x) d i2 j=j2) (h:¬ j2<i2) (hi:i<=i2) (hj:j2<=j) (hi0:0<i2):partEqLoop ltInt a i j d=partEqLoop ltInt a (i2+1) (j2-1) (swp d i2 j2):=by
 rw [partEqLoop];simp only [h1,h2];rw [if_neg h,dif_pos (by omega)]
theorem Fi (aI off cap N a b piv:Nat) (d:Array Int) (hN:Hid (d.size=N)) (w:World) (h:HU w aI off d) (Ym:a<=piv) (hpb:piv<b) (hb:b<=N) (il:N<=1048576) :
  Calls prog 192 #[.S (some ⟨aI,off,none⟩) N cap,.I a,.I b,.I piv] w fun e w'=>e=.returned (.I (partitionEqual ltInt d a b piv).1)/\HU w' aI off (partitionEqual ltInt d a b piv).2/\w.grownBy w' (some aI):=by
 obtain ⟨⟨Q1,Q2⟩,eR⟩:∃ R,partitionEqual ltInt d a b piv=R:=⟨_,rfl⟩;rw [eR];have qO:=aa hN;obtain ⟨B1,eB1⟩:∃ x:Nat,(b:Int)-1=(x:Int):=⟨b-1,by omega⟩;have YD:b-1=B1:=by omega
 have wB:=fH B1;obtain ⟨ca,fa⟩:=h a (by omega);obtain ⟨cp,fp⟩:=h piv (by omega);obtain ⟨u,eu⟩:=aH d[a]!;obtain ⟨v,ev⟩:=aH d[piv]!;have XI:=ae (h.swap (i:=a) (j:=piv) (by omega) (by omega) ev.symm eu.symm);rw [eu] at ca;rw [ev] at cp;obtain ⟨tt,ct⟩:=ij (q:=⟨aI,off+a,none⟩) (u:=.U v) cp;obtain ⟨d1,Xa⟩:=aH (swp d a piv);rw [Xa] at XI;have JK:Hid (d1.size=N):=by show _=_;rw [<-Xa,size_swp];exact qO
 have HG:=ae (aQ (aE w aI (off+a) (.U v)) (aE _ aI (off+piv) (.U u)));have EQ:Hid (partEqLoop ltInt a (a+1) B1 d1=(Q1,Q2)):=by show _=_;rw [<-eR,partitionEqual,Xa,YD]
 have kk1:=aT a N;have kk2:=aT piv N;go_enter func192,ntmps192;go_wp2_with fail
 go_region
 go_wp2_with fail
 go_loopw [9,10] (fun s9 AG wr=>∃ (i j:Nat) (dk:Array Int),s9=.I i/\AG=.I j/\a+1<=i/\i<=j+2/\j<=B1/\Hid (dk.size=N)/\Hid (HU wr aI off dk)/\Hid (partEqLoop ltInt a i j dk=(Q1,Q2))/\Hid (w.grownBy wr (some aI))) (fun s9 AG _=>(intOf AG+2-intOf s9).toNat)
 case atStart=>exact ⟨a+1,B1,_,by first | rfl | go_num,by first | rfl | go_num,by omega,by omega,by omega,JK,XI,EQ,ar HG⟩
 case round =>(
 obtain ⟨i,j,dk,rfl,rfl,z1,z2,z3,xV,Bp,hQ3,Ru⟩:=hrel;obtain ⟨y,ey⟩:=aH dk[a]!;have SJ:=ae ey;obtain ⟨I4,eI4⟩:∃ I,scanUp (fun x=>!ltInt dk[a]! x) dk j i=I:=⟨_,rfl⟩;obtain ⟨J5,eJ5⟩:∃ J,scanDown (fun x=>ltInt dk[a]! x) dk I4 j=J:=⟨_,rfl⟩;have EI4:=ae eI4;have EJ5:=ae eJ5;have OI:=EI4;have OG:=EJ5;go_wp2_with fail;obtain ⟨Y,eY⟩:=ax wr;subst eY
 go_loopw [9] (fun s wr=>∃ i4:Nat,s=.I i4/\i<=i4/\i4<=j+2/\Hid (HU wr aI off dk)/\Hid (scanUp (fun x=>!ltInt dk[a]! x) dk j i4=I4)/\Hid (w.grownBy wr (some aI))) (fun s _=>j+1-(intOf s).toNat)
 case atStart=>exact ⟨i,by first | rfl | go_num,by omega,by omega,Bp,EI4,Ru⟩
 case round =>(
 obtain ⟨i4,rfl,qa4,qb4,DQ,hE4,hG4⟩:=hrel;obtain ⟨Bc,Jn⟩:∃ B,(decide (i4<=j)&&((fun x=>!ltInt dk[a]! x) dk[i4]!))=B:=⟨_,rfl⟩;have pE:=ae Jn;go_wp2_with fail
 go_cut [43] (fun rv wc=>rv=.bool Bc/\wc=wr.drew)
 case first =>(
 by_cases jc:i4<=j;{
 have tK:=vj i4 j;have hdd:=aa xV;obtain ⟨ci,-⟩:=aa DQ i4 (by omega);obtain ⟨ca,-⟩:=aa DQ a (by omega);obtain ⟨x,ex⟩:=aH dk[i4]!;rw [ex] at ci;rw [aa SJ] at ca;have k1:=aT i4 N;have k2:=aT a N;have k3:=dE 0 i4;obtain ⟨L,eL⟩:=aH (ltInt y x);have EL:=ae eL;have eB:Bc=(!L):=by rw [<-aa pE];simp only [decide_eq_true jc,Bool.true_and,ex,aa SJ,eL]
 subst eB;have K0:=ae (ag ci ca);refine bO (fun w'=>w'.cell? ⟨aI,off+i4,none⟩=some (.U x)/\w'.cell? ⟨aI,off+a,none⟩=some (.U y)) (by exact K0) fun hS=>?_;refine gy 0 1 2 3 4 5 6 7 hS ?_;refine gC 8 9 10 11 hS ?_;refine bH 12 fun KK hK=>?_;refine cL (by rfl) 191 _ _ _ (by rfl) (.U y) (.U x) (by rfl) (by rfl) (fun _=>dZ _ _) (dY y x _) ?_;rintro r' w2 ⟨rfl,rfl⟩;refine ⟨_,rfl,?_⟩;rw [aa EL];refine cg hK (by exact K0) fun hS=>?_;refine fe 13 14 hS ?_;refine bu ?_;go_wp2_with fail;go_meet;exact ⟨rfl,rfl⟩};{
 have tK:¬ (i4:Int)<=(j:Int):=by omega
 have eB:Bc=false:=by rw [<-aa pE,decide_eq_false jc];rfl
 subst eB;refine bO (fun w'=>True) trivial fun hS=>?_;refine gC 0 1 2 3 hS ?_;refine iI 4 5 6 7 hS ?_;refine iI 8 9 10 11 hS ?_;refine sn 12 hS ?_;refine sn 13 hS ?_;refine tn 14 hS ?_;refine bu ?_;go_wp2_with fail;go_meet;exact ⟨rfl,rfl⟩})
 obtain ⟨rfl,rfl⟩:=hcut;cases Bc with
 | true=>
  have hh:i4<=j/\((fun x=>!ltInt dk[a]! x) dk[i4]!)=true:=by have:=aa pE;rw [Bool.and_eq_true,decide_eq_true_iff] at this;exact this
  have hn:Hid (scanUp (fun x=>!ltInt dk[a]! x) dk j (i4+1)=I4):=by show _=_;rw [<-Kq hh.1 hh.2];exact aa hE4
  have hle:=hh.1;go_wp2;go_roundw
  case rel=>exact ⟨i4+1,by go_num,by omega,by omega,DQ.drew,hn,ar hG4⟩
  case measure=>simp [intOf];omega
 | false=>
  have dz:i4=I4:=by rw [<-aa hE4,Aq];have:=aa pE;rw [Bool.and_eq_false_iff,decide_eq_false_iff_not] at this;exact this
  subst dz;go_wp2_with fail
  go_loopw [10] (fun s wr=>∃ j5:Nat,s=.I j5/\i4<=j5+2/\j5<=j/\Hid (HU wr aI off dk)/\Hid (scanDown (fun x=>ltInt dk[a]! x) dk i4 j5=J5)/\Hid (w.grownBy wr (some aI))) (fun s _=>(intOf s).toNat)
  case atStart=>exact ⟨j,by first | rfl | go_num,by omega,by omega,DQ,EJ5,(ar hG4)⟩
  case round =>(
 obtain ⟨j5,rfl,qa5,qb5,yI,hE5,WA⟩:=hrel;obtain ⟨Bc,Jn⟩:∃ B,(decide (i4<=j5)&&((fun x=>ltInt dk[a]! x) dk[j5]!))=B:=⟨_,rfl⟩;have pE:=ae Jn;go_wp2_with fail
 go_cut [59] (fun rv wc=>rv=.bool Bc/\wc=wr.drew)
 case first =>(
 by_cases jc:i4<=j5;{
 have tK:=vj i4 j5;have hdd:=aa xV;obtain ⟨ci,-⟩:=aa yI j5 (by omega);obtain ⟨ca,-⟩:=aa yI a (by omega);obtain ⟨x,ex⟩:=aH dk[j5]!;rw [ex] at ci;rw [aa SJ] at ca;have k1:=aT j5 N;have k2:=aT a N;have k3:=dE 0 j5;obtain ⟨L,eL⟩:=aH (ltInt y x);have EL:=ae eL;have eB:Bc=L:=by rw [<-aa pE];simp only [decide_eq_true jc,Bool.true_and,ex,aa SJ,eL]
 subst eB;have K0:=ae (ag ci ca);refine bO (fun w'=>w'.cell? ⟨aI,off+j5,none⟩=some (.U x)/\w'.cell? ⟨aI,off+a,none⟩=some (.U y)) (by exact K0) fun hS=>?_;refine gy 0 1 2 3 4 5 6 7 hS ?_;refine gC 8 9 10 11 hS ?_;refine bH 12 fun KK hK=>?_;refine cL (by rfl) 191 _ _ _ (by rfl) (.U y) (.U x) (by rfl) (by rfl) (fun _=>dZ _ _) (dY y x _) ?_;rintro r' w2 ⟨rfl,rfl⟩;refine ⟨_,rfl,?_⟩;rw [aa EL];refine cg hK (by exact K0) fun hS=>?_;refine tn 13 hS ?_;refine bu ?_;go_wp2_with fail;go_meet;exact ⟨rfl,rfl⟩};{
 have tK:¬ (i4:Int)<=(j5:Int):=by omega
 have eB:Bc=false:=by rw [<-aa pE,decide_eq_false jc];rfl
 subst eB;refine bO (fun w'=>True) trivial fun hS=>?_;refine gC 0 1 2 3 hS ?_;refine iI 4 5 6 7 hS ?_;refine iI 8 9 10 11 hS ?_;refine sn 12 hS ?_;refine tn 13 hS ?_;refine bu ?_;go_wp2_with fail;go_meet;exact ⟨rfl,rfl⟩})
 obtain ⟨rfl,rfl⟩:=hcut;cases Bc with
 | true=>
  have hh:i4<=j5/\((fun x=>ltInt dk[a]! x) dk[j5]!)=true:=by have:=aa pE;rw [Bool.and_eq_true,decide_eq_true_iff] at this;exact this
  have hle:=hh.1;obtain ⟨m,em⟩:∃ m:Nat,(j5:Int)-1=(m:Int):=⟨j5-1,by omega⟩;have hn:Hid (scanDown (fun x=>ltInt dk[a]! x) dk i4 m=J5):=by show _=_;rw [<-aa hE5,By (by omega) hh.1 hh.2,show j5-1=m by omega]
  go_wp2;go_roundw
  case rel=>exact ⟨m,by first | rfl | go_num,by omega,by omega,yI.drew,hn,ar WA⟩
  case measure=>simp [intOf];omega
 | false=>
  have dz:j5=J5:=by rw [<-aa hE5,tS (by omega)];have:=aa pE;rw [Bool.and_eq_false_iff,decide_eq_false_iff_not] at this;exact this
  subst dz;by_cases qh:j5<i4;{have Wc:=aT j5 i4;have hq:=aa hQ3;rw [uP (aa OI) (aa OG) qh] at hq;simp only [Prod.mk.injEq] at hq;obtain ⟨RR,RO⟩:=hq;subst RR RO;go_wp2;go_ret;exact ⟨rfl,yI,ar WA⟩};{
 have Wc:=dy j5 i4;have hq:=aa hQ3;rw [yt (aa OI) (aa OG) qh (by omega) (by omega) (by omega)] at hq;have Ke:=ae hq;obtain ⟨c1,f1⟩:=aa yI i4 (by have:=aa xV;omega);obtain ⟨c2,f2⟩:=aa yI j5 (by have:=aa xV;omega);obtain ⟨p1,xB⟩:=aH dk[i4]!;obtain ⟨p2,xA⟩:=aH dk[j5]!;rw [xB] at c1;rw [xA] at c2;obtain ⟨tt,ct⟩:=ij (q:=⟨aI,off+i4,none⟩) (u:=.U p2) c2;have oV:=ae (yI.swap (i:=i4) (j:=j5) (by have:=aa xV;omega) (by have:=aa xV;omega) xA.symm xB.symm);have EA:=ae (aQ (aQ WA (aE _ aI (off+i4) (.U p2))) (aE _ aI (off+j5) (.U p1)));have l1:=aT i4 N;have l2:=aT j5 N;have l3:=dE 0 i4;have l4:=dE 0 j5;obtain ⟨m5,em5⟩:∃ m:Nat,(j5:Int)-1=(m:Int):=⟨j5-1,by omega⟩;have WT:j5-1=m5:=by omega
 rw [WT] at Ke;have XQ:Hid ((swp dk i4 j5).size=N):=by show _=_;rw [size_swp];exact aa xV
 go_wp2_with fail
 go_region
 go_wp2;go_roundw
 case rel=>exact ⟨i4+1,m5,_,by first | rfl | go_num,by first | rfl | go_num,by omega,by omega,by omega,XQ,oV,Ke,ar (ar EA)⟩
 case measure=>simp [intOf];omega})))
end Q
end Go.Proofs.YtcfcafeciggjeaaGreatDoor
