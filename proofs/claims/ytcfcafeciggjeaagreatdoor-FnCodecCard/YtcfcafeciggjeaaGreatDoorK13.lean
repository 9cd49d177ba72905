import Derived.Test.YtcfcafeciggjeaaGreatDoorK12
namespace Go.Proofs.YtcfcafeciggjeaaGreatDoor
set_option maxHeartbeats 1600000
set_option linter.all false
set_option maxRecDepth 100000
open Go.ChangeShapes Go.WideShapes Go.ChangeAt Go.RowKit Go.Proofs.Tryz
variable {es:List Ev} {ss:List aY} {v:Value}
def iG (n:Nat) (lt:Nat->Nat->Bool):Bool:=(List.range n).all fun i=>i==0||lt (i-1) i
theorem Gu {f:Nat->Bool} {k n:Nat} (h:(List.range k).all f=true) (hn:n<=k):(List.range n).all f=true:=by
 rw [List.all_eq_true] at h ⊢;exact fun i hi=>h i (List.mem_range.2 (Nat.lt_of_lt_of_le (List.mem_range.1 hi) hn))
theorem af2 (i1 d1 i2 d2:Int) (q1 q2:Value) (w:World):Calls prog 115 #[.agg #[.U i1,.I d1,q1],.agg #[.U i2,.I d2,q2]] w fun e w'=>e=.returned (.I (yL i1 i2))/\Bw w w':=by
 go_enter func115,ntmps115;go_wp2_with fail;refine (sH i1 i2 _).mono ?_;rintro e w1 ⟨rfl,rfl⟩;go_wp2;go_ret;exact ⟨rfl,(aJ.alloc aA _).alloc aU _⟩
theorem Sk (p1 p2:Option Addr) (c1 c2 n1 n2:Nat) (l1 l2:List Int) (e1:Hid (l1.length=n1)) (e2:Hid (l2.length=n2)) (V1 V2 H1 H2 U1 U2:Value) (o1 o2 m1 m2 x1 x2 g1 g2:Int) (w:World) (h1:Rd w (.S p1 n1 c1) l1) (h2:Rd w (.S p2 n2 c2) l2) :
  Calls prog 119 #[JS (.S p1 n1 c1) V1 o1 m1 H1 x1 g1 U1,JS (.S p2 n2 c2) V2 o2 m2 H2 x2 g2 U2] w fun e w'=>e=.returned (.I (YF l1 l2))/\Bw w w':=by
 have HR:=ae fun (w':World) (hb:Bw w w')=>ag (h1.below hb) (h2.below hb);go_enter func119,ntmps119;go_wp2_with fail;have b1:Bw w ((w.alloc (.cells #[.S p1 n1 c1,V1,.U o1,.I m1,H1,.U x1,.U g1,U1] 38)).alloc (.cells #[.S p2 n2 c2,V2,.U o2,.I m2,H2,.U x2,.U g2,U2] 38)):=(aJ.alloc aA _).alloc aU _;refine (BH p1 p2 c1 c2 n1 n2 l1 l2 e1 e2 _ (aa HR _ b1).1 (aa HR _ b1).2).mono ?_;rintro e w1 ⟨rfl,rfl⟩;go_wp2;go_ret;exact ⟨rfl,b1⟩
theorem Eg (p:Option Addr) (c n:Nat) (l:List Int) (en:Hid (l.length=n)) (w:World) (h:nH w (.S p n c) l) (hn:n<=1048576) (B:Bool) (eB:Hid (iG n (fun i j=>decide (l.getD i 0<l.getD j 0))=B)) :
  Calls prog 160 #[.S p n c,.func (.func 116) #[] #[]] w fun r w'=>r=.returned (.bool B)/\Bw w w':=by
 have HR:=ae fun (w':World) (hb:Bw w w')=>h.below hb;have ve:∀ (vs:Array Value) (w:World),(callFunc 116 vs).run prog w=.ok (.enter 116 vs) w:=fun vs w=>cW;have Ck:=ae ve;go_enter func160,ntmps160;go_wp2_with fail
 go_loopw [5] (fun iv wr=>∃ k:Nat,1<=k/\(k<=n\/k=1)/\iv=.I k/\Hid ((List.range k).all (fun i=>i==0||(fun i j=>decide (l.getD i 0<l.getD j 0)) (i-1) i)=true)/\Bw w wr) (fun iv _=>n-(intOf iv).toNat)
 case atStart=>exact ⟨1,Nat.le_refl _,.inr rfl,rfl,cw,Below.refl _ _⟩
 case round =>(
 obtain ⟨k,nw,Ra,rfl,iJ,aR⟩:=hrel;by_cases bj:k<n;{
 have da:=aT k n;have fL:k<l.length:=by rw [aa en];exact bj
 obtain ⟨j,ej⟩:∃ j:Nat,(k:Int)-1=(j:Int):=⟨k-1,ab⟩;have Gh:k-1=j:=ab;have Bf:j<l.length:=ab;have VW:=aT j n;have hj0:=dE 0 j;have wj:=ji j;obtain ⟨b,o,rfl,bG⟩:∃ b o,p=some ⟨b,o,none⟩/\∀ i,i<n->wr.cell? ⟨b,o+i,none⟩=some (.U (l.getD i 0)):=by obtain ⟨p',c',ev,hd⟩:=aa HR _ aR;simp only [Value.slice.injEq] at ev;obtain ⟨rfl,-,-⟩:=ev;rcases hd with h0 | ⟨b,o,h1,h2⟩;{rw [h0] at fL;simp at fL};{exact ⟨b,o,h1,fun i hi=>h2 i (by rw [aa en];exact hi)⟩}
 have zO:=bG k bj;have Tw:=bG j ab;obtain ⟨y,ey⟩:=aH (l.getD k 0);obtain ⟨z,ez⟩:=aH (l.getD j 0);rw [ey] at zO;rw [ez] at Tw;have K0:=ae (ag Tw zO);obtain ⟨C,eC⟩:=aH (yL z y);have gS:((k==0)||(fun i j=>decide (l.getD i 0<l.getD j 0)) (k-1) k)=!decide (0<=C):=by rw [show (k==0)=false by simp;omega,Bool.false_or,Gh];show decide (l.getD j 0<l.getD k 0)=_;rw [ey,ez,<-eC,yL];by_cases h1:z<y;{simp [h1]};{by_cases h2:y<z;{simp [h1,h2]};{simp [h1,h2]}}
 have hF:decide (0<=C)=true->B=false:=fun h=>by rw [<-aa eB,iG];exact dK bj (by rw [gS,h];rfl)
 have hT:decide (0<=C)=false->Hid ((List.range (k+1)).all (fun i=>i==0||(fun i j=>decide (l.getD i 0<l.getD j 0)) (i-1) i)=true):=fun h=>cM (aa iJ) (by rw [gS,h];rfl);have EC:=ae eC;obtain ⟨D,eD⟩:∃ D,decide (0<=C)=D:=⟨_,rfl⟩;have HF:=ae (fun h:D=true=>hF (eD.trans h));have HT:=ae (fun h:D=false=>hT (eD.trans h));go_wp2_with fail
 go_cut [23] (fun rv wc=>rv=.bool D/\Bw w wc)
 case first =>(
 refine bO (fun w'=>w'.cell? ⟨b,o+j,none⟩=some (.U z)/\w'.cell? ⟨b,o+k,none⟩=some (.U y)) (by exact K0) fun hS=>?_;refine gy 0 1 2 3 4 5 6 7 hS ?_;refine fe 8 9 hS ?_;refine ry [10] ?_;refine cn (fun KK hK=>?_) ?_;{refine oq bU 116 _ _ _ _ bU (.U z) (.U y) bU bU bU (fun _=>aa Ck _ _) (sH z y _) ?_;rintro r w2 ⟨rfl,rfl⟩;refine ⟨_,rfl,?_⟩;have cR:Bw wr wr.drew:=aJ.drew;rw [aa EC];refine cg hK hS fun hS=>?_;refine tn 11 hS ?_;refine bu ?_;go_wp2_with fail;go_meet;exact ⟨rfl,ah aR cR⟩};exact AllReadyH.nil)
 obtain ⟨rfl,oI⟩:=hcut;cases D with
 | true=>
  have eF:=aa HF rfl;subst eF;go_wp2;go_ret;exact ⟨rfl,oI⟩
 | false=>
  have zb:=aa HT rfl;go_wp2;go_roundw
  case rel=>exact ⟨k+1,ab,.inl ab,by go_num,zb,oI⟩
  exact dC};{
 have da:=dy k n;have eT:B=true:=by rw [<-aa eB,iG];exact Gu iJ ab
 subst eT;go_wp2;go_ret;exact ⟨rfl,aR⟩})
theorem Oj (p:Option Addr) (c n:Nat) (l:List aY) (en:Hid (l.length=n)) (w:World) (h:RdS w (.S p n c) l) (hn:n<=1048576) (B:Bool) (eB:Hid (iG n (fun i j=>decide ((l.getD i (0,0,[])).1<(l.getD j (0,0,[])).1))=B)) :
  Calls prog 114 #[.S p n c,.func (.func 115) #[] #[]] w fun r w'=>r=.returned (.bool B)/\Bw w w':=by
 have HR:=ae fun (w':World) (hb:Bw w w')=>h.below hb;have ve:∀ (vs:Array Value) (w:World),(callFunc 115 vs).run prog w=.ok (.enter 115 vs) w:=fun vs w=>cW;have Ck:=ae ve;go_enter func114,ntmps114;go_wp2_with fail
 go_loopw [5] (fun iv wr=>∃ k:Nat,1<=k/\(k<=n\/k=1)/\iv=.I k/\Hid ((List.range k).all (fun i=>i==0||(fun i j=>decide ((l.getD i (0,0,[])).1<(l.getD j (0,0,[])).1)) (i-1) i)=true)/\Bw w wr) (fun iv _=>n-(intOf iv).toNat)
 case atStart=>exact ⟨1,Nat.le_refl _,.inr rfl,rfl,cw,Below.refl _ _⟩
 case round =>(
 obtain ⟨k,nw,Ra,rfl,iJ,aR⟩:=hrel;by_cases bj:k<n;{
 have da:=aT k n;have fL:k<l.length:=by rw [aa en];exact bj
 obtain ⟨j,ej⟩:∃ j:Nat,(k:Int)-1=(j:Int):=⟨k-1,ab⟩;have Gh:k-1=j:=ab;have Bf:j<l.length:=ab;have VW:=aT j n;have hj0:=dE 0 j;have wj:=ji j;obtain ⟨⟨y,yd,yq⟩,hy⟩:∃ y,l[k]?=some y:=⟨_,aK fL⟩;obtain ⟨⟨z,zd,zq⟩,hz⟩:∃ y,l[j]?=some y:=⟨_,aK Bf⟩;obtain ⟨b,o,rfl,⟨y1,y2,yu,y3,-⟩,z1,z2,zu,z3,-⟩:∃ b o,p=some ⟨b,o,none⟩/\(wr.cell? ⟨b,o+k*3,none⟩=some (.U y)/\wr.cell? ⟨b,o+k*3+1,none⟩=some (.I yd)/\∃ u,wr.cell? ⟨b,o+k*3+2,none⟩=some u/\vO wr u yq)/\(wr.cell? ⟨b,o+j*3,none⟩=some (.U z)/\wr.cell? ⟨b,o+j*3+1,none⟩=some (.I zd)/\∃ u,wr.cell? ⟨b,o+j*3+2,none⟩=some u/\vO wr u zq):=by obtain ⟨p',c',ev,hd⟩:=aa HR _ aR;simp only [Value.slice.injEq] at ev;obtain ⟨rfl,-,-⟩:=ev;rcases hd with h0 | ⟨b,o,h1,h2⟩;{rw [h0] at fL;simp at fL};{exact ⟨b,o,h1,h2 k _ hy,h2 j _ hz⟩}
 have ey:(l.getD k (0,0,[])).1=y:=by rw [List.getD_eq_getElem?_getD,hy];rfl
 have ez:(l.getD j (0,0,[])).1=z:=by rw [List.getD_eq_getElem?_getD,hz];rfl
 have K0:=ae (ag z1 (ag z2 (ag z3 (ag y1 (ag y2 y3)))));obtain ⟨C,eC⟩:=aH (yL z y);have gS:((k==0)||(fun i j=>decide ((l.getD i (0,0,[])).1<(l.getD j (0,0,[])).1)) (k-1) k)=!decide (0<=C):=by rw [show (k==0)=false by simp;omega,Bool.false_or,Gh];show decide ((l.getD j (0,0,[])).1<(l.getD k (0,0,[])).1)=_;rw [ey,ez,<-eC,yL];by_cases h1:z<y;{simp [h1]};{by_cases h2:y<z;{simp [h1,h2]};{simp [h1,h2]}}
 have hF:decide (0<=C)=true->B=false:=fun h=>by rw [<-aa eB,iG];exact dK bj (by rw [gS,h];rfl)
 have hT:decide (0<=C)=false->Hid ((List.range (k+1)).all (fun i=>i==0||(fun i j=>decide ((l.getD i (0,0,[])).1<(l.getD j (0,0,[])).1)) (i-1) i)=true):=fun h=>cM (aa iJ) (by rw [gS,h];rfl);have EC:=ae eC;obtain ⟨D,eD⟩:∃ D,decide (0<=C)=D:=⟨_,rfl⟩;have HF:=ae (fun h:D=true=>hF (eD.trans h));have HT:=ae (fun h:D=false=>hT (eD.trans h));go_wp2_with fail
 go_cut [23] (fun rv wc=>rv=.bool D/\Bw w wc)
 case first =>(
 refine bO (fun w'=>w'.cell? ⟨b,o+j*3,none⟩=some (.U z)/\w'.cell? ⟨b,o+j*3+1,none⟩=some (.I zd)/\w'.cell? ⟨b,o+j*3+2,none⟩=some zu/\w'.cell? ⟨b,o+k*3,none⟩=some (.U y)/\w'.cell? ⟨b,o+k*3+1,none⟩=some (.I yd)/\w'.cell? ⟨b,o+k*3+2,none⟩=some yu) (by exact K0) fun hS=>?_;refine gy 0 1 2 3 4 5 6 7 hS ?_;refine fe 8 9 hS ?_;refine ry [10] ?_;refine cn (fun KK hK=>?_) ?_;{refine oq bU 115 _ _ _ _ bU (.agg #[.U z,.I zd,zu]) (.agg #[.U y,.I yd,yu]) bU bU bU (fun _=>aa Ck _ _) (af2 z zd y yd zu yu _) ?_;rintro r w2 ⟨rfl,cX⟩;refine ⟨_,rfl,?_⟩;have cR:Bw wr w2:=ah (Below.refl wr.heap.size wr).drew cX;rw [aa EC];refine cg hK (by obtain ⟨k1,k2,k3,k4,k5,k6⟩:=aa K0;exact ⟨af k1 cR,af k2 cR,af k3 cR,af k4 cR,af k5 cR,af k6 cR⟩) fun hS=>?_;refine tn 11 hS ?_;refine bu ?_;go_wp2_with fail;go_meet;exact ⟨rfl,ah aR cR⟩};exact AllReadyH.nil)
 obtain ⟨rfl,oI⟩:=hcut;cases D with
 | true=>
  have eF:=aa HF rfl;subst eF;go_wp2;go_ret;exact ⟨rfl,oI⟩
 | false=>
  have zb:=aa HT rfl;go_wp2;go_roundw
  case rel=>exact ⟨k+1,ab,.inl ab,by go_num,zb,oI⟩
  exact dC};{
 have da:=dy k n;have eT:B=true:=by rw [<-aa eB,iG];exact Gu iJ ab
 subst eT;go_wp2;go_ret;exact ⟨rfl,aR⟩})
theorem Ol (p:Option Addr) (c n:Nat) (l:List aD) (en:Hid (l.length=n)) (w:World) (h:kJ w (.S p n c) l) (hn:n<=1048576) (B:Bool) (eB:Hid (iG n (fun i j=>!leB (l.getD j fq).path (l.getD i fq).path)=B)) :
  Calls prog 118 #[.S p n c,.func (.func 119) #[] #[]] w fun r w'=>r=.returned (.bool B)/\Bw w w':=by
 have HR:=ae fun (w':World) (hb:Bw w w')=>h.below hb;have ve:∀ (vs:Array Value) (w:World),(callFunc 119 vs).run prog w=.ok (.enter 119 vs) w:=fun vs w=>cW;have Ck:=ae ve;go_enter func118,ntmps118;go_wp2_with fail
 go_loopw [5] (fun iv wr=>∃ k:Nat,1<=k/\(k<=n\/k=1)/\iv=.I k/\Hid ((List.range k).all (fun i=>i==0||(fun i j=>!leB (l.getD j fq).path (l.getD i fq).path) (i-1) i)=true)/\Bw w wr) (fun iv _=>n-(intOf iv).toNat)
 case atStart=>exact ⟨1,Nat.le_refl _,.inr rfl,rfl,cw,Below.refl _ _⟩
 case round =>(
 obtain ⟨k,nw,Ra,rfl,iJ,aR⟩:=hrel;by_cases bj:k<n;{
 have da:=aT k n;have fL:k<l.length:=by rw [aa en];exact bj
 obtain ⟨j,ej⟩:∃ j:Nat,(k:Int)-1=(j:Int):=⟨k-1,ab⟩;have Gh:k-1=j:=ab;have Bf:j<l.length:=ab;have VW:=aT j n;have hj0:=dE 0 j;have wj:=ji j;obtain ⟨UM,hy⟩:∃ y,l[k]?=some y:=⟨_,aK fL⟩;obtain ⟨UK,hz⟩:∃ y,l[j]?=some y:=⟨_,aK Bf⟩;obtain ⟨b,o,rfl,hA⟩:=(aa HR _ aR).at ab;obtain ⟨yP,yV,yH,yU,ny⟩:=hA k _ hy;obtain ⟨zP,zV,zH,zU,nz⟩:=hA j _ hz;have ey:(l.getD k fq).path=UM.path:=by rw [List.getD_eq_getElem?_getD,hy];rfl
 have ez:(l.getD j fq).path=UK.path:=by rw [List.getD_eq_getElem?_getD,hz];rfl
 obtain ⟨yp,yc,yn,rfl,eyn⟩:=ny.r0.gD;obtain ⟨zp,zc,zn,rfl,ezn⟩:=nz.r0.gD;have RY:=ae ny.r0;have RZ:=ae nz.r0;obtain ⟨y0,y1,y2,y3,y4,y5,y6,y7,-,-,-,-,-⟩:=ny;obtain ⟨z0,z1,z2,z3,z4,z5,z6,z7,-,-,-,-,-⟩:=nz;obtain ⟨yo,ym,ye,yg,e1,e2,e3,e4⟩:∃ a b c d,UM.owner=a/\UM.mode=b/\UM.aB=c/\UM.gen=d:=⟨_,_,_,_,rfl,rfl,rfl,rfl⟩;obtain ⟨zo,zm,ze,zg,f1,f2,f3,f4⟩:∃ a b c d,UK.owner=a/\UK.mode=b/\UK.aB=c/\UK.gen=d:=⟨_,_,_,_,rfl,rfl,rfl,rfl⟩;rw [e1] at y2;rw [e2] at y3;rw [e3] at y5;rw [e4] at y6;rw [f1] at z2;rw [f2] at z3;rw [f3] at z5;rw [f4] at z6;have K0:=ae (ag z0 (ag z1 (ag z2 (ag z3 (ag z4 (ag z5 (ag z6 (ag z7 (ag y0 (ag y1 (ag y2 (ag y3 (ag y4 (ag y5 (ag y6 y7)))))))))))))));obtain ⟨C,eC⟩:=aH (YF UK.path UM.path);have gS:((k==0)||(fun i j=>!leB (l.getD j fq).path (l.getD i fq).path) (k-1) k)=!decide (0<=C):=by rw [show (k==0)=false by simp;omega,Bool.false_or,Gh];show (!leB (l.getD k fq).path (l.getD j fq).path)=_;rw [ey,ez,<-eC,af1]
 have hF:decide (0<=C)=true->B=false:=fun h=>by rw [<-aa eB,iG];exact dK bj (by rw [gS,h];rfl)
 have hT:decide (0<=C)=false->Hid ((List.range (k+1)).all (fun i=>i==0||(fun i j=>!leB (l.getD j fq).path (l.getD i fq).path) (i-1) i)=true):=fun h=>cM (aa iJ) (by rw [gS,h];rfl);have EC:=ae eC;obtain ⟨D,eD⟩:∃ D,decide (0<=C)=D:=⟨_,rfl⟩;have HF:=ae (fun h:D=true=>hF (eD.trans h));have HT:=ae (fun h:D=false=>hT (eD.trans h));go_wp2_with fail
 go_cut [23] (fun rv wc=>rv=.bool D/\Bw w wc)
 case first =>(
 refine bO (fun w'=>w'.cell? ⟨b,o+j*8,none⟩=some (.S zp zn zc)/\w'.cell? ⟨b,o+j*8+1,none⟩=some zV/\w'.cell? ⟨b,o+j*8+2,none⟩=some (.U zo)/\w'.cell? ⟨b,o+j*8+3,none⟩=some (.I zm)/\w'.cell? ⟨b,o+j*8+4,none⟩=some zH/\w'.cell? ⟨b,o+j*8+5,none⟩=some (.U ze)/\w'.cell? ⟨b,o+j*8+6,none⟩=some (.U zg)/\w'.cell? ⟨b,o+j*8+7,none⟩=some zU/\w'.cell? ⟨b,o+k*8,none⟩=some (.S yp yn yc)/\w'.cell? ⟨b,o+k*8+1,none⟩=some yV/\w'.cell? ⟨b,o+k*8+2,none⟩=some (.U yo)/\w'.cell? ⟨b,o+k*8+3,none⟩=some (.I ym)/\w'.cell? ⟨b,o+k*8+4,none⟩=some yH/\w'.cell? ⟨b,o+k*8+5,none⟩=some (.U ye)/\w'.cell? ⟨b,o+k*8+6,none⟩=some (.U yg)/\w'.cell? ⟨b,o+k*8+7,none⟩=some yU) (by exact K0) fun hS=>?_;refine gy 0 1 2 3 4 5 6 7 hS ?_;refine fe 8 9 hS ?_;refine ry [10] ?_;refine cn (fun KK hK=>?_) ?_;{refine oq bU 119 _ _ _ _ bU (JS (.S zp zn zc) zV zo zm zH ze zg zU) (JS (.S yp yn yc) yV yo ym yH ye yg yU) bU bU bU (fun _=>aa Ck _ _) (Sk zp yp zc yc zn yn UK.path UM.path ezn eyn zV yV zH yH zU yU zo yo zm ym ze ye zg yg _ (RZ.below aJ.drew) (RY.below aJ.drew)) ?_;rintro r w2 ⟨rfl,cX⟩;refine ⟨_,rfl,?_⟩;have cR:Bw wr w2:=ah (Below.refl wr.heap.size wr).drew cX;rw [aa EC];refine cg hK (by obtain ⟨k0,k1,k2,k3,k4,k5,k6,k7,k8,k9,k10,k11,k12,k13,k14,k15⟩:=aa K0;exact ⟨af k0 cR,af k1 cR,af k2 cR,af k3 cR,af k4 cR,af k5 cR,af k6 cR,af k7 cR,af k8 cR,af k9 cR,af k10 cR,af k11 cR,af k12 cR,af k13 cR,af k14 cR,af k15 cR⟩) fun hS=>?_;refine tn 11 hS ?_;refine bu ?_;go_wp2_with fail;go_meet;exact ⟨rfl,ah aR cR⟩};exact AllReadyH.nil)
 obtain ⟨rfl,oI⟩:=hcut;cases D with
 | true=>
  have eF:=aa HF rfl;subst eF;go_wp2;go_ret;exact ⟨rfl,oI⟩
 | false=>
  have zb:=aa HT rfl;go_wp2;go_roundw
  case rel=>exact ⟨k+1,ab,.inl ab,by go_num,zb,oI⟩
  exact dC};{
 have da:=dy k n;have eT:B=true:=by rw [<-aa eB,iG];exact Gu iJ ab
 subst eT;go_wp2;go_ret;exact ⟨rfl,aR⟩})
def jJ (w:World) (v:Value) (es:List Ev):Prop:=
 ∃ (p:Option Addr) (c:Nat),v=.S p es.length c/\(es=[]\/∃ b o,p=some ⟨b,o,none⟩/\∀ i e,es[i]?=some e->w.cell? ⟨b,o+i*2,none⟩=some (.I e.1)/\∃ u,w.cell? ⟨b,o+i*2+1,none⟩=some u/\Rd w u e.2/\iH u)
theorem jJ.rd {w:World} (h:jJ w v es):vO w v es:=by
 obtain ⟨p,c,rfl,h⟩:=h;refine ⟨p,c,rfl,?_⟩;rcases h with h | ⟨b,o,rfl,h⟩;{exact .inl h};{refine .inr ⟨b,o,rfl,fun i e he=>?_⟩;obtain ⟨h1,u,h2,h3,_⟩:=h i e he;exact ⟨h1,u,h2,h3⟩}
theorem jJ.below {w w':World} (h:jJ w v es) (hb:Bw w w'):jJ w' v es:=by
 obtain ⟨p,c,rfl,h⟩:=h;refine ⟨p,c,rfl,?_⟩;rcases h with h | ⟨b,o,rfl,h⟩;{exact .inl h};{refine .inr ⟨b,o,rfl,fun i e he=>?_⟩;obtain ⟨h1,u,h2,h3,h4⟩:=h i e he;exact ⟨af h1 hb,u,af h2 hb,h3.below hb,h4⟩}
def ic (w:World) (v:Value) (ss:List aY):Prop:=
 ∃ (p:Option Addr) (c:Nat),v=.S p ss.length c/\(ss=[]\/∃ b o,p=some ⟨b,o,none⟩/\∀ i s,ss[i]?=some s->w.cell? ⟨b,o+i*3,none⟩=some (.U s.1)/\w.cell? ⟨b,o+i*3+1,none⟩=some (.I s.2.1)/\∃ u,w.cell? ⟨b,o+i*3+2,none⟩=some u/\jJ w u s.2.2)
theorem ic.rd {w:World} (h:ic w v ss):RdS w v ss:=by
 obtain ⟨p,c,rfl,h⟩:=h;refine ⟨p,c,rfl,?_⟩;rcases h with h | ⟨b,o,rfl,h⟩;{exact .inl h};{refine .inr ⟨b,o,rfl,fun i e he=>?_⟩;obtain ⟨h1,h2,u,h3,h4⟩:=h i e he;exact ⟨h1,h2,u,h3,h4.rd⟩}
theorem ic.below {w w':World} (h:ic w v ss) (hb:Bw w w'):ic w' v ss:=by
 obtain ⟨p,c,rfl,h⟩:=h;refine ⟨p,c,rfl,?_⟩;rcases h with h | ⟨b,o,rfl,h⟩;{exact .inl h};{refine .inr ⟨b,o,rfl,fun i e he=>?_⟩;obtain ⟨h1,h2,u,h3,h4⟩:=h i e he;exact ⟨af h1 hb,af h2 hb,u,af h3 hb,h4.below hb⟩}
def ML (w:World):Prop:=∃ m,w.cell? ⟨2,0,none⟩=some (.I m)
theorem ML.below {w w':World} (h:ML w) (hb:Bw w w'):ML w':=by
 obtain ⟨m,h⟩:=h;exact ⟨m,af h hb⟩
theorem iH.of {p:Option Addr} {n c:Nat} (h:iH (.S p n c)):n<=c/\c<=maxLen:=by
 obtain ⟨p',n',c',e,h1,h2⟩:=h;simp only [Value.slice.injEq] at e;obtain ⟨rfl,rfl,rfl⟩:=e;exact ⟨h1,h2⟩
theorem Cp (K:Int) (pp:Option Addr) (pc m i:Nat) (P:List Int) (em:Hid (P.length=m)) (w:World) (hR:Rd w (.S pp m pc) P) (hB:Hid (bM P)) (hm:m<=1048576) (qP:iH (.S pp m pc)) (Aa:ML w) (B:Bool) (eB:Hid (iy i (K,P)=B)) :
  Calls prog 156 #[.agg #[.I K,.S pp m pc],.I i] w fun r w'=>r=.returned (.bool B)/\Bw w w':=by
 obtain ⟨kH,jF⟩:=qP.of;have b1:Bw w (w.alloc (.cells #[.I K,.S pp m pc] 49)):=aJ.alloc aA _;have HR:=ae (hR.below b1);have HM:=ae (Aa.below b1);by_cases h7:i=7;{
 subst h7;by_cases h4:K=4;{
 subst h4;by_cases xu:m=0;{
 subst xu;have eT:B=true:=by rw [<-aa eB,iy,if_pos rfl];simp [aa em]
 subst eT;go_enter func156,ntmps156;go_wp2;go_ret;exact ⟨rfl,b1⟩};{
 have ab8:((m:Int)==0)=false:=by simp;omega
 have eT:B=false:=by rw [<-aa eB,iy,if_pos rfl];simp [aa em,xu]
 subst eT;go_enter func156,ntmps156;go_wp2;go_ret;exact ⟨rfl,b1⟩}};{
 have h4d:(K==4)=false:=by simp [h4]
 have eT:B=false:=by rw [<-aa eB,iy,if_pos rfl];simp [h4]
 subst eT;go_enter func156,ntmps156;go_wp2;go_ret;exact ⟨rfl,b1⟩}};{
 have h7d:((i:Int)==7)=false:=by simp;omega
 by_cases h1:1<=K;{
 by_cases h3:K<=3;{
 have eV:Hid (vp P=B):=by show _=_;rw [<-aa eB,iy,if_neg h7];simp [h1,h3]
 go_enter func156,ntmps156;go_wp2_with fail;refine (Fx pp pc m P em _ HR hB hm kH jF HM B eV).mono ?_;rintro r w2 ⟨rfl,cX⟩;have b2:=ah b1 cX;go_wp2;go_ret;exact ⟨rfl,b2⟩};{
 have eT:B=false:=by rw [<-aa eB,iy,if_neg h7];simp [h3]
 subst eT;go_enter func156,ntmps156;go_wp2;go_ret;exact ⟨rfl,b1⟩}};{
 have eT:B=false:=by rw [<-aa eB,iy,if_neg h7];simp [h1]
 subst eT;go_enter func156,ntmps156;go_wp2;go_ret;exact ⟨rfl,b1⟩}}
def DI (nx:Int) (s:aY):Bool:=decide (1<=s.1)&&(decide (s.1<=nx)&&(decide (0<=s.2.1)&&(decide (s.2.1<=1000015)&&fy s.2.2)))
theorem AD (I D x:Int) (p:Option Addr) (c n:Nat) (Q:List Ev) (en:Hid (Q.length=n)) (w:World) (h:jJ w (.S p n c) Q) (hn:n<=1048576) (fI:Hid (∀ e∈Q,bM e.2/\e.2.length<=1048576)) (Aa:ML w) (B:Bool) (eB:Hid (DI x (I,D,Q)=B)) :
  Calls prog 113 #[.agg #[.U I,.I D,.S p n c],.U x] w fun r w'=>r=.returned (.bool B)/\Bw w w':=by
 have HR:=ae fun (w':World) (hb:Bw w w')=>ag (h.below hb) (Aa.below hb);have b1:Bw w (w.alloc (.cells #[.U I,.I D,.S p n c] 35)):=aJ.alloc aA _;have hB:B=(decide (1<=I)&&(decide (I<=x)&&(decide (0<=D)&&(decide (D<=1000015)&&(decide (n<=8)&&(List.range n).all fun i=>iy i (Q.getD i (0,[]))))))):=by rw [<-aa eB,DI,fy,aa en]
 have HB:=ae hB;clear h Aa hB eB;by_cases h1:I<1;{
 have eF:B=false:=by rw [aa HB];simp;omega
 subst eF;clear HB;go_enter func113,ntmps113;go_wp2;go_ret;exact ⟨rfl,b1⟩};{
 by_cases h2:x<I;{
 have eF:B=false:=by rw [aa HB];simp;omega
 subst eF;clear HB;go_enter func113,ntmps113;go_wp2;go_ret;exact ⟨rfl,b1⟩};{
 by_cases h3:D<0;{
 have eF:B=false:=by rw [aa HB];simp;omega
 subst eF;clear HB;go_enter func113,ntmps113;go_wp2;go_ret;exact ⟨rfl,b1⟩};{
 by_cases h4:1000015<D;{
 have eF:B=false:=by rw [aa HB];simp;omega
 subst eF;clear HB;go_enter func113,ntmps113;go_wp2;go_ret;exact ⟨rfl,b1⟩};{
 by_cases h8:(8:Int)<(n:Int);{
 have eF:B=false:=by rw [aa HB];simp;omega
 subst eF;clear HB;go_enter func113,ntmps113;go_wp2;go_ret;exact ⟨rfl,b1⟩};{
 have qv:Hid (B=(List.range n).all fun i=>iy i (Q.getD i (0,[]))):=by show _=_;rw [aa HB];simp only [show decide (1<=I)=true by (rw [decide_eq_true_iff];omega),show decide (I<=x)=true by (rw [decide_eq_true_iff];omega),show decide (0<=D)=true by (rw [decide_eq_true_iff];omega),show decide (D<=1000015)=true by (rw [decide_eq_true_iff];omega),show decide (n<=8)=true by (rw [decide_eq_true_iff];omega),Bool.true_and]
 clear HB;go_enter func113,ntmps113;go_wp2_with fail;clear h1 h2 h3 h4 h8;obtain ⟨W,hW⟩:=ax (w.alloc (.cells #[.U I,.I D,.S p n c] 35));rw [<-hW] at b1 ⊢;clear hW
 go_loopw [35] (fun iv wr=>∃ k:Nat,k<=n/\iv=.I k/\Hid ((List.range k).all (fun i=>iy i (Q.getD i (0,[])))=true)/\Bw w wr) (fun iv _=>n-(intOf iv).toNat)
 case atStart=>exact ⟨0,Nat.zero_le _,rfl,cw,b1⟩
 case round =>(
 obtain ⟨k,hk,rfl,iJ,aR⟩:=hrel;by_cases bj:k<n;{
 have da:=aT k n;have fL:k<Q.length:=by rw [aa en];exact bj
 obtain ⟨⟨K,P⟩,hy⟩:∃ y,Q[k]?=some y:=⟨_,aK fL⟩;have Cc:Q.getD k (0,[])=(K,P):=by rw [List.getD_eq_getElem?_getD,hy];rfl
 obtain ⟨b,o,rfl,hcK,u,Wk,Hk,qP⟩:∃ b o,p=some ⟨b,o,none⟩/\wr.cell? ⟨b,o+k*2,none⟩=some (.I K)/\∃ u,wr.cell? ⟨b,o+k*2+1,none⟩=some u/\Rd wr u P/\iH u:=by obtain ⟨p',c',ev,hd⟩:=(aa HR _ aR).1;simp only [Value.slice.injEq] at ev;obtain ⟨rfl,-,-⟩:=ev;rcases hd with h0 | ⟨b,o,h1,h2⟩;{rw [h0] at fL;simp at fL};{exact ⟨b,o,h1,h2 k _ hy⟩}
 obtain ⟨TM,hPl⟩:=aa fI _ (aF hy);obtain ⟨pp,pc,m,rfl,em⟩:=Hk.gD;have hm:m<=1048576:=by rw [<-aa em];exact hPl
 have Kg:Hid (bM P):=TM;obtain ⟨V,eV⟩:=aH (iy k (K,P));have EV:=ae eV;have hF:V=false->B=false:=fun h=>by rw [aa qv];exact dK bj (by rw [Cc,eV];exact h)
 have hT:V=true->Hid ((List.range (k+1)).all (fun i=>iy i (Q.getD i (0,[])))=true):=fun h=>cM (aa iJ) (by rw [Cc,eV];exact h);have HF:=ae hF;have HT:=ae hT;have b2:Bw wr ((wr.alloc (.cells #[.I K,.S pp m pc] 49))):=aJ.alloc aA _;have XK:=ae (Hk.below b2);have HML:=ae ((aa HR _ aR).2.below b2);have bd7:=ae qP;clear fL hy Cc TM hPl Hk eV hF hT qP;go_wp2_with fail;refine (Cp K pp pc m k P em _ (by exact XK) Kg hm bd7 (by exact HML) V EV).mono ?_;rintro r w2 ⟨rfl,cX⟩;have b3:=ah aR (ah b2 cX);clear cX b2;cases V with
 | false=>
  have eF:=aa HF rfl;subst eF;go_wp2;go_ret;exact ⟨rfl,b3⟩
 | true=>
  have zb:=aa HT rfl;go_wp2;go_roundw
  case rel=>exact ⟨k+1,ab,by go_num,zb,b3⟩
  exact dC};{
 have da:=dy k n;have eT:B=true:=by
  rw [aa qv];have:k=n:=by omega
  rw [<-this];exact iJ
 subst eT;go_wp2;go_ret;exact ⟨rfl,aR⟩})}}}}}
end Go.Proofs.YtcfcafeciggjeaaGreatDoor
