import Derived.Test.YtcfcafeciggjeaaGreatDoorASb
namespace Go.Proofs.YtcfcafeciggjeaaGreatDoor
set_option maxHeartbeats 6400000
set_option linter.all false
set_option maxRecDepth 100000
open Go.ChangeShapes Go.WideShapes Go.ChangeAt Go.RowKit Go.Proofs.Tryz
variable {B k s:Nat} {l:List Int} {nd:aD} {ns:List aD} {v:Value}
def kI (ns:List aD) (P:List Int) (S E G:Int):Int:=match fE ns P with
 | none=>0
 | some nd=>if nd.mode=1/\nd.holders.headD 0=S/\nd.aB=E/\nd.gen=G then 1 else 0
theorem Jy (e g x t:Int) (p:Option Addr) (n c:Nat) (q:Option Addr) (m d:Nat) (ns:List aD) (em:Hid (ns.length=m)) (K S F E G:Int) (pp:Option Addr) (np cp:Nat) (vp:Option Addr) (nv cv:Nat) (P:List Int) (eP:Hid (P.length=np)) (B:Nat) (w:World) (hN:Hid (SpN B w (.S q m d) ns)) (hP:Hid (Rd w (.S pp np cp) P)) (hm:m<=1048576) (hp:np<=2097152) (fI:Hid (bM P/\∀ nd∈ns,bM nd.path)) (hex:Hid (∀ nd∈ns,nd.mode=1->nd.holders≠[])) (C:Int) (eC:Hid (kI ns P S E G=C)) :
  Calls prog 107 #[cY e g x t (.S p n c) (.S q m d),lW K S (.S pp np cp) F (.S vp nv cv) E G] w fun r w'=>r=.returned (gP 0 0 0 0 C ao ao ao)/\Bw w w':=by
 obtain ⟨W0,dh,b0,z0,C0⟩:=ft w (.U e) (.U g) (.U x) (.I t) (.S p n c) (.S q m d);obtain ⟨W1,iM,b1,z1,C1,-⟩:=aj W0 #[.I K,.U S,.S pp np cp,.I F,.S vp nv cv,.U E,.U G] 29;obtain ⟨W2,iL,b2,z2,C2⟩:=xl W1 (.I 0) (.U 0) (.U 0) (.U 0) (.I 0) ao ao ao;rw [z0] at C1 z1;rw [z1] at C2 z2;have HC:=ae (ag ((C0.below b1).below b2) (ag (C1.below ab b2) C2));have bW:=ae (ah (ah b0 b1) b2);have HN:=ae (hN.fr (al bW));have HP:=ae (hP.below bW);clear b0 b1 b2 C0 C1 C2;go_enter func107,ntmps107;go_wp2_with fail;rw [<-dh,<-iM,<-iL];clear dh iM iL;refine (mO e g x t q pp d m cp np (.S p n c) ns P em eP W2 (bS.Td HN) HP hm hp fI).mono ?_;rintro r w1 ⟨hr,bq⟩;have vo:=bq.size;have nS:=ae (ag (HC.1.below bq) (ag (HC.2.1.below ab bq) (HC.2.2.below bq)));have jN:=ae (ah bW bq);have Il:=ae (bS.fr HN (al bq));clear HC HN HP bW bq;rcases hr with ⟨k,nd,rfl,hkm,hk,ac3⟩ | ⟨rfl,jS⟩;{
 have yC:=ae ac3;have Rb:=aT k m;have GI:¬ ((k:Int)<0):=ab;obtain ⟨gn,Pv,Vv,Hv,Uv,rfl,-,-,c0,c1,c2,c3,c4,c5,c6,c7,tP,tV,tH,tU,-⟩:=bS.at Il hk;obtain ⟨pP,cP,rfl⟩:=tP.gD;obtain ⟨pV,cV,rfl⟩:=tV.gD;obtain ⟨pH,cH,rfl⟩:=tH.gD;obtain ⟨pU,cU,rfl⟩:=tU.gD;have aN7:=ae (aa hex nd (aF hk));obtain ⟨nP,hnP⟩:=ax nd.path.length;obtain ⟨nV,hnV⟩:=ax nd.value.length;obtain ⟨nU,hnU⟩:=ax nd.watchers.length;obtain ⟨nh,eH⟩:=aL nd.holders.length;rw [<-hnP] at c0;rw [<-hnV] at c1;rw [<-hnU] at c7;rw [aa eH] at tH c4;clear hnP hnV hnU tP tV tU hk ac3;obtain ⟨ow,Tm⟩:=aL nd.owner;obtain ⟨mo,Hm⟩:=aL nd.mode;obtain ⟨ep,Yf⟩:=aL nd.aB;obtain ⟨ge,Tt⟩:=aL nd.gen;rw [aa Tm] at c2;rw [aa Hm] at c3;rw [aa Yf] at c5;rw [aa Tt] at c6;obtain ⟨k0,k1,k2,k3,k4,k5,kf⟩:=nS.1.cells;obtain ⟨W3,kn,b3,z3,C3,-⟩:=aj w1 #[.S pP nP cP,.S pV nV cV,.U ow,.I mo,.S pH nh cH,.U ep,.U ge,.S pU nU cU] 38;have Po:=fun ob:Obj=>(Below.refl w1.heap.size w1).alloc aA ob;have m0:=fun ob:Obj=>af c0 (Po ob);have m1:=fun ob:Obj=>af c1 (Po ob);have m2:=fun ob:Obj=>af c2 (Po ob);have m3:=fun ob:Obj=>af c3 (Po ob);have m4:=fun ob:Obj=>af c4 (Po ob);have m5:=fun ob:Obj=>af c5 (Po ob);have m6:=fun ob:Obj=>af c6 (Po ob);have m7:=fun ob:Obj=>af c7 (Po ob);have k5':=fun ob:Obj=>af k5 (Po ob);have SQ:=ae (ag (nS.2.1.below ab b3) (ag (nS.2.2.below b3) C3));have B3:=ae (ah jN b3);have T3:=ae (tH.fr (al b3));clear b3 C3 Po tH;go_wp2_with fail;rw [<-kn];clear kn m0 m1 m2 m3 m4 m5 m6 m7 k5' c0 c1 c2 c3 c4 c5 c6 c7 k0 k1 k2 k3 k4 k5 kf;obtain ⟨vA,aX⟩:=ax W3.drew;have cI:=dG aX;have zA:=cI.size;have HA:=ae (ag (SQ.1.below ab cI) (SQ.2.2.below ab cI));have RA:=ae (SQ.2.1.below cI);have BA:=ae (ah B3 cI);have TA:=ae (T3.fr (al cI));refine wp_region_noPanic ?_;by_cases sj:mo=1;{
 obtain ⟨hd,tl,Sa⟩:=List.exists_cons_of_ne_nil (aa aN7 (Hm.trans sj));have Yd:=ae (by rw [Sa];rfl:nd.holders.headD 0=hd);obtain ⟨bh,oh,rfl,ch⟩:=TA.1.at (k:=0) (x:=hd) (by rw [Sa];rfl);rw [Nat.add_zero] at ch;have hnh:0<nh:=by rw [<-aa eH,Sa];simp
 have aK5:=ja 0 nh;clear Sa;refine wp_region_held_drew (S:=fun w'=>w'.cell? ⟨w1.heap.size,3,none⟩=some (.I mo)/\w'.cell? ⟨w1.heap.size,4,none⟩=some (.S (some ⟨bh,oh,none⟩) nh cH)/\w'.cell? ⟨w1.heap.size,5,none⟩=some (.U ep)/\w'.cell? ⟨w1.heap.size,6,none⟩=some (.U ge)/\w'.cell? ⟨w.heap.size+1,1,none⟩=some (.U S)/\w'.cell? ⟨w.heap.size+1,5,none⟩=some (.U E)/\w'.cell? ⟨w.heap.size+1,6,none⟩=some (.U G)/\w'.cell? ⟨bh,oh,none⟩=some (.U hd)) cW (by rw [<-aX];exact ⟨HA.2.1 3 _ rfl,HA.2.1 4 _ rfl,HA.2.1 5 _ rfl,HA.2.1 6 _ rfl,HA.1.1 1 _ rfl,HA.1.1 5 _ rfl,HA.1.1 6 _ rfl,ch⟩) (fun hS=>?_);rw [<-aX] at hS ⊢;clear aX cI ch;have Ml:(mo==1)=true:=by simp [sj]
 by_cases hx:hd=S;{
 have LO:(hd==S)=true:=by simp [hx]
 by_cases he:ep=E;{
 have Tv:(ep==E)=true:=by simp [he]
 by_cases hg:ge=G;{
 have sy:(ge==G)=true:=by simp [hg]
 refine gy 0 1 2 3 4 5 6 7 hS ?_;refine gy 8 9 10 11 12 13 14 15 hS ?_;refine gy 16 17 18 19 20 21 22 23 hS ?_;refine fe 24 25 hS ?_;refine bu ?_;clear hS;obtain ⟨r0,r1,r2,r3,r4,r5,r6,r7,rf⟩:=RA.cells;go_wp2;refine bodyPost_ret (v:=gP 0 0 0 0 1 ao ao ao) (by simp [results,results107,go_sem,r0,r1,r2,r3,r4,r5,r6,r7]) rfl ⟨?_,BA.trans ((aO vA (w.heap.size+1+1) (.I 0) (.U 0) (.U 0) (.U 0) (.I 1) ao ao ao).mono ab)⟩;rw [<-aa eC];simp only [kI,aa yC];rw [if_pos ⟨Hm.trans sj,by rw [aa Yd];first | rfl | exact hx,by rw [aa Yf];first | rfl | exact he,by rw [aa Tt];first | rfl | exact hg⟩]};{
 have sy:(ge==G)=false:=by simp [hg]
 refine gy 0 1 2 3 4 5 6 7 hS ?_;refine gy 8 9 10 11 12 13 14 15 hS ?_;refine gy 16 17 18 19 20 21 22 23 hS ?_;refine fe 24 25 hS ?_;refine bu ?_;clear hS;obtain ⟨r0,r1,r2,r3,r4,r5,r6,r7,rf⟩:=RA.cells;go_wp2;refine bodyPost_ret (v:=gP 0 0 0 0 0 ao ao ao) (by simp [results,results107,go_sem,r0,r1,r2,r3,r4,r5,r6,r7]) rfl ⟨?_,BA.trans ((aO vA (w.heap.size+1+1) (.I 0) (.U 0) (.U 0) (.U 0) (.I 0) ao ao ao).mono ab)⟩;rw [<-aa eC];simp only [kI,aa yC];rw [if_neg (by rw [aa Yd,aa Yf,aa Tt];have:=aa Hm;simp_all)]}};{
 have Tv:(ep==E)=false:=by simp [he]
 refine gy 0 1 2 3 4 5 6 7 hS ?_;refine gy 8 9 10 11 12 13 14 15 hS ?_;refine gC 16 17 18 19 hS ?_;refine iI 20 21 22 23 hS ?_;refine sn 24 hS ?_;refine tn 25 hS ?_;refine bu ?_;clear hS;obtain ⟨r0,r1,r2,r3,r4,r5,r6,r7,rf⟩:=RA.cells;go_wp2;refine bodyPost_ret (v:=gP 0 0 0 0 0 ao ao ao) (by simp [results,results107,go_sem,r0,r1,r2,r3,r4,r5,r6,r7]) rfl ⟨?_,BA.trans ((aO vA (w.heap.size+1+1) (.I 0) (.U 0) (.U 0) (.U 0) (.I 0) ao ao ao).mono ab)⟩;rw [<-aa eC];simp only [kI,aa yC];rw [if_neg (by rw [aa Yd,aa Yf,aa Tt];have:=aa Hm;simp_all)]}};{
 have LO:(hd==S)=false:=by simp [hx]
 refine gy 0 1 2 3 4 5 6 7 hS ?_;refine gC 8 9 10 11 hS ?_;refine tn 12 hS ?_;refine iI 13 14 15 16 hS ?_;refine sn 17 hS ?_;refine fe 18 19 hS ?_;refine iI 20 21 22 23 hS ?_;refine sn 24 hS ?_;refine tn 25 hS ?_;refine bu ?_;clear hS;obtain ⟨r0,r1,r2,r3,r4,r5,r6,r7,rf⟩:=RA.cells;go_wp2;refine bodyPost_ret (v:=gP 0 0 0 0 0 ao ao ao) (by simp [results,results107,go_sem,r0,r1,r2,r3,r4,r5,r6,r7]) rfl ⟨?_,BA.trans ((aO vA (w.heap.size+1+1) (.I 0) (.U 0) (.U 0) (.U 0) (.I 0) ao ao ao).mono ab)⟩;rw [<-aa eC];simp only [kI,aa yC];rw [if_neg (by rw [aa Yd,aa Yf,aa Tt];have:=aa Hm;simp_all)]}};{
 have Ml:(mo==1)=false:=by simp [sj]
 obtain ⟨hd,Yd⟩:=aL (nd.holders.headD 0);refine wp_region_held_drew (S:=fun w'=>w'.cell? ⟨w1.heap.size,3,none⟩=some (.I mo)/\w'.cell? ⟨w1.heap.size,4,none⟩=some (.S pH nh cH)/\w'.cell? ⟨w1.heap.size,5,none⟩=some (.U ep)/\w'.cell? ⟨w1.heap.size,6,none⟩=some (.U ge)/\w'.cell? ⟨w.heap.size+1,1,none⟩=some (.U S)/\w'.cell? ⟨w.heap.size+1,5,none⟩=some (.U E)/\w'.cell? ⟨w.heap.size+1,6,none⟩=some (.U G)) cW (by rw [<-aX];exact ⟨HA.2.1 3 _ rfl,HA.2.1 4 _ rfl,HA.2.1 5 _ rfl,HA.2.1 6 _ rfl,HA.1.1 1 _ rfl,HA.1.1 5 _ rfl,HA.1.1 6 _ rfl⟩) (fun hS=>?_);rw [<-aX] at hS ⊢;clear aX cI;refine gC 0 1 2 3 hS ?_;refine iI 4 5 6 7 hS ?_;refine sn 8 hS ?_;refine sn 9 hS ?_;refine sn 10 hS ?_;refine fe 11 12 hS ?_;refine iI 13 14 15 16 hS ?_;refine sn 17 hS ?_;refine fe 18 19 hS ?_;refine iI 20 21 22 23 hS ?_;refine sn 24 hS ?_;refine tn 25 hS ?_;refine bu ?_;clear hS;obtain ⟨r0,r1,r2,r3,r4,r5,r6,r7,rf⟩:=RA.cells;go_wp2;refine bodyPost_ret (v:=gP 0 0 0 0 0 ao ao ao) (by simp [results,results107,go_sem,r0,r1,r2,r3,r4,r5,r6,r7]) rfl ⟨?_,BA.trans ((aO vA (w.heap.size+1+1) (.I 0) (.U 0) (.U 0) (.U 0) (.I 0) ao ao ao).mono ab)⟩;rw [<-aa eC];simp only [kI,aa yC];rw [if_neg (by rw [aa Yd,aa Yf,aa Tt];have:=aa Hm;simp_all)]}};{have nw:((-1:Int)<0):=ab;obtain ⟨r0,r1,r2,r3,r4,r5,r6,r7,rf⟩:=nS.2.2.cells;have hn:=ae jS;clear jS;go_wp2;refine bodyPost_ret (v:=gP 0 0 0 0 0 ao ao ao) (by simp [results,results107,go_sem,r0,r1,r2,r3,r4,r5,r6,r7]) rfl ⟨?_,jN.trans ((aO w1 (w.heap.size+1+1) (.I 0) (.U 0) (.U 0) (.U 0) (.I 0) ao ao ao).mono ab)⟩;rw [<-aa eC];simp only [kI,aa hn]}
def lG (l:List Int):List Int:=l.drop (Cb l l.length+1)
theorem Vp (hs:s<l.length) (kL:l.getD s 0=47) (h:∀ y∈l.drop (s+1),nK y=true):Cb l l.length=s:=by
 have key:∀ j,s+1+j<=l.length->Cb l (s+1+j)=s:=by
  intro j
  induction j with
  | zero=>intro _;rw [Nat.add_zero,te,if_pos kL]
  | succ j ih=>
   intro hj;have hm:nK (l.getD (s+1+j) 0)=true:=h _ (by rw [List.getD_eq_getElem?_getD,aK ab,Option.getD_some];refine List.mem_iff_getElem.2 ⟨j,dx,aU⟩)
   rw [<-Nat.add_assoc,te,if_neg (Lq hm),ih ab]
 have:=key (l.length-s-1) ab;rwa [show s+1+(l.length-s-1)=l.length by omega] at this
theorem QF (hs:s<l.length) (kL:l.getD s 0=47) (h:∀ y∈l.drop (s+1),nK y=true):lG l=l.drop (s+1):=by rw [lG,Vp hs kL h]
def gJ (ns:List aD) (P:List Int):List (List Int):=(ns.filter fun nd=>decide (dm nd.path=P)).map fun nd=>lG nd.path
theorem IP {P:List Int} (h:ns[k]?=some nd):gJ (ns.take (k+1)) P=if dm nd.path=P then gJ (ns.take k) P++[lG nd.path] else gJ (ns.take k) P:=by
 rw [List.take_add_one,h,gJ,List.filter_append,List.map_append];by_cases e:dm nd.path=P<;>simp [gJ,e]
theorem Dp (ns:List aD) (P:List Int):(gJ ns P).length<=ns.length:=by
 rw [gJ,List.length_map];exact List.length_filter_le _ _
def Ti (l m:List Int):Bool:=!Op.bytesLess (aC m).toList (aC l).toList&&!(aC m).toList==(aC l).toList
def jq (nd:aD):List aD->List aD
 | []=>[nd]
 | x::r=>if Ti nd.path x.path=true then nd::x::r else x::jq nd r
def nF (nd:aD) (s:List aD × Bool) (x:aD):List aD × Bool:=if s.2=false/\Ti nd.path x.path=true then (s.1++[nd]++[x],true) else (s.1++[x],s.2)
def yw (ns:List aD) (nd:aD):List aD × Bool:=ns.foldl (nF nd) ([],false)
theorem GD (nd:aD):∀ (l acc:List aD),l.foldl (nF nd) (acc,true)=(acc++l,true)
 | [],acc=>aU
 | x::r,acc=>by rw [List.foldl_cons,show nF nd (acc,true) x=(acc++[x],true) by simp [nF],GD nd r];simp
theorem QS (ns:List aD) (nd:aD):(if (yw ns nd).2 then (yw ns nd).1 else (yw ns nd).1++[nd])=jq nd ns:=by
 have key:∀ (l acc:List aD),(if (l.foldl (nF nd) (acc,false)).2 then (l.foldl (nF nd) (acc,false)).1 else (l.foldl (nF nd) (acc,false)).1++[nd])=acc++jq nd l:=by
  intro l
  induction l with
  | nil=>intro acc;simp [jq]
  | cons x r ih=>
   intro acc;rw [List.foldl_cons,jq];by_cases h:Ti nd.path x.path=true;{rw [show nF nd (acc,false) x=(acc++[nd]++[x],true) by simp [nF,h],GD,if_pos h];simp};{rw [show nF nd (acc,false) x=(acc++[x],false) by simp [nF,h],ih,if_neg h];simp}
 have:=key ns [];rwa [List.nil_append] at this
theorem IS {x:aD} (hx:ns[k]?=some x):yw (ns.take (k+1)) nd=nF nd (yw (ns.take k) nd) x:=by
 rw [List.take_add_one,hx,yw,List.foldl_append]
 rfl
theorem LI (nd:aD) (s:List aD × Bool) (x:aD):(nF nd s x).1.length<=s.1.length+2:=by
 unfold nF;split<;>simp
theorem Dx (nd:aD):∀ (l:List aD) (s:List aD × Bool),(l.foldl (nF nd) s).1.length<=s.1.length+2*l.length
 | [],s=>aU
 | x::r,s=>by have:=Dx nd r (nF nd s x);have:=LI nd s x;rw [List.foldl_cons,List.length_cons];omega
theorem xi (nd:aD):∀ l:List aD,(jq nd l).length=l.length+1
 | []=>rfl
 | x::r=>by rw [jq];split;{simp};{simp [xi nd r]}
def gj (P V:List Int) (o:Int):aD:=⟨P,V,o,0,[],0,0,[]⟩
def fG (D:SD) (P V:List Int) (S F:Int):SD × RP:=
 if (fE D.ns P).isSome then (D,sV 6) else if dw D.ns (dm P)=false then (D,sV 7) else if 200<=D.ns.length then (D,sV 11)
 else ({ D with ns:=jq (gj P V (if F=1 then S else 0)) D.ns },Jv)
def gI (D:SD) (k:Nat) (K S F:Int) (V:List Int):SD × RP:=match D.ns[k]? with
 | none=>(D,Jv)
 | some nd=>
  if K=5 then (if gJ D.ns nd.path≠[] then (D,sV 8) else if jH nd S=false then (D,sV 9) else (AH (cO D k 2) k,Jv))
  else if K=6 then (D,⟨0,nd.owner,nd.aB,nd.gen,nd.mode,nd.value,[],[]⟩)
  else if K=7 then (if nd.mode=1/\nd.holders.headD 0≠S then (D,sV 9) else (cO { D with ns:=D.ns.set k { nd with value:=V } } k 1,Jv))
  else if K=8 then iC D k S F
  else if K=9 then (if nd.holders.contains S then (cT D k S,Jv) else (D,sV 10))
  else ({ D with ns:=D.ns.set k { nd with watchers:=ig nd.watchers S } },Jv)
theorem pR.last {w:World} {p:Option Addr} {j c:Nat} {vs:List Value} (h:pR B w (.S p (j+1) c) (j+1) vs) (hv:vs.getLast?=some v):∃ g,p=some ⟨g,0,none⟩/\w.cell? ⟨g,j,none⟩=some v/\j<maxLen:=by
 have hl:=h.1;rcases h.2 with ⟨-,h0⟩ | ⟨g,cap,cur,e,-,-,ha,hb,-⟩;{omega};{simp only [Value.slice.injEq] at e;obtain ⟨rfl,-,rfl⟩:=e;refine ⟨g,rfl,?_,ab⟩;have h':w.ownsRow B 22 1 (.S (some ⟨g,0,none⟩) (j+1) c) (j+1) vs:=h;rw [World.ownsRow.cellAt h' j ab,<-hv,List.getLast?_eq_getElem?,hl];simp}
theorem Fq (p:Option Addr) (c n:Nat) (l:List Int) (en:Hid (l.length=n)) (w:World) (h:Rd w (.S p n c) l) (hb:bM l) (hl:n<=1048576) (hv:Hid (vp l=true)) :
  Calls prog 151 #[.S p n c] w fun r w'=>∃ q m d,r=.returned (.S q m d)/\Hid ((lG l).length=m)/\m<=n/\Own w.heap.size w' (.S q m d) (lG l)/\Bw w w':=by
 go_enter func151,ntmps151;go_wp2_with fail;refine (rT p c n l en w h hb hl true hv).mono ?_;rintro r w1 ⟨hT,-,bq⟩;obtain ⟨pv,k,cv,vs,rfl,ho,hk,s,v,ZS,hs,kL,qL,hov⟩:=hT rfl;obtain ⟨j,rfl⟩:∃ j,k=j+1:=⟨k-1,ab⟩;obtain ⟨g,rfl,hc,VW⟩:=ho.last ZS;have hj:j<9223372036854775807:=by unfold maxLen at VW;omega
 have wj:wrap64 (j:Int)=(j:Int):=IntWalk.wrap64_in _ ab;rw [<-QF hs kL qL] at hov;obtain ⟨q,d,rfl⟩:=hov.form;have HO:=ae hov;have e1:(lG l).length<=n:=by rw [lG,List.length_drop,aa en];omega
 obtain ⟨m,em⟩:=aL (lG l).length;rw [aa em] at hc HO e1;have hi:((j+1:Nat):Int)-1=(j:Int):=ab;have hi2:(j:Int)<((j+1:Nat):Int):=ab;go_wp2;go_ret;exact ⟨_,_,_,rfl,em,e1,HO,bq⟩
theorem td {w:World} {ops:Array Oper} {rest:List Oper} {o:Oper} {a:Act} {Q:Exit->Act->World->Prop} (jK:o.guard=none) (s x:Operand)
  (ho:o.op=.call { callee:=.builtin .append,args:=#[s,x],argTypes:=#[39,39] })
  (B:Nat) (v:Value) (ls:List (List Int)) (l:List Int) (k:Nat) (ek:Hid (ls.length=k)) (hs:a.eval s=v) (br:TN B w v ls) (g:Nat) (P:Value) (hx:a.eval x=.S (some ⟨g,0,none⟩) 1 1) (pL:TB w P l) (eh:w.cell? ⟨g,0,none⟩=some P)
  (hk:k<4194304) (hB:B<=w.heap.size)
  (h:∀ p' c' w',TN B w' (.S p' (k+1) c') (ls++[l])->w.grownBy w' v.ownBlock->Fr [22] w w'->wpList prog ops Q rest (a.put o.dst (.S p' (k+1) c')) w'):wpList prog ops Q (o::rest) a w:=by
 obtain ⟨i,hi,mw,iT,jW⟩:=info_parts Tryz.infoSl;have ht:=br.nJ;obtain ⟨rs,h1,h2,h3,h4⟩:=br;have Md:P.oneCell'=true:=by
  obtain ⟨_,_,rfl⟩:=pL.gD
  rfl
 rw [aa ek] at h3;refine e8 jK s x 39 ho B 22 i _ 1 24 underlying39 hi mw iT jW rfl bl v _ _ hs h3 g 1 1 [P] hx rfl (fun j u hu=>by
  have e:j=0:=by have:=(aN.1 hu).1;simpa using this
  subst e;simp at hu;subst hu;exact eh) (fun u hu=>by simp at hu;rw [hu];exact Md) jC ab hB ?_
 intro v' w' dW hg _;have hf:Fr [22] w w':=Fr.grown hg fun b hb=>by obtain ⟨cur,hc⟩:=ht b hb;exact ⟨cur,_,hc,aU⟩
 have sn:TN B w' v' (ls++[l]):=RT.snoc h1 h2 h4 (fun y c hy=>by obtain ⟨P',e,h5⟩:=hy;exact ⟨P',e,h5.fr hf⟩) ⟨P,rfl,pL⟩ rfl (by rw [aa ek];exact dW);obtain ⟨p',c',rfl,-⟩:=RT.form sn;rw [List.length_append,aa ek] at sn ⊢;exact h p' c' w' sn hg hf
theorem TN.fr {T:List TypeId} {w w':World} {ls:List (List Int)} (h:TN B w v ls) (hf:Fr T w w') (ht:5∉T/\22∉T:=by decide):TN B w' v ls:=
 RT.fr h hf ht.2 (fun y c hy=>by obtain ⟨P',e,h5⟩:=hy;exact ⟨P',e,h5.fr hf ht.1⟩)
def PPB (ns:List aD):Prop:=∀ nd∈ns,vp nd.path=true/\bM nd.path/\nd.path.length<=1048576
theorem sJ (e g x t:Int) (p:Option Addr) (n c:Nat) (q:Option Addr) (m d:Nat) (ns:List aD) (em:Hid (ns.length=m)) (pp:Option Addr) (np cp:Nat) (P:List Int) (eP:Hid (P.length=np)) (B:Nat) (w:World) (hN:Hid (SpN B w (.S q m d) ns)) (hP:Hid (Rd w (.S pp np cp) P)) (bP:bM P) (Ww:Hid (PPB ns)) (hm:m<=1048576) (L:List (List Int)) (eL:Hid (gJ ns P=L)) :
  Calls prog 109 #[cY e g x t (.S p n c) (.S q m d),.S pp np cp] w fun r w'=>∃ p' c',r=.returned (.S p' L.length c')/\TN w.heap.size w' (.S p' L.length c') L/\Bw w w':=by
 obtain ⟨W0,dh,b0,z0,C0⟩:=ft w (.U e) (.U g) (.U x) (.I t) (.S p n c) (.S q m d);have HC:=ae fun (v:World) (hv:Bw W0 v)=>ag (C0.below hv) (ag (bS.fr (aa hN) (al (ah b0 hv))) (ag (hP.below (ah b0 hv)) (ah b0 hv)));have BP:=ae bP;have Z0:=ae z0;clear b0 C0 bP z0;go_enter func109,ntmps109;go_wp2;rw [<-dh];clear dh
 go_loopw [5,6] (fun ov iv wr=>∃ (k:Nat) (M:List (List Int)),k<=m/\iv=.I k/\Hid (gJ (ns.take k) P=M)/\Hid (TN W0.heap.size wr ov M)/\Hid (Bw W0 wr)) (fun _ iv _=>m-(intOf iv).toNat)
 case atStart=>exact ⟨0,[],Nat.zero_le _,rfl,(by show _=_;simp [gJ]),RT.nil _ _ _ _ _,Below.refl _ _⟩
 case round =>(
 obtain ⟨k,M,hk,rfl,hM,hT,aR⟩:=hrel;obtain ⟨pv,cv,rfl,-,-,-⟩:=RT.form hT;have zr:=aR.size;have hml:M.length<=k:=by have h1:=Dp (ns.take k) P;have h2:=List.length_take_le k ns;rw [aa hM] at h1;omega
 obtain ⟨CB,HN,HP,bw⟩:=aa HC _ aR;have k5:=CB.1.1 5 _ rfl;have BW:=ae bw;clear CB HP bw;by_cases bj:k<m;{
 have da:=aT k m;obtain ⟨nd,hx⟩:∃ x,ns[k]?=some x:=⟨_,aK (by rw [aa em];exact bj)⟩;have lr:=ae (IP (P:=P) hx);have HX:=ae hx;obtain ⟨gn,Pv,Vv,Hv,Uv,eq,-,-,c0,-,-,-,-,-,-,-,tP,-,-,-,-⟩:=bS.at HN hx;subst eq;obtain ⟨DA,pG,JW⟩:=aa Ww nd (aF hx);obtain ⟨nP,eN⟩:=aL nd.path.length;obtain ⟨pP,cP,rfl⟩:=tP.gD;rw [aa eN] at c0 tP JW;have TP:=ae tP;have HV:=ae (ag DA pG);obtain ⟨_,_,_,ec,kH,jF⟩:=tP.2.2;simp only [Value.slice.injEq] at ec;obtain ⟨rfl,rfl,rfl⟩:=ec;clear hx tP HN DA pG;go_wp2_with fail;refine (iS pP cP nP nd.path eN wr TP.1 JW kH jF).mono ?_;rintro r w1 ⟨qq,mm,dd,rfl,Be,VP,DG,bq⟩;have B1:=ae (ah aR bq);obtain ⟨-,-,Pw,-⟩:=aa HC _ B1;have T1:=ae (hT.fr (al bq));have TP1:=ae (TP.fr (al bq));clear TP k5 hT aR;go_wp2_with fail;refine (mL qq pp dd cp mm np (dm nd.path) P (ae Be) eP w1 DG Pw (mc HV.2) BP).mono ?_;rintro r w2 ⟨rfl,cX⟩;have B2:=ae (ah B1 cX);have T2:=ae (T1.fr (al cX));have TP2:=ae (TP1.fr (al cX));obtain ⟨CB,-⟩:=aa HC _ B2;have k5:=CB.1.1 5 _ rfl;have Xh:=af c0 (ah bq cX);have z2:=B2.size;clear CB Pw DG Be VP bq cX T1 TP1 B1 c0;by_cases hq:dm nd.path=P;{
 rw [show decide (dm nd.path=P)=true by simp [hq]];have E1:=ae (by have:=aa lr;rwa [if_pos hq,aa hM] at this:gJ (ns.take (k+1)) P=M++[lG nd.path]);clear hq;go_wp2_with fail;refine (Fq pP cP nP nd.path eN w2 TP2.1 HV.2 JW (ae HV.1)).mono ?_;rintro r w3 ⟨ql,ml,dl,rfl,eml,bR9,hol,de⟩;go_wp2_with fail;refine (fT ql dl ml (lG nd.path) eml w3 hol.rd ab).mono ?_;rintro r w4 ⟨pc,cc,rfl,hoc,gL⟩;have B4:=ae (ah (ah B2 de) gL);have T4:=ae ((T2.fr (al de)).fr (al gL));have O4:=ae hoc.tb;have z4:=B4.size;clear hol de gL hoc T2 B2 TP2 k5 Xh;go_wp2_with (at_builtin;refine td rfl _ _ rfl W0.heap.size (.S pv M.length cv) M (lG nd.path) M.length (ae rfl) rfl (TN.fr (aa T4) (al (aJ.alloc aA _)) bl) w4.heap.size (.S pc ml cc) rfl (O4.fr (al (aJ.alloc aA _))) aU ab dx ?_);intro p' c' w5 T5 qh f5;have bA:Bw w4 (w4.alloc (.cells #[.S pc ml cc] 22)):=aJ.alloc aA _;have B5:=ae ((ah (aa B4) bA).grown qh dx (fun b' e=>(T4.lt b' e).1));have T5':=ae T5;clear bA qh f5 T5;go_wp2;go_roundw
 case rel=>exact ⟨k+1,_,ab,by go_num,E1,T5',B5⟩
 exact dC};{
 rw [show decide (dm nd.path=P)=false by simp [hq]];have E1:=ae (by have:=aa lr;rwa [if_neg hq,aa hM] at this:gJ (ns.take (k+1)) P=M);clear hq;go_wp2;go_roundw
 case rel=>exact ⟨k+1,M,ab,by go_num,E1,T2,B2⟩
 exact dC}};{have da:=dy k m;have e1:=aa hM;rw [List.take_of_length_le (by rw [aa em];omega),aa eL] at e1;subst e1;go_wp2;go_ret;exact ⟨_,_,rfl,RT.mono hT (by have:=aa Z0;omega),BW⟩})
end Go.Proofs.YtcfcafeciggjeaaGreatDoor
