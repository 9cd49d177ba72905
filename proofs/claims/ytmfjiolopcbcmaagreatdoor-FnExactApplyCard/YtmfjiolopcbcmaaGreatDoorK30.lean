import Derived.Test.YtmfjiolopcbcmaaGreatDoorASb
namespace Go.Proofs.YtmfjiolopcbcmaaGreatDoor
set_option maxHeartbeats 6400000
set_option linter.unusedVariables false
set_option linter.unusedSimpArgs false
set_option maxRecDepth 100000
open Go.ChangeShapes Go.WideShapes Go.ChangeAt Go.RowKit Go.Proofs.Tryz
variable {B k s:Nat} {l:List Int} {nd:aA} {ns:List aA} {v:Value} {w:World}
def ka (ns:List aA) (P:List Int) (S E G:Int):Int:=match fe ns P with
 | none=>0
 | some nd=>if nd.mode=1/\nd.holders.headD 0=S/\nd.aC=E/\nd.gen=G then 1 else 0
theorem ID (e g x t:Int) (p:Option Addr) (n c:Nat) (q:Option Addr) (m d:Nat) (ns:List aA) (em:Hid (ns.length=m)) (K S F E G:Int) (pp:Option Addr) (np cp:Nat) (vp:Option Addr) (nv cv:Nat) (P:List Int) (eP:Hid (P.length=np)) (B:Nat) (w:World) (hN:Hid (dA B w (.slice q m d) ns)) (hP:Hid (Rd w (.slice pp np cp) P)) (hm:m<=1048576) (hp:np<=2097152) (du:Hid (cT P/\∀ nd∈ns,cT nd.path)) (hex:Hid (∀ nd∈ns,nd.mode=1->nd.holders≠[])) (C:Int) (eC:Hid (ka ns P S E G=C)) :
  Calls prog 60 #[cL e g x t (.slice p n c) (.slice q m d),oP K S (.slice pp np cp) F (.slice vp nv cv) E G] w fun r w'=>r=.returned (fM 0 0 0 0 C al al al)/\Below w.heap.size w w':=by
 obtain ⟨W0,dT,b0,z0,C0⟩:=dz w (.int .u64 e) (.int .u64 g) (.int .u64 x) (.int .i64 t) (.slice p n c) (.slice q m d);obtain ⟨W1,fN,b1,z1,C1,-⟩:=au W0 #[.int .i64 K,.int .u64 S,.slice pp np cp,.int .i64 F,.slice vp nv cv,.int .u64 E,.int .u64 G] 43;obtain ⟨W2,gr,b2,z2,C2⟩:=fo W1 (.int .i64 0) (.int .u64 0) (.int .u64 0) (.int .u64 0) (.int .i64 0) al al al;rw [z0] at C1 z1;rw [z1] at C2 z2;have HC:=ae (ag ((C0.below b1).below b2) (ag (C1.below (by omega) b2) C2));have bW:=ae (ai (ai b0 b1) b2);have HN:=ae (hN.fr (Fr.below (T:=[]) bW) (by decide));have HP:=ae (hP.below bW);clear b0 b1 b2 C0 C1 C2;go_enter func60,ntmps60;go_wp2_with fail;rw [<-dT,<-fN,<-gr];clear dT fN gr;refine (lW e g x t q pp d m cp np (.slice p n c) ns P em eP W2 (dA.WO HN) HP hm hp du).mono ?_;rintro r w1 ⟨hr,aK⟩;have I8:=aK.size;have kP:=ae (ag (HC.1.below aK) (ag (HC.2.1.below (by omega) aK) (HC.2.2.below aK)));have kK:=ae (ai bW aK);have GZ:=ae (dA.fr HN (Fr.below (T:=[]) aK) (by decide));clear HC HN HP bW aK;rcases hr with ⟨k,nd,rfl,YL,hk,YP⟩ | ⟨rfl,kc⟩;{
 have zQ:=ae YP;have PJ:(k:Int)<(m:Int):=by omega
 have xX:¬ ((k:Int)<0):=by omega
 obtain ⟨gn,Pv,Vv,Hv,Uv,rfl,-,-,c0,c1,c2,c3,c4,c5,c6,c7,tP,tV,tH,tU,-⟩:=dA.at GZ hk;obtain ⟨pP,cP,rfl⟩:=tP.ed;obtain ⟨pV,cV,rfl⟩:=tV.ed;obtain ⟨pH,cH,rfl⟩:=tH.ed;obtain ⟨pU,cU,rfl⟩:=tU.ed;have aE5:=ae (aa hex nd (aL hk));obtain ⟨nP,YH⟩:=ax nd.path.length;obtain ⟨nV,YF⟩:=ax nd.value.length;obtain ⟨nU,YG⟩:=ax nd.watchers.length;obtain ⟨nh,eH⟩:∃ nh,Hid (nd.holders.length=nh):=⟨_,ae rfl⟩;rw [<-YH] at c0;rw [<-YF] at c1;rw [<-YG] at c7;rw [aa eH] at tH c4;clear YH YF YG tP tV tU hk YP;obtain ⟨ow,RJ⟩:∃ ow,Hid (nd.owner=ow):=⟨_,ae rfl⟩;obtain ⟨mo,UJ⟩:∃ mo,Hid (nd.mode=mo):=⟨_,ae rfl⟩;obtain ⟨ep,WV⟩:∃ ep,Hid (nd.aC=ep):=⟨_,ae rfl⟩;obtain ⟨ge,WS⟩:∃ ge,Hid (nd.gen=ge):=⟨_,ae rfl⟩;rw [aa RJ] at c2;rw [aa UJ] at c3;rw [aa WV] at c5;rw [aa WS] at c6;obtain ⟨k0,k1,k2,k3,k4,k5,kf⟩:=kP.1.cells;obtain ⟨W3,ya,b3,z3,C3,-⟩:=au w1 #[.slice pP nP cP,.slice pV nV cV,.int .u64 ow,.int .i64 mo,.slice pH nh cH,.int .u64 ep,.int .u64 ge,.slice pU nU cU] 103;have Oa:=fun ob:Obj=>(Below.refl w1.heap.size w1).alloc ay ob;have m0:=fun ob:Obj=>af c0 (Oa ob);have m1:=fun ob:Obj=>af c1 (Oa ob);have m2:=fun ob:Obj=>af c2 (Oa ob);have m3:=fun ob:Obj=>af c3 (Oa ob);have m4:=fun ob:Obj=>af c4 (Oa ob);have m5:=fun ob:Obj=>af c5 (Oa ob);have m6:=fun ob:Obj=>af c6 (Oa ob);have m7:=fun ob:Obj=>af c7 (Oa ob);have k5':=fun ob:Obj=>af k5 (Oa ob);have IU:=ae (ag (kP.2.1.below (by omega) b3) (ag (kP.2.2.below b3) C3));have B3:=ae (ai kK b3);have T3:=ae (tH.fr (Fr.below (T:=[]) b3) (by decide));clear b3 C3 Oa tH;go_wp2_with fail;rw [<-ya];clear ya m0 m1 m2 m3 m4 m5 m6 m7 k5' c0 c1 c2 c3 c4 c5 c6 c7 k0 k1 k2 k3 k4 k5 kf;obtain ⟨vA,bt⟩:=ax W3.drew;have bG:Below W3.heap.size W3 vA:=by rw [bt];exact ar.drew
 have zA:=bG.size;have HA:=ae (ag (IU.1.below (by omega) bG) (IU.2.2.below (by omega) bG));have RA:=ae (IU.2.1.below bG);have BA:=ae (ai B3 bG);have TA:=ae (T3.fr (Fr.below (T:=[]) bG) (by decide));refine wp_region_noPanic ?_;by_cases mG:mo=1;{
 obtain ⟨hd,tl,QF⟩:=List.exists_cons_of_ne_nil (aa aE5 (UJ.trans mG));have WR:=ae (by rw [QF];rfl:nd.holders.headD 0=hd);obtain ⟨bh,oh,rfl,ch⟩:=TA.1.at (k:=0) (x:=hd) (by rw [QF];rfl);rw [Nat.add_zero] at ch;have hnh:0<nh:=by rw [<-aa eH,QF];simp
 have aB7:(0:Int)<(nh:Int):=by omega
 clear QF;refine wp_region_held_drew (S:=fun w'=>w'.cell? ⟨w1.heap.size,3,none⟩=some (.int .i64 mo)/\w'.cell? ⟨w1.heap.size,4,none⟩=some (.slice (some ⟨bh,oh,none⟩) nh cH)/\w'.cell? ⟨w1.heap.size,5,none⟩=some (.int .u64 ep)/\w'.cell? ⟨w1.heap.size,6,none⟩=some (.int .u64 ge)/\w'.cell? ⟨w.heap.size+1,1,none⟩=some (.int .u64 S)/\w'.cell? ⟨w.heap.size+1,5,none⟩=some (.int .u64 E)/\w'.cell? ⟨w.heap.size+1,6,none⟩=some (.int .u64 G)/\w'.cell? ⟨bh,oh,none⟩=some (.int .u64 hd)) (by kernel_rfl) (by rw [<-bt];exact ⟨HA.2.1 3 _ rfl,HA.2.1 4 _ rfl,HA.2.1 5 _ rfl,HA.2.1 6 _ rfl,HA.1.1 1 _ rfl,HA.1.1 5 _ rfl,HA.1.1 6 _ rfl,ch⟩) (fun hS=>?_);rw [<-bt] at hS ⊢;clear bt bG ch;have KI:(mo==1)=true:=by simp [mG]
 by_cases hx:hd=S;{
 have Ku:(hd==S)=true:=by simp [hx]
 by_cases he:ep=E;{
 have Se:(ep==E)=true:=by simp [he]
 by_cases hg:ge=G;{
 have ra:(ge==G)=true:=by simp [hg]
 refine fL 0 1 2 3 4 5 6 7 hS ?_;refine fL 8 9 10 11 12 13 14 15 hS ?_;refine fL 16 17 18 19 20 21 22 23 hS ?_;refine fq 24 25 hS ?_;refine wpAnyH_done (by kernel_rfl) ?_ _;refine bc ?_;clear hS;obtain ⟨r0,r1,r2,r3,r4,r5,r6,r7,rf⟩:=RA.cells;go_wp2;refine bodyPost_ret (v:=fM 0 0 0 0 1 al al al) (by simp [results,results60,go_sem,r0,r1,r2,r3,r4,r5,r6,r7]) rfl ⟨?_,BA.trans ((aQ vA (w.heap.size+1+1) (.int .i64 0) (.int .u64 0) (.int .u64 0) (.int .u64 0) (.int .i64 1) al al al).mono (by omega))⟩;rw [<-aa eC];simp only [ka,aa zQ];rw [if_pos ⟨UJ.trans mG,by rw [aa WR];first | rfl | exact hx,by rw [aa WV];first | rfl | exact he,by rw [aa WS];first | rfl | exact hg⟩]};{
 have ra:(ge==G)=false:=by simp [hg]
 refine fL 0 1 2 3 4 5 6 7 hS ?_;refine fL 8 9 10 11 12 13 14 15 hS ?_;refine fL 16 17 18 19 20 21 22 23 hS ?_;refine fq 24 25 hS ?_;refine wpAnyH_done (by kernel_rfl) ?_ _;refine bc ?_;clear hS;obtain ⟨r0,r1,r2,r3,r4,r5,r6,r7,rf⟩:=RA.cells;go_wp2;refine bodyPost_ret (v:=fM 0 0 0 0 0 al al al) (by simp [results,results60,go_sem,r0,r1,r2,r3,r4,r5,r6,r7]) rfl ⟨?_,BA.trans ((aQ vA (w.heap.size+1+1) (.int .i64 0) (.int .u64 0) (.int .u64 0) (.int .u64 0) (.int .i64 0) al al al).mono (by omega))⟩;rw [<-aa eC];simp only [ka,aa zQ];rw [if_neg (by rw [aa WR,aa WV,aa WS];have:=aa UJ;simp_all)]}};{
 have Se:(ep==E)=false:=by simp [he]
 refine fL 0 1 2 3 4 5 6 7 hS ?_;refine fL 8 9 10 11 12 13 14 15 hS ?_;refine gD 16 17 18 19 hS ?_;refine sn 20 hS ?_;refine sn 21 hS ?_;refine sn 22 hS ?_;refine sn 23 hS ?_;refine sn 24 hS ?_;refine tn 25 hS ?_;refine wpAnyH_done (by kernel_rfl) ?_ _;refine bc ?_;clear hS;obtain ⟨r0,r1,r2,r3,r4,r5,r6,r7,rf⟩:=RA.cells;go_wp2;refine bodyPost_ret (v:=fM 0 0 0 0 0 al al al) (by simp [results,results60,go_sem,r0,r1,r2,r3,r4,r5,r6,r7]) rfl ⟨?_,BA.trans ((aQ vA (w.heap.size+1+1) (.int .i64 0) (.int .u64 0) (.int .u64 0) (.int .u64 0) (.int .i64 0) al al al).mono (by omega))⟩;rw [<-aa eC];simp only [ka,aa zQ];rw [if_neg (by rw [aa WR,aa WV,aa WS];have:=aa UJ;simp_all)]}};{
 have Ku:(hd==S)=false:=by simp [hx]
 refine fL 0 1 2 3 4 5 6 7 hS ?_;refine gD 8 9 10 11 hS ?_;refine tn 12 hS ?_;refine sn 13 hS ?_;refine sn 14 hS ?_;refine sn 15 hS ?_;refine sn 16 hS ?_;refine sn 17 hS ?_;refine fq 18 19 hS ?_;refine sn 20 hS ?_;refine sn 21 hS ?_;refine sn 22 hS ?_;refine sn 23 hS ?_;refine sn 24 hS ?_;refine tn 25 hS ?_;refine wpAnyH_done (by kernel_rfl) ?_ _;refine bc ?_;clear hS;obtain ⟨r0,r1,r2,r3,r4,r5,r6,r7,rf⟩:=RA.cells;go_wp2;refine bodyPost_ret (v:=fM 0 0 0 0 0 al al al) (by simp [results,results60,go_sem,r0,r1,r2,r3,r4,r5,r6,r7]) rfl ⟨?_,BA.trans ((aQ vA (w.heap.size+1+1) (.int .i64 0) (.int .u64 0) (.int .u64 0) (.int .u64 0) (.int .i64 0) al al al).mono (by omega))⟩;rw [<-aa eC];simp only [ka,aa zQ];rw [if_neg (by rw [aa WR,aa WV,aa WS];have:=aa UJ;simp_all)]}};{
 have KI:(mo==1)=false:=by simp [mG]
 obtain ⟨hd,WR⟩:∃ hd,Hid (nd.holders.headD 0=hd):=⟨_,ae rfl⟩;refine wp_region_held_drew (S:=fun w'=>w'.cell? ⟨w1.heap.size,3,none⟩=some (.int .i64 mo)/\w'.cell? ⟨w1.heap.size,4,none⟩=some (.slice pH nh cH)/\w'.cell? ⟨w1.heap.size,5,none⟩=some (.int .u64 ep)/\w'.cell? ⟨w1.heap.size,6,none⟩=some (.int .u64 ge)/\w'.cell? ⟨w.heap.size+1,1,none⟩=some (.int .u64 S)/\w'.cell? ⟨w.heap.size+1,5,none⟩=some (.int .u64 E)/\w'.cell? ⟨w.heap.size+1,6,none⟩=some (.int .u64 G)) (by kernel_rfl) (by rw [<-bt];exact ⟨HA.2.1 3 _ rfl,HA.2.1 4 _ rfl,HA.2.1 5 _ rfl,HA.2.1 6 _ rfl,HA.1.1 1 _ rfl,HA.1.1 5 _ rfl,HA.1.1 6 _ rfl⟩) (fun hS=>?_);rw [<-bt] at hS ⊢;clear bt bG;refine gD 0 1 2 3 hS ?_;refine sn 4 hS ?_;refine sn 5 hS ?_;refine sn 6 hS ?_;refine sn 7 hS ?_;refine sn 8 hS ?_;refine sn 9 hS ?_;refine sn 10 hS ?_;refine fq 11 12 hS ?_;refine sn 13 hS ?_;refine sn 14 hS ?_;refine sn 15 hS ?_;refine sn 16 hS ?_;refine sn 17 hS ?_;refine fq 18 19 hS ?_;refine sn 20 hS ?_;refine sn 21 hS ?_;refine sn 22 hS ?_;refine sn 23 hS ?_;refine sn 24 hS ?_;refine tn 25 hS ?_;refine wpAnyH_done (by kernel_rfl) ?_ _;refine bc ?_;clear hS;obtain ⟨r0,r1,r2,r3,r4,r5,r6,r7,rf⟩:=RA.cells;go_wp2;refine bodyPost_ret (v:=fM 0 0 0 0 0 al al al) (by simp [results,results60,go_sem,r0,r1,r2,r3,r4,r5,r6,r7]) rfl ⟨?_,BA.trans ((aQ vA (w.heap.size+1+1) (.int .i64 0) (.int .u64 0) (.int .u64 0) (.int .u64 0) (.int .i64 0) al al al).mono (by omega))⟩;rw [<-aa eC];simp only [ka,aa zQ];rw [if_neg (by rw [aa WR,aa WV,aa WS];have:=aa UJ;simp_all)]}};{
 have oo:((-1:Int)<0):=by omega
 obtain ⟨r0,r1,r2,r3,r4,r5,r6,r7,rf⟩:=kP.2.2.cells;have hn:=ae kc;clear kc;go_wp2;refine bodyPost_ret (v:=fM 0 0 0 0 0 al al al) (by simp [results,results60,go_sem,r0,r1,r2,r3,r4,r5,r6,r7]) rfl ⟨?_,kK.trans ((aQ w1 (w.heap.size+1+1) (.int .i64 0) (.int .u64 0) (.int .u64 0) (.int .u64 0) (.int .i64 0) al al al).mono (by omega))⟩;rw [<-aa eC];simp only [ka,aa hn]}
def kG (l:List Int):List Int:=l.drop (AU l l.length+1)
theorem Uj (hs:s<l.length) (j9:l.getD s 0=47) (h:∀ y∈l.drop (s+1),mL y=true):AU l l.length=s:=by
 have key:∀ j,s+1+j<=l.length->AU l (s+1+j)=s:=by
  intro j
  induction j with
  | zero=>intro _;rw [Nat.add_zero,nE,if_pos j9]
  | succ j ih=>
   intro hj;have hm:mL (l.getD (s+1+j) 0)=true:=h _ (by rw [List.getD_eq_getElem?_getD,aH (by omega),Option.getD_some];refine List.mem_iff_getElem.2 ⟨j,by simp;omega,by simp⟩)
   rw [<-Nat.add_assoc,nE,if_neg (Kd hm),ih (by omega)]
 have:=key (l.length-s-1) (by omega);rwa [show s+1+(l.length-s-1)=l.length by omega] at this
theorem Po (hs:s<l.length) (j9:l.getD s 0=47) (h:∀ y∈l.drop (s+1),mL y=true):kG l=l.drop (s+1):=by rw [kG,Uj hs j9 h]
def gw (ns:List aA) (P:List Int):List (List Int):=(ns.filter fun nd=>decide (de nd.path=P)).map fun nd=>kG nd.path
theorem Hu {P:List Int} (h:ns[k]?=some nd):gw (ns.take (k+1)) P=if de nd.path=P then gw (ns.take k) P++[kG nd.path] else gw (ns.take k) P:=by
 rw [List.take_add_one,h,gw,List.filter_append,List.map_append];by_cases e:de nd.path=P<;>simp [gw,e]
theorem Cn (ns:List aA) (P:List Int):(gw ns P).length<=ns.length:=by
 rw [gw,List.length_map];exact List.length_filter_le _ _
def RC (l m:List Int):Bool:=!Op.bytesLess (aB m).toList (aB l).toList&&!(aB m).toList==(aB l).toList
def jM (nd:aA):List aA->List aA
 | []=>[nd]
 | x::r=>if RC nd.path x.path=true then nd::x::r else x::jM nd r
def mB (nd:aA) (s:List aA × Bool) (x:aA):List aA × Bool:=if s.2=false/\RC nd.path x.path=true then (s.1++[nd]++[x],true) else (s.1++[x],s.2)
def xi (ns:List aA) (nd:aA):List aA × Bool:=ns.foldl (mB nd) ([],false)
theorem xS (nd:aA):∀ (l acc:List aA),l.foldl (mB nd) (acc,true)=(acc++l,true)
 | [],acc=>by simp
 | x::r,acc=>by rw [List.foldl_cons,show mB nd (acc,true) x=(acc++[x],true) by simp [mB],xS nd r];simp
theorem Py (ns:List aA) (nd:aA):(if (xi ns nd).2 then (xi ns nd).1 else (xi ns nd).1++[nd])=jM nd ns:=by
 have key:∀ (l acc:List aA),(if (l.foldl (mB nd) (acc,false)).2 then (l.foldl (mB nd) (acc,false)).1 else (l.foldl (mB nd) (acc,false)).1++[nd])=acc++jM nd l:=by
  intro l
  induction l with
  | nil=>intro acc;simp [jM]
  | cons x r ih=>
   intro acc;rw [List.foldl_cons,jM];by_cases h:RC nd.path x.path=true;{rw [show mB nd (acc,false) x=(acc++[nd]++[x],true) by simp [mB,h],xS,if_pos h];simp};{rw [show mB nd (acc,false) x=(acc++[x],false) by simp [mB,h],ih,if_neg h];simp}
 have:=key ns [];rwa [List.nil_append] at this
theorem Hx {x:aA} (hx:ns[k]?=some x):xi (ns.take (k+1)) nd=mB nd (xi (ns.take k) nd) x:=by
 rw [List.take_add_one,hx,xi,List.foldl_append]
 rfl
theorem Kt (nd:aA) (s:List aA × Bool) (x:aA):(mB nd s x).1.length<=s.1.length+2:=by
 unfold mB;split<;>simp
theorem Cr (nd:aA):∀ (l:List aA) (s:List aA × Bool),(l.foldl (mB nd) s).1.length<=s.1.length+2*l.length
 | [],s=>by simp
 | x::r,s=>by have:=Cr nd r (mB nd s x);have:=Kt nd s x;rw [List.foldl_cons,List.length_cons];omega
theorem Cs (nd:aA):∀ l:List aA,(jM nd l).length=l.length+1
 | []=>rfl
 | x::r=>by rw [jM];split;{simp};{simp [Cs nd r]}
def jv (P V:List Int) (o:Int):aA:=⟨P,V,o,0,[],0,0,[]⟩
def iT (D:SD) (P V:List Int) (S F:Int):SD × RP:=
 if (fe D.ns P).isSome then (D,rO 6) else if dy D.ns (de P)=false then (D,rO 7) else if 200<=D.ns.length then (D,rO 11)
 else ({ D with ns:=jM (jv P V (if F=1 then S else 0)) D.ns },iQ)
def mn (D:SD) (k:Nat) (K S F:Int) (V:List Int):SD × RP:=match D.ns[k]? with
 | none=>(D,iQ)
 | some nd=>
  if K=5 then (if gw D.ns nd.path≠[] then (D,rO 8) else if jh nd S=false then (D,rO 9) else (DQ (da D k 2) k,iQ))
  else if K=6 then (D,⟨0,nd.owner,nd.aC,nd.gen,nd.mode,nd.value,[],[]⟩)
  else if K=7 then (if nd.mode=1/\nd.holders.headD 0≠S then (D,rO 9) else (da { D with ns:=D.ns.set k { nd with value:=V } } k 1,iQ))
  else if K=8 then lp D k S F
  else if K=9 then (if nd.holders.contains S then (df D k S,iQ) else (D,rO 10))
  else ({ D with ns:=D.ns.set k { nd with watchers:=mi nd.watchers S } },iQ)
theorem oH.last {p:Option Addr} {j c:Nat} {vs:List Value} (h:oH B w (.slice p (j+1) c) (j+1) vs) (hv:vs.getLast?=some v):∃ g,p=some ⟨g,0,none⟩/\w.cell? ⟨g,j,none⟩=some v/\j<maxLen:=by
 have hl:=h.1;rcases h.2 with ⟨-,h0⟩ | ⟨g,cap,cur,e,-,-,ha,hb,-⟩;{omega};{simp only [Value.slice.injEq] at e;obtain ⟨rfl,-,rfl⟩:=e;refine ⟨g,rfl,?_,by omega⟩;have h':w.ownsRow B 27 1 (.slice (some ⟨g,0,none⟩) (j+1) c) (j+1) vs:=h;rw [World.ownsRow.cellAt h' j (by omega),<-hv,List.getLast?_eq_getElem?,hl];simp}
theorem EJ (p:Option Addr) (c n:Nat) (l:List Int) (en:Hid (l.length=n)) (w:World) (h:Rd w (.slice p n c) l) (hb:cT l) (hl:n<=1048576) (hv:Hid (vp l=true)) :
  Calls prog 104 #[.slice p n c] w fun r w'=>∃ q m d,r=.returned (.slice q m d)/\Hid ((kG l).length=m)/\m<=n/\Own w.heap.size w' (.slice q m d) (kG l)/\Below w.heap.size w w':=by
 go_enter func104,ntmps104;go_wp2_with fail;refine (qX p c n l en w h hb hl true hv).mono ?_;rintro r w1 ⟨hT,-,aK⟩;obtain ⟨pv,k,cv,vs,rfl,ho,hk,s,v,hvl,hs,j9,oY,hov⟩:=hT rfl;obtain ⟨j,rfl⟩:∃ j,k=j+1:=⟨k-1,by omega⟩;obtain ⟨g,rfl,hc,Sa⟩:=ho.last hvl;have hj:j<9223372036854775807:=by unfold maxLen at Sa;omega
 have wj:wrap64 (j:Int)=(j:Int):=IntWalk.wrap64_in _ (by omega);rw [<-Po hs j9 oY] at hov;obtain ⟨q,d,rfl⟩:=hov.form;have HO:=ae hov;have e1:(kG l).length<=n:=by rw [kG,List.length_drop,aa en];omega
 obtain ⟨m,em⟩:∃ m,Hid ((kG l).length=m):=⟨_,ae rfl⟩;rw [aa em] at hc HO e1;have hi:((j+1:Nat):Int)-1=(j:Int):=by omega
 have hi2:(j:Int)<((j+1:Nat):Int):=by omega
 go_wp2;go_ret;exact ⟨_,_,_,rfl,em,e1,HO,aK⟩
theorem rW {ops:Array Oper} {rest:List Oper} {o:Oper} {a:Act} {Q:Exit->Act->World->Prop} (kM:o.guard=none) (s x:Operand)
  (ho:o.op=.call { callee:=.builtin .append,args:=#[s,x],argTypes:=#[36,36] })
  (B:Nat) (v:Value) (ls:List (List Int)) (l:List Int) (k:Nat) (ek:Hid (ls.length=k)) (hs:a.eval s=v) (aS:TN B w v ls) (g:Nat) (P:Value) (hx:a.eval x=.slice (some ⟨g,0,none⟩) 1 1) (ij:TB w P l) (gK:w.cell? ⟨g,0,none⟩=some P)
  (hk:k<4194304) (hB:B<=w.heap.size)
  (h:∀ p' c' w',TN B w' (.slice p' (k+1) c') (ls++[l])->w.grownBy w' v.ownBlock->Fr [27] w w'->wpList prog ops Q rest (a.put o.dst (.slice p' (k+1) c')) w'):wpList prog ops Q (o::rest) a w:=by
 obtain ⟨i,hi,jG,gi,gP⟩:=info_parts Tryz.infoSl;have ht:=aS.yE;obtain ⟨rs,h1,h2,h3,h4⟩:=aS;have H6:P.oneCell'=true:=by
  obtain ⟨_,_,rfl⟩:=ij.ed
  rfl
 rw [aa ek] at h3;refine dO kM s x 36 ho B 27 i _ 1 24 underlying36 hi jG gi gP rfl (by decide) v _ _ hs h3 g 1 1 [P] hx rfl (fun j u hu=>by
  have e:j=0:=by have:=(aM.1 hu).1;simpa using this
  subst e;simp at hu;subst hu;exact gK) (fun u hu=>by simp at hu;rw [hu];exact H6) (by unfold maxLen;omega) (by omega) hB ?_
 intro v' w' dN hg _;have hf:Fr [27] w w':=Fr.grown hg fun b hb=>by obtain ⟨cur,hc⟩:=ht b hb;exact ⟨cur,_,hc,by simp⟩
 have sn:TN B w' v' (ls++[l]):=RT.snoc h1 h2 h4 (fun y c hy=>by obtain ⟨P',e,h5⟩:=hy;exact ⟨P',e,h5.fr hf (by decide)⟩) ⟨P,rfl,ij⟩ rfl (by rw [aa ek];exact dN);obtain ⟨p',c',rfl,-⟩:=RT.form sn;rw [List.length_append,aa ek] at sn ⊢;exact h p' c' w' sn hg hf
theorem TN.fr {T:List TypeId} {w':World} {ls:List (List Int)} (h:TN B w v ls) (hf:Fr T w w') (ht:5∉T/\27∉T):TN B w' v ls:=
 RT.fr h hf ht.2 (fun y c hy=>by obtain ⟨P',e,h5⟩:=hy;exact ⟨P',e,h5.fr hf ht.1⟩)
def PPB (ns:List aA):Prop:=∀ nd∈ns,vp nd.path=true/\cT nd.path/\nd.path.length<=1048576
theorem rB (e g x t:Int) (p:Option Addr) (n c:Nat) (q:Option Addr) (m d:Nat) (ns:List aA) (em:Hid (ns.length=m)) (pp:Option Addr) (np cp:Nat) (P:List Int) (eP:Hid (P.length=np)) (B:Nat) (w:World) (hN:Hid (dA B w (.slice q m d) ns)) (hP:Hid (Rd w (.slice pp np cp) P)) (bP:cT P) (Sr:Hid (PPB ns)) (hm:m<=1048576) (L:List (List Int)) (eL:Hid (gw ns P=L)) :
  Calls prog 62 #[cL e g x t (.slice p n c) (.slice q m d),.slice pp np cp] w fun r w'=>∃ p' c',r=.returned (.slice p' L.length c')/\TN w.heap.size w' (.slice p' L.length c') L/\Below w.heap.size w w':=by
 obtain ⟨W0,dT,b0,z0,C0⟩:=dz w (.int .u64 e) (.int .u64 g) (.int .u64 x) (.int .i64 t) (.slice p n c) (.slice q m d);have HC:=ae fun (v:World) (hv:Below W0.heap.size W0 v)=>ag (C0.below hv) (ag (dA.fr (aa hN) (Fr.below (T:=[]) (ai b0 hv)) (by decide)) (ag (hP.below (ai b0 hv)) (ai b0 hv)));have BP:=ae bP;have Z0:=ae z0;clear b0 C0 bP z0;go_enter func62,ntmps62;go_wp2;rw [<-dT];clear dT
 go_loopw [5,6] (fun ov iv wr=>∃ (k:Nat) (M:List (List Int)),k<=m/\iv=.int .i64 k/\Hid (gw (ns.take k) P=M)/\Hid (TN W0.heap.size wr ov M)/\Hid (Below W0.heap.size W0 wr)) (fun _ iv _=>m-(intOf iv).toNat)
 case atStart=>exact ⟨0,[],Nat.zero_le _,rfl,(by show _=_;simp [gw]),RT.nil _ _ _ _ _,Below.refl _ _⟩
 case round =>(
 obtain ⟨k,M,hk,rfl,hM,hT,aE⟩:=hrel;obtain ⟨pv,cv,rfl,-,-,-⟩:=RT.form hT;have zr:=aE.size;have hml:M.length<=k:=by have h1:=Cn (ns.take k) P;have h2:=List.length_take_le k ns;rw [aa hM] at h1;omega
 obtain ⟨CB,HN,HP,bw⟩:=aa HC _ aE;have k5:=CB.1.1 5 _ rfl;have BW:=ae bw;clear CB HP bw;by_cases aU:k<m;{
 have aV:(k:Int)<(m:Int):=by omega
 obtain ⟨nd,hx⟩:∃ x,ns[k]?=some x:=⟨_,aH (by rw [aa em];exact aU)⟩;have jl:=ae (Hu (P:=P) hx);have HX:=ae hx;obtain ⟨gn,Pv,Vv,Hv,Uv,eq,-,-,c0,-,-,-,-,-,-,-,tP,-,-,-,-⟩:=dA.at HN hx;subst eq;obtain ⟨EW,tT,Hz⟩:=aa Sr nd (aL hx);obtain ⟨nP,eN⟩:∃ nP,Hid (nd.path.length=nP):=⟨_,ae rfl⟩;obtain ⟨pP,cP,rfl⟩:=tP.ed;rw [aa eN] at c0 tP Hz;have TP:=ae tP;have HV:=ae (ag EW tT);obtain ⟨_,_,_,ec,jg,jf⟩:=tP.2.2;simp only [Value.slice.injEq] at ec;obtain ⟨rfl,rfl,rfl⟩:=ec;clear hx tP HN EW tT;go_wp2_with fail;refine (ia pP cP nP nd.path eN wr TP.1 Hz jg jf).mono ?_;rintro r w1 ⟨qq,mm,dd,rfl,DU,UK,Cz,aK⟩;have B1:=ae (ai aE aK);obtain ⟨-,-,Oh,-⟩:=aa HC _ B1;have T1:=ae (hT.fr (Fr.below (T:=[]) aK) (by decide));have TP1:=ae (TP.fr (Fr.below (T:=[]) aK) (by decide));clear TP k5 hT aE;go_wp2_with fail;refine (lV qq pp dd cp mm np (de nd.path) P (ae DU) eP w1 Cz Oh (ld HV.2) BP).mono ?_;rintro r w2 ⟨rfl,aG⟩;have B2:=ae (ai B1 aG);have T2:=ae (T1.fr (Fr.below (T:=[]) aG) (by decide));have TP2:=ae (TP1.fr (Fr.below (T:=[]) aG) (by decide));obtain ⟨CB,-⟩:=aa HC _ B2;have k5:=CB.1.1 5 _ rfl;have VX:=af c0 (ai aK aG);have z2:=B2.size;clear CB Oh Cz DU UK aK aG T1 TP1 B1 c0;by_cases hq:de nd.path=P;{
 rw [show decide (de nd.path=P)=true by simp [hq]];have E1:=ae (by have:=aa jl;rwa [if_pos hq,aa hM] at this:gw (ns.take (k+1)) P=M++[kG nd.path]);clear hq;go_wp2_with fail;refine (EJ pP cP nP nd.path eN w2 TP2.1 HV.2 Hz (ae HV.1)).mono ?_;rintro r w3 ⟨ql,ml,dl,rfl,eml,bB2,hol,cX⟩;go_wp2_with fail;refine (fg ql dl ml (kG nd.path) eml w3 hol.rd (by omega)).mono ?_;rintro r w4 ⟨pc,cc,rfl,hoc,fk⟩;have B4:=ae (ai (ai B2 cX) fk);have T4:=ae ((T2.fr (Fr.below (T:=[]) cX) (by decide)).fr (Fr.below (T:=[]) fk) (by decide));have O4:=ae hoc.tb;have z4:=B4.size;clear hol cX fk hoc T2 B2 TP2 k5 VX;go_wp2_with (at_builtin;refine rW rfl _ _ rfl W0.heap.size (.slice pv M.length cv) M (kG nd.path) M.length (ae rfl) rfl (TN.fr (aa T4) (Fr.below (T:=[]) (ar.alloc ay _)) (by decide)) w4.heap.size (.slice pc ml cc) rfl (O4.fr (Fr.below (T:=[]) (ar.alloc ay _)) (by decide)) (by simp) (by omega) (by simp;omega) ?_);intro p' c' w5 T5 oB f5;have bA:Below w4.heap.size w4 (w4.alloc (.cells #[.slice pc ml cc] 27)):=ar.alloc ay _;have B5:=ae ((ai (aa B4) bA).grown oB (by simp;omega) (fun b' e=>(T4.lt b' e).1));have T5':=ae T5;clear bA oB f5 T5;go_wp2;go_roundw
 case rel=>exact ⟨k+1,_,by omega,by go_num,E1,T5',B5⟩
 case measure=>simp [intOf];omega}
 {
 rw [show decide (de nd.path=P)=false by simp [hq]];have E1:=ae (by have:=aa jl;rwa [if_neg hq,aa hM] at this:gw (ns.take (k+1)) P=M);clear hq;go_wp2;go_roundw
 case rel=>exact ⟨k+1,M,by omega,by go_num,E1,T2,B2⟩
 case measure=>simp [intOf];omega}}
 {
 have aV:¬ (k:Int)<(m:Int):=by omega
 have e1:=aa hM;rw [List.take_of_length_le (by rw [aa em];omega),aa eL] at e1;subst e1;go_wp2;go_ret;exact ⟨_,_,rfl,RT.mono hT (by have:=aa Z0;omega),BW⟩})
end Go.Proofs.YtmfjiolopcbcmaaGreatDoor
