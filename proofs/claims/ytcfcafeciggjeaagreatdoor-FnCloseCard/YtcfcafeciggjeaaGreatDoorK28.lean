import Derived.Test.YtcfcafeciggjeaaGreatDoorASb
namespace Go.Proofs.YtcfcafeciggjeaaGreatDoor
set_option maxHeartbeats 6400000
set_option linter.unusedVariables false
set_option linter.unusedSimpArgs false
set_option maxRecDepth 100000
open Go.ChangeShapes Go.WideShapes Go.ChangeAt Go.RowKit Go.Proofs.Tryz
variable {B k s:Nat} {l:List Int} {nd:aA} {ns:List aA} {v:Value} {w:World}
def ke (ns:List aA) (P:List Int) (S E G:Int):Int:=match ga ns P with
 | none=>0
 | some nd=>if nd.mode=1/\nd.holders.headD 0=S/\nd.aD=E/\nd.gen=G then 1 else 0
theorem Es (e g x t:Int) (p:Option Addr) (n c:Nat) (q:Option Addr) (m d:Nat) (ns:List aA) (em:Hid (ns.length=m)) (K S F E G:Int) (pp:Option Addr) (np cp:Nat) (vp:Option Addr) (nv cv:Nat) (P:List Int) (eP:Hid (P.length=np)) (B:Nat) (w:World) (hN:Hid (jh B w (.slice q m d) ns)) (hP:Hid (Rd w (.slice pp np cp) P)) (hm:m<=1048576) (hp:np<=2097152) (fK:Hid (bQ P/\∀ nd∈ns,bQ nd.path)) (hex:Hid (∀ nd∈ns,nd.mode=1->nd.holders≠[])) (C:Int) (eC:Hid (ke ns P S E G=C)) :
  Calls prog 107 #[cK e g x t (.slice p n c) (.slice q m d),tJ K S (.slice pp np cp) F (.slice vp nv cv) E G] w fun r w'=>r=.returned (fW 0 0 0 0 C aq aq aq)/\Below w.heap.size w w':=by
 obtain ⟨W0,cA,b0,z0,C0⟩:=bg w (.int .u64 e) (.int .u64 g) (.int .u64 x) (.int .i64 t) (.slice p n c) (.slice q m d);obtain ⟨W1,fP,b1,z1,C1,-⟩:=aj W0 #[.int .i64 K,.int .u64 S,.slice pp np cp,.int .i64 F,.slice vp nv cv,.int .u64 E,.int .u64 G] 29;obtain ⟨W2,iY,b2,z2,C2⟩:=gP W1 (.int .i64 0) (.int .u64 0) (.int .u64 0) (.int .u64 0) (.int .i64 0) aq aq aq;rw [z0] at C1 z1;rw [z1] at C2 z2;have HC:=ae (ag ((C0.below b1).below b2) (ag (C1.below (by omega) b2) C2));have bW:=ae (ai (ai b0 b1) b2);have HN:=ae (hN.fr (Fr.below (T:=[]) bW) (by decide));have HP:=ae (hP.below bW);clear b0 b1 b2 C0 C1 C2;go_enter func107,ntmps107;go_wp2_with fail;rw [<-cA,<-fP,<-iY];clear cA fP iY;refine (jY e g x t q pp d m cp np (.slice p n c) ns P em eP W2 (aR.Oj HN) HP hm hp fK).mono ?_;rintro r w1 ⟨hr,bf⟩;have rO:=bf.size;have kN:=ae (ag (HC.1.below bf) (ag (HC.2.1.below (by omega) bf) (HC.2.2.below bf)));have kn:=ae (ai bW bf);have Dy:=ae (aR.fr HN (Fr.below (T:=[]) bf) (by decide));clear HC HN HP bW bf;rcases hr with ⟨k,nd,rfl,Uh,hk,Ul⟩ | ⟨rfl,lG⟩;{
 have z8:=ae Ul;have KH:(k:Int)<(m:Int):=by omega
 have vf:¬ ((k:Int)<0):=by omega
 obtain ⟨gn,Pv,Vv,Hv,Uv,rfl,-,-,c0,c1,c2,c3,c4,c5,c6,c7,tP,tV,tH,tU,-⟩:=aR.at Dy hk;obtain ⟨pP,cP,rfl⟩:=tP.ew;obtain ⟨pV,cV,rfl⟩:=tV.ew;obtain ⟨pH,cH,rfl⟩:=tH.ew;obtain ⟨pU,cU,rfl⟩:=tU.ew;have ab7:=ae (aa hex nd (aF hk));obtain ⟨nP,Uc⟩:=ar nd.path.length;obtain ⟨nV,Ua⟩:=ar nd.value.length;obtain ⟨nU,Ub⟩:=ar nd.watchers.length;obtain ⟨nh,eH⟩:∃ nh,Hid (nd.holders.length=nh):=⟨_,ae rfl⟩;rw [<-Uc] at c0;rw [<-Ua] at c1;rw [<-Ub] at c7;rw [aa eH] at tH c4;clear Uc Ua Ub tP tV tU hk Ul;obtain ⟨ow,MC⟩:∃ ow,Hid (nd.owner=ow):=⟨_,ae rfl⟩;obtain ⟨mo,Pc⟩:∃ mo,Hid (nd.mode=mo):=⟨_,ae rfl⟩;obtain ⟨ep,Rl⟩:∃ ep,Hid (nd.aD=ep):=⟨_,ae rfl⟩;obtain ⟨ge,MK⟩:∃ ge,Hid (nd.gen=ge):=⟨_,ae rfl⟩;rw [aa MC] at c2;rw [aa Pc] at c3;rw [aa Rl] at c5;rw [aa MK] at c6;obtain ⟨k0,k1,k2,k3,k4,k5,kf⟩:=kN.1.cells;obtain ⟨W3,j8,b3,z3,C3,-⟩:=aj w1 #[.slice pP nP cP,.slice pV nV cV,.int .u64 ow,.int .i64 mo,.slice pH nh cH,.int .u64 ep,.int .u64 ge,.slice pU nU cU] 38;have Jq:=fun ob:Obj=>(Below.refl w1.heap.size w1).alloc ax ob;have m0:=fun ob:Obj=>af c0 (Jq ob);have m1:=fun ob:Obj=>af c1 (Jq ob);have m2:=fun ob:Obj=>af c2 (Jq ob);have m3:=fun ob:Obj=>af c3 (Jq ob);have m4:=fun ob:Obj=>af c4 (Jq ob);have m5:=fun ob:Obj=>af c5 (Jq ob);have m6:=fun ob:Obj=>af c6 (Jq ob);have m7:=fun ob:Obj=>af c7 (Jq ob);have k5':=fun ob:Obj=>af k5 (Jq ob);have Mi:=ae (ag (kN.2.1.below (by omega) b3) (ag (kN.2.2.below b3) C3));have B3:=ae (ai kn b3);have T3:=ae (tH.fr (Fr.below (T:=[]) b3) (by decide));clear b3 C3 Jq tH;go_wp2_with fail;rw [<-j8];clear j8 m0 m1 m2 m3 m4 m5 m6 m7 k5' c0 c1 c2 c3 c4 c5 c6 c7 k0 k1 k2 k3 k4 k5 kf;obtain ⟨vA,bM⟩:=ar W3.drew;have cg:Below W3.heap.size W3 vA:=by rw [bM];exact ay.drew
 have zA:=cg.size;have HA:=ae (ag (Mi.1.below (by omega) cg) (Mi.2.2.below (by omega) cg));have RA:=ae (Mi.2.1.below cg);have BA:=ae (ai B3 cg);have TA:=ae (T3.fr (Fr.below (T:=[]) cg) (by decide));refine wp_region_noPanic ?_;by_cases tM:mo=1;{
 obtain ⟨hd,tl,Lr⟩:=List.exists_cons_of_ne_nil (aa ab7 (Pc.trans tM));have Ri:=ae (by rw [Lr];rfl:nd.holders.headD 0=hd);obtain ⟨bh,oh,rfl,ch⟩:=TA.1.at (k:=0) (x:=hd) (by rw [Lr];rfl);rw [Nat.add_zero] at ch;have hnh:0<nh:=by rw [<-aa eH,Lr];simp
 have ZM:(0:Int)<(nh:Int):=by omega
 clear Lr;refine wp_region_held_drew (S:=fun w'=>w'.cell? ⟨w1.heap.size,3,none⟩=some (.int .i64 mo)/\w'.cell? ⟨w1.heap.size,4,none⟩=some (.slice (some ⟨bh,oh,none⟩) nh cH)/\w'.cell? ⟨w1.heap.size,5,none⟩=some (.int .u64 ep)/\w'.cell? ⟨w1.heap.size,6,none⟩=some (.int .u64 ge)/\w'.cell? ⟨w.heap.size+1,1,none⟩=some (.int .u64 S)/\w'.cell? ⟨w.heap.size+1,5,none⟩=some (.int .u64 E)/\w'.cell? ⟨w.heap.size+1,6,none⟩=some (.int .u64 G)/\w'.cell? ⟨bh,oh,none⟩=some (.int .u64 hd)) (by kernel_rfl) (by rw [<-bM];exact ⟨HA.2.1 3 _ rfl,HA.2.1 4 _ rfl,HA.2.1 5 _ rfl,HA.2.1 6 _ rfl,HA.1.1 1 _ rfl,HA.1.1 5 _ rfl,HA.1.1 6 _ rfl,ch⟩) (fun hS=>?_);rw [<-bM] at hS ⊢;clear bM cg ch;have GZ:(mo==1)=true:=by simp [tM]
 by_cases hx:hd=S;{
 have ON:(hd==S)=true:=by simp [hx]
 by_cases he:ep=E;{
 have MP:(ep==E)=true:=by simp [he]
 by_cases hg:ge=G;{
 have MM:(ge==G)=true:=by simp [hg]
 refine gj 0 1 2 3 4 5 6 7 hS ?_;refine gj 8 9 10 11 12 13 14 15 hS ?_;refine gj 16 17 18 19 20 21 22 23 hS ?_;refine dQ 24 25 hS ?_;refine wpAnyH_done (by kernel_rfl) ?_ _;refine aX ?_;clear hS;obtain ⟨r0,r1,r2,r3,r4,r5,r6,r7,rf⟩:=RA.cells;go_wp2;refine bodyPost_ret (v:=fW 0 0 0 0 1 aq aq aq) (by simp [results,results107,go_sem,r0,r1,r2,r3,r4,r5,r6,r7]) rfl ⟨?_,BA.trans ((aU vA (w.heap.size+1+1) (.int .i64 0) (.int .u64 0) (.int .u64 0) (.int .u64 0) (.int .i64 1) aq aq aq).mono (by omega))⟩;rw [<-aa eC];simp only [ke,aa z8];rw [if_pos ⟨Pc.trans tM,by rw [aa Ri];first | rfl | exact hx,by rw [aa Rl];first | rfl | exact he,by rw [aa MK];first | rfl | exact hg⟩]};{
 have MM:(ge==G)=false:=by simp [hg]
 refine gj 0 1 2 3 4 5 6 7 hS ?_;refine gj 8 9 10 11 12 13 14 15 hS ?_;refine gj 16 17 18 19 20 21 22 23 hS ?_;refine dQ 24 25 hS ?_;refine wpAnyH_done (by kernel_rfl) ?_ _;refine aX ?_;clear hS;obtain ⟨r0,r1,r2,r3,r4,r5,r6,r7,rf⟩:=RA.cells;go_wp2;refine bodyPost_ret (v:=fW 0 0 0 0 0 aq aq aq) (by simp [results,results107,go_sem,r0,r1,r2,r3,r4,r5,r6,r7]) rfl ⟨?_,BA.trans ((aU vA (w.heap.size+1+1) (.int .i64 0) (.int .u64 0) (.int .u64 0) (.int .u64 0) (.int .i64 0) aq aq aq).mono (by omega))⟩;rw [<-aa eC];simp only [ke,aa z8];rw [if_neg (by rw [aa Ri,aa Rl,aa MK];have:=aa Pc;simp_all)]}};{
 have MP:(ep==E)=false:=by simp [he]
 refine gj 0 1 2 3 4 5 6 7 hS ?_;refine gj 8 9 10 11 12 13 14 15 hS ?_;refine gp 16 17 18 19 hS ?_;refine sn 20 hS ?_;refine sn 21 hS ?_;refine sn 22 hS ?_;refine sn 23 hS ?_;refine sn 24 hS ?_;refine tn 25 hS ?_;refine wpAnyH_done (by kernel_rfl) ?_ _;refine aX ?_;clear hS;obtain ⟨r0,r1,r2,r3,r4,r5,r6,r7,rf⟩:=RA.cells;go_wp2;refine bodyPost_ret (v:=fW 0 0 0 0 0 aq aq aq) (by simp [results,results107,go_sem,r0,r1,r2,r3,r4,r5,r6,r7]) rfl ⟨?_,BA.trans ((aU vA (w.heap.size+1+1) (.int .i64 0) (.int .u64 0) (.int .u64 0) (.int .u64 0) (.int .i64 0) aq aq aq).mono (by omega))⟩;rw [<-aa eC];simp only [ke,aa z8];rw [if_neg (by rw [aa Ri,aa Rl,aa MK];have:=aa Pc;simp_all)]}};{
 have ON:(hd==S)=false:=by simp [hx]
 refine gj 0 1 2 3 4 5 6 7 hS ?_;refine gp 8 9 10 11 hS ?_;refine tn 12 hS ?_;refine sn 13 hS ?_;refine sn 14 hS ?_;refine sn 15 hS ?_;refine sn 16 hS ?_;refine sn 17 hS ?_;refine dQ 18 19 hS ?_;refine sn 20 hS ?_;refine sn 21 hS ?_;refine sn 22 hS ?_;refine sn 23 hS ?_;refine sn 24 hS ?_;refine tn 25 hS ?_;refine wpAnyH_done (by kernel_rfl) ?_ _;refine aX ?_;clear hS;obtain ⟨r0,r1,r2,r3,r4,r5,r6,r7,rf⟩:=RA.cells;go_wp2;refine bodyPost_ret (v:=fW 0 0 0 0 0 aq aq aq) (by simp [results,results107,go_sem,r0,r1,r2,r3,r4,r5,r6,r7]) rfl ⟨?_,BA.trans ((aU vA (w.heap.size+1+1) (.int .i64 0) (.int .u64 0) (.int .u64 0) (.int .u64 0) (.int .i64 0) aq aq aq).mono (by omega))⟩;rw [<-aa eC];simp only [ke,aa z8];rw [if_neg (by rw [aa Ri,aa Rl,aa MK];have:=aa Pc;simp_all)]}};{
 have GZ:(mo==1)=false:=by simp [tM]
 obtain ⟨hd,Ri⟩:∃ hd,Hid (nd.holders.headD 0=hd):=⟨_,ae rfl⟩;refine wp_region_held_drew (S:=fun w'=>w'.cell? ⟨w1.heap.size,3,none⟩=some (.int .i64 mo)/\w'.cell? ⟨w1.heap.size,4,none⟩=some (.slice pH nh cH)/\w'.cell? ⟨w1.heap.size,5,none⟩=some (.int .u64 ep)/\w'.cell? ⟨w1.heap.size,6,none⟩=some (.int .u64 ge)/\w'.cell? ⟨w.heap.size+1,1,none⟩=some (.int .u64 S)/\w'.cell? ⟨w.heap.size+1,5,none⟩=some (.int .u64 E)/\w'.cell? ⟨w.heap.size+1,6,none⟩=some (.int .u64 G)) (by kernel_rfl) (by rw [<-bM];exact ⟨HA.2.1 3 _ rfl,HA.2.1 4 _ rfl,HA.2.1 5 _ rfl,HA.2.1 6 _ rfl,HA.1.1 1 _ rfl,HA.1.1 5 _ rfl,HA.1.1 6 _ rfl⟩) (fun hS=>?_);rw [<-bM] at hS ⊢;clear bM cg;refine gp 0 1 2 3 hS ?_;refine sn 4 hS ?_;refine sn 5 hS ?_;refine sn 6 hS ?_;refine sn 7 hS ?_;refine sn 8 hS ?_;refine sn 9 hS ?_;refine sn 10 hS ?_;refine dQ 11 12 hS ?_;refine sn 13 hS ?_;refine sn 14 hS ?_;refine sn 15 hS ?_;refine sn 16 hS ?_;refine sn 17 hS ?_;refine dQ 18 19 hS ?_;refine sn 20 hS ?_;refine sn 21 hS ?_;refine sn 22 hS ?_;refine sn 23 hS ?_;refine sn 24 hS ?_;refine tn 25 hS ?_;refine wpAnyH_done (by kernel_rfl) ?_ _;refine aX ?_;clear hS;obtain ⟨r0,r1,r2,r3,r4,r5,r6,r7,rf⟩:=RA.cells;go_wp2;refine bodyPost_ret (v:=fW 0 0 0 0 0 aq aq aq) (by simp [results,results107,go_sem,r0,r1,r2,r3,r4,r5,r6,r7]) rfl ⟨?_,BA.trans ((aU vA (w.heap.size+1+1) (.int .i64 0) (.int .u64 0) (.int .u64 0) (.int .u64 0) (.int .i64 0) aq aq aq).mono (by omega))⟩;rw [<-aa eC];simp only [ke,aa z8];rw [if_neg (by rw [aa Ri,aa Rl,aa MK];have:=aa Pc;simp_all)]}};{
 have oe:((-1:Int)<0):=by omega
 obtain ⟨r0,r1,r2,r3,r4,r5,r6,r7,rf⟩:=kN.2.2.cells;have hn:=ae lG;clear lG;go_wp2;refine bodyPost_ret (v:=fW 0 0 0 0 0 aq aq aq) (by simp [results,results107,go_sem,r0,r1,r2,r3,r4,r5,r6,r7]) rfl ⟨?_,kn.trans ((aU w1 (w.heap.size+1+1) (.int .i64 0) (.int .u64 0) (.int .u64 0) (.int .u64 0) (.int .i64 0) aq aq aq).mono (by omega))⟩;rw [<-aa eC];simp only [ke,aa hn]}
def mw (l:List Int):List Int:=l.drop (xn l l.length+1)
theorem Oy (hs:s<l.length) (j9:l.getD s 0=47) (h:∀ y∈l.drop (s+1),kJ y=true):xn l l.length=s:=by
 have key:∀ j,s+1+j<=l.length->xn l (s+1+j)=s:=by
  intro j
  induction j with
  | zero=>intro _;rw [Nat.add_zero,lx,if_pos j9]
  | succ j ih=>
   intro hj;have hm:kJ (l.getD (s+1+j) 0)=true:=h _ (by rw [List.getD_eq_getElem?_getD,aE (by omega),Option.getD_some];refine List.mem_iff_getElem.2 ⟨j,by simp;omega,by simp⟩)
   rw [<-Nat.add_assoc,lx,if_neg (Gt hm),ih (by omega)]
 have:=key (l.length-s-1) (by omega);rwa [show s+1+(l.length-s-1)=l.length by omega] at this
theorem Kg (hs:s<l.length) (j9:l.getD s 0=47) (h:∀ y∈l.drop (s+1),kJ y=true):mw l=l.drop (s+1):=by rw [mw,Oy hs j9 h]
def gv (ns:List aA) (P:List Int):List (List Int):=(ns.filter fun nd=>decide (dF nd.path=P)).map fun nd=>mw nd.path
theorem DW {P:List Int} (h:ns[k]?=some nd):gv (ns.take (k+1)) P=if dF nd.path=P then gv (ns.take k) P++[mw nd.path] else gv (ns.take k) P:=by
 rw [List.take_add_one,h,gv,List.filter_append,List.map_append];by_cases e:dF nd.path=P<;>simp [gv,e]
theorem yi (ns:List aA) (P:List Int):(gv ns P).length<=ns.length:=by
 rw [gv,List.length_map];exact List.length_filter_le _ _
def Mv (l m:List Int):Bool:=!Op.bytesLess (aY m).toList (aY l).toList&&!(aY m).toList==(aY l).toList
def iU (nd:aA):List aA->List aA
 | []=>[nd]
 | x::r=>if Mv nd.path x.path=true then nd::x::r else x::iU nd r
def kG (nd:aA) (s:List aA × Bool) (x:aA):List aA × Bool:=if s.2=false/\Mv nd.path x.path=true then (s.1++[nd]++[x],true) else (s.1++[x],s.2)
def ui (ns:List aA) (nd:aA):List aA × Bool:=ns.foldl (kG nd) ([],false)
theorem u9 (nd:aA):∀ (l acc:List aA),l.foldl (kG nd) (acc,true)=(acc++l,true)
 | [],acc=>by simp
 | x::r,acc=>by rw [List.foldl_cons,show kG nd (acc,true) x=(acc++[x],true) by simp [kG],u9 nd r];simp
theorem Kp (ns:List aA) (nd:aA):(if (ui ns nd).2 then (ui ns nd).1 else (ui ns nd).1++[nd])=iU nd ns:=by
 have key:∀ (l acc:List aA),(if (l.foldl (kG nd) (acc,false)).2 then (l.foldl (kG nd) (acc,false)).1 else (l.foldl (kG nd) (acc,false)).1++[nd])=acc++iU nd l:=by
  intro l
  induction l with
  | nil=>intro acc;simp [iU]
  | cons x r ih=>
   intro acc;rw [List.foldl_cons,iU];by_cases h:Mv nd.path x.path=true;{rw [show kG nd (acc,false) x=(acc++[nd]++[x],true) by simp [kG,h],u9,if_pos h];simp};{rw [show kG nd (acc,false) x=(acc++[x],false) by simp [kG,h],ih,if_neg h];simp}
 have:=key ns [];rwa [List.nil_append] at this
theorem DY {x:aA} (hx:ns[k]?=some x):ui (ns.take (k+1)) nd=kG nd (ui (ns.take k) nd) x:=by
 rw [List.take_add_one,hx,ui,List.foldl_append]
 rfl
theorem GI (nd:aA) (s:List aA × Bool) (x:aA):(kG nd s x).1.length<=s.1.length+2:=by
 unfold kG;split<;>simp
theorem yl (nd:aA):∀ (l:List aA) (s:List aA × Bool),(l.foldl (kG nd) s).1.length<=s.1.length+2*l.length
 | [],s=>by simp
 | x::r,s=>by have:=yl nd r (kG nd s x);have:=GI nd s x;rw [List.foldl_cons,List.length_cons];omega
theorem sI (nd:aA):∀ l:List aA,(iU nd l).length=l.length+1
 | []=>rfl
 | x::r=>by rw [iU];split;{simp};{simp [sI nd r]}
def fy (P V:List Int) (o:Int):aA:=⟨P,V,o,0,[],0,0,[]⟩
def iw (D:SD) (P V:List Int) (S F:Int):SD × RP:=
 if (ga D.ns P).isSome then (D,qV 6) else if dG D.ns (dF P)=false then (D,qV 7) else if 200<=D.ns.length then (D,qV 11)
 else ({ D with ns:=iU (fy P V (if F=1 then S else 0)) D.ns },mR)
def oK (D:SD) (k:Nat) (K S F:Int) (V:List Int):SD × RP:=match D.ns[k]? with
 | none=>(D,mR)
 | some nd=>
  if K=5 then (if gv D.ns nd.path≠[] then (D,qV 8) else if ni nd S=false then (D,qV 9) else (zO (cX D k 2) k,mR))
  else if K=6 then (D,⟨0,nd.owner,nd.aD,nd.gen,nd.mode,nd.value,[],[]⟩)
  else if K=7 then (if nd.mode=1/\nd.holders.headD 0≠S then (D,qV 9) else (cX { D with ns:=D.ns.set k { nd with value:=V } } k 1,mR))
  else if K=8 then oP D k S F
  else if K=9 then (if nd.holders.contains S then (cE D k S,mR) else (D,qV 10))
  else ({ D with ns:=D.ns.set k { nd with watchers:=jA nd.watchers S } },mR)
theorem mL.last {p:Option Addr} {j c:Nat} {vs:List Value} (h:mL B w (.slice p (j+1) c) (j+1) vs) (hv:vs.getLast?=some v):∃ g,p=some ⟨g,0,none⟩/\w.cell? ⟨g,j,none⟩=some v/\j<maxLen:=by
 have hl:=h.1;rcases h.2 with ⟨-,h0⟩ | ⟨g,cap,cur,e,-,-,ha,hb,-⟩;{omega};{simp only [Value.slice.injEq] at e;obtain ⟨rfl,-,rfl⟩:=e;refine ⟨g,rfl,?_,by omega⟩;have h':w.ownsRow B 22 1 (.slice (some ⟨g,0,none⟩) (j+1) c) (j+1) vs:=h;rw [World.ownsRow.cellAt h' j (by omega),<-hv,List.getLast?_eq_getElem?,hl];simp}
theorem AL (p:Option Addr) (c n:Nat) (l:List Int) (en:Hid (l.length=n)) (w:World) (h:Rd w (.slice p n c) l) (hb:bQ l) (hl:n<=1048576) (hv:Hid (vp l=true)) :
  Calls prog 151 #[.slice p n c] w fun r w'=>∃ q m d,r=.returned (.slice q m d)/\Hid ((mw l).length=m)/\m<=n/\Own w.heap.size w' (.slice q m d) (mw l)/\Below w.heap.size w w':=by
 go_enter func151,ntmps151;go_wp2_with fail;refine (oQ p c n l en w h hb hl true hv).mono ?_;rintro r w1 ⟨hT,-,bf⟩;obtain ⟨pv,k,cv,vs,rfl,ho,hk,s,v,Tq,hs,j9,nR,ZI⟩:=hT rfl;obtain ⟨j,rfl⟩:∃ j,k=j+1:=⟨k-1,by omega⟩;obtain ⟨g,rfl,hc,Ph⟩:=ho.last Tq;have hj:j<9223372036854775807:=by unfold maxLen at Ph;omega
 have wj:wrap64 (j:Int)=(j:Int):=IntWalk.wrap64_in _ (by omega);rw [<-Kg hs j9 nR] at ZI;obtain ⟨q,d,rfl⟩:=ZI.form;have HO:=ae ZI;have e1:(mw l).length<=n:=by rw [mw,List.length_drop,aa en];omega
 obtain ⟨m,em⟩:∃ m,Hid ((mw l).length=m):=⟨_,ae rfl⟩;rw [aa em] at hc HO e1;have hi:((j+1:Nat):Int)-1=(j:Int):=by omega
 have hi2:(j:Int)<((j+1:Nat):Int):=by omega
 go_wp2;go_ret;exact ⟨_,_,_,rfl,em,e1,HO,bf⟩
theorem pY {ops:Array Oper} {rest:List Oper} {o:Oper} {a:Act} {Q:Exit->Act->World->Prop} (jw:o.guard=none) (s x:Operand)
  (ho:o.op=.call { callee:=.builtin .append,args:=#[s,x],argTypes:=#[39,39] })
  (B:Nat) (v:Value) (ls:List (List Int)) (l:List Int) (k:Nat) (ek:Hid (ls.length=k)) (hs:a.eval s=v) (bj:TN B w v ls) (g:Nat) (P:Value) (hx:a.eval x=.slice (some ⟨g,0,none⟩) 1 1) (mF:TB w P l) (dR:w.cell? ⟨g,0,none⟩=some P)
  (hk:k<4194304) (hB:B<=w.heap.size)
  (h:∀ p' c' w',TN B w' (.slice p' (k+1) c') (ls++[l])->w.grownBy w' v.ownBlock->Fr [22] w w'->wpList prog ops Q rest (a.put o.dst (.slice p' (k+1) c')) w'):wpList prog ops Q (o::rest) a w:=by
 obtain ⟨i,hi,mX,ik,jv⟩:=info_parts Tryz.infoSl;have ht:=bj.gS;obtain ⟨rs,h1,h2,h3,h4⟩:=bj;have GS:P.oneCell'=true:=by
  obtain ⟨_,_,rfl⟩:=mF.ew
  rfl
 rw [aa ek] at h3;refine gI jw s x 39 ho B 22 i _ 1 24 underlying39 hi mX ik jv rfl (by decide) v _ _ hs h3 g 1 1 [P] hx rfl (fun j u hu=>by
  have e:j=0:=by have:=(aJ.1 hu).1;simpa using this
  subst e;simp at hu;subst hu;exact dR) (fun u hu=>by simp at hu;rw [hu];exact GS) (by unfold maxLen;omega) (by omega) hB ?_
 intro v' w' dN hg _;have hf:Fr [22] w w':=Fr.grown hg fun b hb=>by obtain ⟨cur,hc⟩:=ht b hb;exact ⟨cur,_,hc,by simp⟩
 have sn:TN B w' v' (ls++[l]):=RT.snoc h1 h2 h4 (fun y c hy=>by obtain ⟨P',e,h5⟩:=hy;exact ⟨P',e,h5.fr hf (by decide)⟩) ⟨P,rfl,mF⟩ rfl (by rw [aa ek];exact dN);obtain ⟨p',c',rfl,-⟩:=RT.form sn;rw [List.length_append,aa ek] at sn ⊢;exact h p' c' w' sn hg hf
theorem TN.fr {T:List TypeId} {w':World} {ls:List (List Int)} (h:TN B w v ls) (hf:Fr T w w') (ht:5∉T/\22∉T):TN B w' v ls:=
 RT.fr h hf ht.2 (fun y c hy=>by obtain ⟨P',e,h5⟩:=hy;exact ⟨P',e,h5.fr hf ht.1⟩)
def PPB (ns:List aA):Prop:=∀ nd∈ns,vp nd.path=true/\bQ nd.path/\nd.path.length<=1048576
theorem pF (e g x t:Int) (p:Option Addr) (n c:Nat) (q:Option Addr) (m d:Nat) (ns:List aA) (em:Hid (ns.length=m)) (pp:Option Addr) (np cp:Nat) (P:List Int) (eP:Hid (P.length=np)) (B:Nat) (w:World) (hN:Hid (jh B w (.slice q m d) ns)) (hP:Hid (Rd w (.slice pp np cp) P)) (bP:bQ P) (XE:Hid (PPB ns)) (hm:m<=1048576) (L:List (List Int)) (eL:Hid (gv ns P=L)) :
  Calls prog 109 #[cK e g x t (.slice p n c) (.slice q m d),.slice pp np cp] w fun r w'=>∃ p' c',r=.returned (.slice p' L.length c')/\TN w.heap.size w' (.slice p' L.length c') L/\Below w.heap.size w w':=by
 obtain ⟨W0,cA,b0,z0,C0⟩:=bg w (.int .u64 e) (.int .u64 g) (.int .u64 x) (.int .i64 t) (.slice p n c) (.slice q m d);have HC:=ae fun (v:World) (hv:Below W0.heap.size W0 v)=>ag (C0.below hv) (ag (aR.fr (aa hN) (Fr.below (T:=[]) (ai b0 hv)) (by decide)) (ag (hP.below (ai b0 hv)) (ai b0 hv)));have BP:=ae bP;have Z0:=ae z0;clear b0 C0 bP z0;go_enter func109,ntmps109;go_wp2;rw [<-cA];clear cA
 go_loopw [5,6] (fun ov iv wr=>∃ (k:Nat) (M:List (List Int)),k<=m/\iv=.int .i64 k/\Hid (gv (ns.take k) P=M)/\Hid (TN W0.heap.size wr ov M)/\Hid (Below W0.heap.size W0 wr)) (fun _ iv _=>m-(intOf iv).toNat)
 case atStart=>exact ⟨0,[],Nat.zero_le _,rfl,(by show _=_;simp [gv]),RT.nil _ _ _ _ _,Below.refl _ _⟩
 case round =>(
 obtain ⟨k,M,hk,rfl,hM,hT,aT⟩:=hrel;obtain ⟨pv,cv,rfl,-,-,-⟩:=RT.form hT;have zr:=aT.size;have hml:M.length<=k:=by have h1:=yi (ns.take k) P;have h2:=List.length_take_le k ns;rw [aa hM] at h1;omega
 obtain ⟨CB,HN,HP,bw⟩:=aa HC _ aT;have k5:=CB.1.1 5 _ rfl;have BW:=ae bw;clear CB HP bw;by_cases br:k<m;{
 have bt:(k:Int)<(m:Int):=by omega
 obtain ⟨nd,hx⟩:∃ x,ns[k]?=some x:=⟨_,aE (by rw [aa em];exact br)⟩;have jQ:=ae (DW (P:=P) hx);have HX:=ae hx;obtain ⟨gn,Pv,Vv,Hv,Uv,eq,-,-,c0,-,-,-,-,-,-,-,tP,-,-,-,-⟩:=aR.at HN hx;subst eq;obtain ⟨qI,fM,Fc⟩:=aa XE nd (aF hx);obtain ⟨nP,eN⟩:∃ nP,Hid (nd.path.length=nP):=⟨_,ae rfl⟩;obtain ⟨pP,cP,rfl⟩:=tP.ew;rw [aa eN] at c0 tP Fc;have TP:=ae tP;have HV:=ae (ag qI fM);obtain ⟨_,_,_,ec,mG,jN⟩:=tP.2.2;simp only [Value.slice.injEq] at ec;obtain ⟨rfl,rfl,rfl⟩:=ec;clear hx tP HN qI fM;go_wp2_with fail;refine (gu pP cP nP nd.path eN wr TP.1 Fc mG jN).mono ?_;rintro r w1 ⟨qq,mm,dd,rfl,Fi,Pd,yv,bf⟩;have B1:=ae (ai aT bf);obtain ⟨-,-,Jv,-⟩:=aa HC _ B1;have T1:=ae (hT.fr (Fr.below (T:=[]) bf) (by decide));have TP1:=ae (TP.fr (Fr.below (T:=[]) bf) (by decide));clear TP k5 hT aT;go_wp2_with fail;refine (jX qq pp dd cp mm np (dF nd.path) P (ae Fi) eP w1 yv Jv (oG HV.2) BP).mono ?_;rintro r w2 ⟨rfl,aS⟩;have B2:=ae (ai B1 aS);have T2:=ae (T1.fr (Fr.below (T:=[]) aS) (by decide));have TP2:=ae (TP1.fr (Fr.below (T:=[]) aS) (by decide));obtain ⟨CB,-⟩:=aa HC _ B2;have k5:=CB.1.1 5 _ rfl;have c0':=af c0 (ai bf aS);have z2:=B2.size;clear CB Jv yv Fi Pd bf aS T1 TP1 B1 c0;by_cases hq:dF nd.path=P;{
 rw [show decide (dF nd.path=P)=true by simp [hq]];have E1:=ae (by have:=aa jQ;rwa [if_pos hq,aa hM] at this:gv (ns.take (k+1)) P=M++[mw nd.path]);clear hq;go_wp2_with fail;refine (AL pP cP nP nd.path eN w2 TP2.1 HV.2 Fc (ae HV.1)).mono ?_;rintro r w3 ⟨ql,ml,dl,rfl,eml,aW2,hol,dA⟩;go_wp2_with fail;refine (dY ql dl ml (mw nd.path) eml w3 hol.rd (by omega)).mono ?_;rintro r w4 ⟨pc,cc,rfl,hoc,fO⟩;have B4:=ae (ai (ai B2 dA) fO);have T4:=ae ((T2.fr (Fr.below (T:=[]) dA) (by decide)).fr (Fr.below (T:=[]) fO) (by decide));have O4:=ae hoc.tb;have z4:=B4.size;clear hol dA fO hoc T2 B2 TP2 k5 c0';go_wp2_with (at_builtin;refine pY rfl _ _ rfl W0.heap.size (.slice pv M.length cv) M (mw nd.path) M.length (ae rfl) rfl (TN.fr (aa T4) (Fr.below (T:=[]) (ay.alloc ax _)) (by decide)) w4.heap.size (.slice pc ml cc) rfl (O4.fr (Fr.below (T:=[]) (ay.alloc ax _)) (by decide)) (by simp) (by omega) (by simp;omega) ?_);intro p' c' w5 T5 sO f5;have bA:Below w4.heap.size w4 (w4.alloc (.cells #[.slice pc ml cc] 22)):=ay.alloc ax _;have B5:=ae ((ai (aa B4) bA).grown sO (by simp;omega) (fun b' e=>(T4.lt b' e).1));have T5':=ae T5;clear bA sO f5 T5;go_wp2;go_roundw
 case rel=>exact ⟨k+1,_,by omega,by go_num,E1,T5',B5⟩
 case measure=>simp [intOf];omega}
 {
 rw [show decide (dF nd.path=P)=false by simp [hq]];have E1:=ae (by have:=aa jQ;rwa [if_neg hq,aa hM] at this:gv (ns.take (k+1)) P=M);clear hq;go_wp2;go_roundw
 case rel=>exact ⟨k+1,M,by omega,by go_num,E1,T2,B2⟩
 case measure=>simp [intOf];omega}}
 {
 have bt:¬ (k:Int)<(m:Int):=by omega
 have e1:=aa hM;rw [List.take_of_length_le (by rw [aa em];omega),aa eL] at e1;subst e1;go_wp2;go_ret;exact ⟨_,_,rfl,RT.mono hT (by have:=aa Z0;omega),BW⟩})
end Go.Proofs.YtcfcafeciggjeaaGreatDoor
