import Derived.Test.YtcfcafeciggjeaaGreatDoorK33
namespace Go.Proofs.YtcfcafeciggjeaaGreatDoor
set_option maxHeartbeats 3200000
set_option linter.unusedVariables false
set_option linter.unusedSimpArgs false
set_option maxRecDepth 100000
open Go.ChangeShapes Go.WideShapes Go.ChangeAt Go.RowKit Go.Maps Go.Proofs.Tryz
variable {D:SD} {P:List Int} {b bn bs:Nat} {w w0:World}
theorem Tg (hl:P.length<=1048577):keyOf prog 9 (.string (aY P))=some (bL P):=by
 rw [WideMaps.keyOf_string_mk underlying9 (by rw [cW];unfold maxLen;omega),iJ]
theorem PS.aa4 {SB NB HB UB:List Nat} (h:PS w0 w b bs bn D SB NB HB UB) {i g:Nat} {nd:aA} (hi:D.ns[i]?=some nd) (hg:NB[i]?=some g) (hl:nd.path.length<=1048577):(Instr.lookup 130 (.map (some bn)) (.string (aY nd.path)) true).run prog w=.ok (.tuple #[.pointer (some ⟨g,0,none⟩),.bool true]) w:=by
 obtain ⟨M,n,o,-,m,-⟩:=h.mu;obtain ⟨v,ps,hr,hv⟩:=o.look_ok lD underlying130 (iD w) (zd:=.nil) (zp:=[]) rfl (Tg hl);have hp:(bL nd.path,g)∈List.zipWith (fun (nd:aA) g=>(bL nd.path,g)) D.ns NB:=aF (i:=i) (by rw [List.getElem?_zipWith,hi,hg]);rw [m.at' _ hp] at hv;obtain rfl:=fS hv;rw [hr,(m.hs _).2 ⟨_,hp,rfl⟩]
theorem PS.S8 {SB NB HB UB:List Nat} (h:PS w0 w b bs bn D SB NB HB UB) (lG:ga D.ns P=none) (hB:bQ P) (uA:∀ nd∈D.ns,bQ nd.path) (hl:P.length<=1048577):(Instr.lookup 130 (.map (some bn)) (.string (aY P)) true).run prog w=.ok (.tuple #[.pointer none,.bool false]) w:=by
 obtain ⟨M,n,o,-,m,-⟩:=h.mu;obtain ⟨v,ps,hr,hv⟩:=o.look_ok lD underlying130 (iD w) (zd:=.nil) (zp:=[]) rfl (Tg hl);have hh:Maps.has M (bL P)=false:=by rw [Bool.eq_false_iff];intro e;obtain ⟨p,hp,e2⟩:=(m.hs _).1 e;obtain ⟨i,nd,y,hx,hy,rfl⟩:=gm hp;exact uY lG nd (aF hx) (iM (uA nd (aF hx)) hB e2)
 rw [Maps.atKey_of_not_has hh] at hv;obtain rfl:=ll hv;rw [hr,hh]






def Ov (K:Int):Bool:=(K==5||(K==6||(K==7||(K==8||(K==9||(K==11||K==13))))))
theorem Cw (k:Nat) (h1:1<=k) (h2:k<=13) (w:World):Calls prog 166 #[.int .i64 (k:Int)] w fun r w'=>r=.returned (.bool (Ov k))/\w'=w:=by
 have h:k=1\/k=2\/k=3\/k=4\/k=5\/k=6\/k=7\/k=8\/k=9\/k=10\/k=11\/k=12\/k=13:=by omega
 clear h1 h2;rcases h with rfl | rfl | rfl | rfl | rfl | rfl | rfl | rfl | rfl | rfl | rfl | rfl | rfl
 all_goals
  go_enter func166,ntmps166;go_wp2;go_ret;exact ⟨rfl,rfl⟩
def oF (D:SD) (K:Int) (P:List Int):Int:=if kq K P=true then 0 else if vp P=false then 4 else if Ov K=true/\(ga D.ns P).isNone=true then 5 else 0
theorem y8 (w:World) (b bs bn:Nat) (D:SD) (SB NB HB UB:List Nat) (h:Hid (PS w0 w b bs bn D SB NB HB UB)) (uA:Hid (∀ nd∈D.ns,bQ nd.path)) (k:Nat) (h1:1<=k) (h2:k<=13) (S F E G:Int) (pp:Option Addr) (np cp:Nat) (pq:Option Addr) (nv cv:Nat) (P:List Int) (eP:Hid (P.length=np)) (hP:Hid (Rd w (.slice pp np cp) P)) (hB:Hid (bQ P)) (hp:np<=1048576) (mG:np<=cp) (jN:Hid (cp<=maxLen)) (hm:Hid (∃ m,w.cell? ⟨2,0,none⟩=some (.int .i64 m))) (C:Int) (eC:Hid (oF D k P=C)) :
  Calls prog 139 #[.pointer (some ⟨b,0,none⟩),tJ k S (.slice pp np cp) F (.slice pq nv cv) E G] w fun r w'=>r=.returned (yR C)/\Below w.heap.size w w':=by
 obtain ⟨X,hX,bX,zX,CX,-⟩:=aj w #[.int .i64 (k:Int),.int .u64 S,.slice pp np cp,.int .i64 F,.slice pq nv cv,.int .u64 E,.int .u64 G] 29;have hcv:=fun (ob:Obj)=>eG eP (hP.below ((Below.refl w.heap.size w).alloc ax ob));have jJ:((aY P).toList==(aY [47]).toList)=decide (P=[47]):=xg (aa hB) (by intro y hy;simp at hy;omega);rw [show (aY [47]).toList=[47] from dE [47]] at jJ;have e:=aa eC;unfold oF kq at e;obtain ⟨st,Il⟩:∃ st,Hid (aY P=st):=⟨_,ae rfl⟩;rw [aa Il] at jJ;simp only [aa Il] at hcv;by_cases D5:(k:Int)=13/\P=[47];{
 have e13:((k:Int)==13)=true:=by simp [D5.1]
 have hr:(st.toList==[47])=true:=by rw [jJ];simp [D5.2]
 have e':C=0:=by rw [<-e];simp [D5.1,D5.2]
 subst e';clear e D5 jJ;go_enter func139,ntmps139;go_wp2;go_ret;exact ⟨rfl,ay.alloc ax _⟩};{
 have e1:(if vp P=false then 4 else if Ov k=true/\(ga D.ns P).isNone=true then 5 else 0)=C:=by
  rw [<-e];have:(decide ((k:Int)=13)&&decide (P=[47]))=false:=by simpa using D5
  rw [this];simp
 have E1:=ae e1;have Z9:∃ t,Hid (((k:Int)==13)=t/\(t=true->(st.toList==[47])=false)):=⟨_,ae ⟨rfl,fun ht=>by rw [jJ];simp at ht;simpa using fun hP=>D5 ⟨by omega,hP⟩⟩⟩
 obtain ⟨t,ht⟩:=Z9;obtain ⟨B,eB⟩:∃ B,Hid (vp P=B):=⟨_,ae rfl⟩;clear e e1 D5 jJ;go_enter func139,ntmps139;have STEP:True:=trivial;cases t
 all_goals
  obtain ⟨e13,cF⟩:=aa ht
  try have aU7:=cF rfl
  clear cF;go_wp2_with fail;rw [<-hX];refine (AX pp cp np P eP X (hP.below bX) hB hp mG jN (hm.imp fun m hm=>af hm bX) B eB).mono ?_;rintro r w2 ⟨rfl,aS⟩;have WG:=CX.bc (w':=w2) (aS.block _ (by omega));have B2:=ae (ai bX aS);have e:=aa E1;rw [aa eB] at e;clear aS hcv e13;cases B;{
 have e':C=4:=by rw [<-e];rfl
 subst e';clear e;go_wp2;go_ret;exact ⟨rfl,B2⟩};{
 have e2:(if Ov k=true/\(ga D.ns P).isNone=true then 5 else 0)=C:=by simpa using e
 have E2:=ae e2;clear e e2;go_wp2_with fail;refine lZ (by kernel_rfl) (fun W eW=>?_);have bW:Below w.heap.size w W:=by rw [eW];exact B2.drew
 have PW:=ae (h.below bW);obtain ⟨-,-,-,-,-,k5,-⟩:=PW.gw;have CW:=WG.bc (w':=W) (by rw [eW];rfl);have c0:=CW.1 0 _ rfl;have c2:=CW.1 2 _ rfl;have hcv:=eG eP (hP.below bW);rw [aa Il] at hcv;clear eW CW WG;cases hF:ga D.ns P with
 | none=>
  have du:=PW.S8 hF (aa hB) (aa uA) (by rw [aa eP];omega);rw [aa Il] at du;have e:=aa E2;rw [hF] at e;clear hF
  repeat still_step
  refine wpStill_nil ?_;go_wp2_with fail;refine (Cw k h1 h2 W).mono ?_;rintro r w5 ⟨rfl,rfl⟩;obtain ⟨T,eT⟩:=aN (Ov k);rw [eT] at e ⊢;clear eT;cases T;{
 have e':C=0:=by rw [<-e];simp
 subst e';clear e;go_wp2;go_ret;exact ⟨rfl,bW⟩};{
 have e':C=5:=by rw [<-e];simp
 subst e';clear e;go_wp2;go_ret;exact ⟨rfl,bW⟩}
 | some nd=>
  obtain ⟨rfl,i,hi⟩:=uX hF;obtain ⟨g1,C5,u1,q1,-,-,hN⟩:=PW.nat hi;have du:=PW.aa4 hi q1 (by rw [aa eP];omega);rw [aa Il] at du;have e:=aa E2;rw [hF] at e;have e':C=0:=by rw [<-e];simp
  subst e';clear hF hi q1 hN e
  repeat still_step
  refine wpStill_nil ?_;go_wp2_with fail;refine (Cw k h1 h2 W).mono ?_;rintro r w5 ⟨rfl,rfl⟩;obtain ⟨T,eT⟩:=aN (Ov k);rw [eT];clear eT;cases T;{go_wp2;go_ret;exact ⟨rfl,bW⟩};{go_wp2;go_ret;exact ⟨rfl,bW⟩}}}
end Go.Proofs.YtcfcafeciggjeaaGreatDoor
