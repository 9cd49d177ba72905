import Derived.Test.YtcfcafeciggjeaaGreatDoorAI1
import Derived.Test.YtcfcafeciggjeaaGreatDoorK38
namespace Go.Proofs.YtcfcafeciggjeaaGreatDoor
set_option maxHeartbeats 6400000
set_option linter.unusedVariables false
set_option linter.unusedSimpArgs false
set_option maxRecDepth 100000
open Go.ChangeShapes Go.WideShapes Go.ChangeAt Go.RowKit Go.Maps Go.Proofs.Tryz
def X9 (C:Int) (P:Prop):Prop:=C=0->P
def WD (w0 w:World) (b bs bn:Nat) (D D':SD) (R:RP) (C:Int) (r:Ending) (w':World):Prop:=∃ SB NB HB UB v,r=.returned (.tuple #[v,yR C])/\Fr T3 w w'/\PS w0 w' b bs bn (if C=0 then D' else D) SB NB HB UB/\zt w.heap.size w' v (if C=0 then R else mR)
theorem vM {fn:Func} {R:Ending->World->Prop} {a:Act} {Z:World} {z:Nat} {o0 o1 o2 o3 o4 o5 o6 o7:Value} (hR:Hid (RX Z z [o0,o1,o2,o3,o4,o5,o6,o7])) (hf:fn.results=#[.cell 4 41,.tmp 5]) (ha:a.tmps.getD 4 undef=.pointer (some ⟨z,0,none⟩)) (E:Value) (hE:a.tmps.getD 5 undef=E) (hd:a.defers=[]) {v0 v1 v2 v3 v4 v5 v6 v7:Value} (hQ:R (.returned (.tuple #[.agg #[v0,v1,v2,v3,v4,v5,v6,v7],E])) (fk Z z v0 v1 v2 v3 v4 v5 v6 v7)):bodyPost prog fn R .ret a (fk Z z v0 v1 v2 v3 v4 v5 v6 v7):=by
 obtain ⟨q0,q1,q2,q3,q4,q5,q6,q7,-⟩:=(hR.put v0 v1 v2 v3 v4 v5 v6 v7).1.cells;generalize fk Z z v0 v1 v2 v3 v4 v5 v6 v7=W at *;refine bodyPost_ret (v:=.tuple #[.agg #[v0,v1,v2,v3,v4,v5,v6,v7],E]) ?_ hd hQ;have MV:=ha;have hE':=hE;simp only [Array.getD_eq_getD_getElem?] at MV hE';simp [results,hf,go_sem,MV,hE',q0,q1,q2,q3,q4,q5,q6,q7]
theorem LJ {w0:World} (w:World) (b bs bn:Nat) (D D':SD) (SB NB HB UB:List Nat) (h:Hid (PS w0 w b bs bn D SB NB HB UB)) (K S F E G:Int) (pp:Option Addr) (np cp:Nat) (pq:Option Addr) (nv cv:Nat) (C0 C1 C:Int) (eC:Hid ((if C0=0 then C1 else C0)=C)) (R:RP) (ty:TypeId) (v:Value) (fC fA:FuncId) (vC vA:Value)
  (ac2:Hid (∀ w',Below w.heap.size w w'->Calls prog 93 #[.pointer (some ⟨b,0,none⟩),tJ K S (.slice pp np cp) F (.slice pq nv cv) E G] w' fun r w''=>r=.returned (yR C0)/\Below w'.heap.size w' w''))
  (ZC:Hid (X9 C0 (∀ w',Below w.heap.size w w'->Calls prog 94 #[tJ K S (.slice pp np cp) F (.slice pq nv cv) E G] w' fun r w''=>r=.returned (.iface ty v)/\Below w'.heap.size w' w'')))
  (ZP : ∀ w, (Go.method 440 ty v "loop.example/s02132/impl.check").run prog w = .ok (fC, vC) w) (ZQ : ∀ w, (Go.method 440 ty v "loop.example/s02132/impl.act").run prog w = .ok (fA, vA) w)
  (Ur:∀ vs w,(callFunc fC vs).run prog w=.ok (.enter fC vs) w) (KP:∀ vs w,(callFunc fA vs).run prog w=.ok (.enter fA vs) w)
  (ac3:Hid (X9 C0 (∀ w',Below w.heap.size w w'->Calls prog fC #[vC,.pointer (some ⟨b,0,none⟩)] w' fun r w''=>r=.returned (yR C1)/\Below w'.heap.size w' w'')))
  (ad2:Hid (X9 C0 (X9 C1 (∀ w',Below w.heap.size w w'->Calls prog fA #[vA,.pointer (some ⟨b,0,none⟩)] w' (Mp w0 w' b bs bn D' R))))) :
  Calls prog 36 #[.pointer (some ⟨b,0,none⟩),tJ K S (.slice pp np cp) F (.slice pq nv cv) E G] w (WD w0 w b bs bn D D' R C):=by
 obtain ⟨X,hX,bX,zX,CX,gX⟩:=aj w #[.int .i64 K,.int .u64 S,.slice pp np cp,.int .i64 F,.slice pq nv cv,.int .u64 E,.int .u64 G] 29;obtain ⟨Y,hY,bY,zY,RY⟩:=gP X (.int .i64 0) (.int .u64 0) (.int .u64 0) (.int .u64 0) (.int .i64 0) (.slice none 0 0) (.slice none 0 0) (.slice none 0 0);rw [zX] at RY;have bW:=ai bX bY;have HA:=ae (fun (u:World) (hu:Below Y.heap.size Y u)=>ag (ai bW hu) (ag ((CX.below (by omega) bY).below (by omega) hu) (RY.below hu)));have BY0:=ae (Below.refl Y.heap.size Y);have HC:=ae (ag ZP (ag ZQ (ag Ur KP)));have WL:=h.be.size;have HZ:=ae zY;go_enter func36,ntmps36;go_wp2_with fail;rw [<-hX,<-hY];refine (aa ac2 Y (aa HA Y BY0).1).mono ?_;rintro r w1 ⟨rfl,bf⟩;obtain ⟨b1,Q6,R1⟩:=aa HA w1 bf;have o0:=Q6.1 0 _ rfl;have o1:=Q6.1 1 _ rfl;have o2:=Q6.1 2 _ rfl;have o3:=Q6.1 3 _ rfl;have o4:=Q6.1 4 _ rfl;have o5:=Q6.1 5 _ rfl;have o6:=Q6.1 6 _ rfl;have B1:=ae bf;have kn:=ae b1;have HR1:=ae R1;by_cases Lh:C0=0;{
 have e0:yR C0=.nilIface:=by rw [Lh];rfl
 rw [e0];have H0:=ae Lh;have El:C1=C:=by have:=aa eC;rwa [if_pos Lh] at this
 subst El;go_wp2_with fail;refine (aa ZC H0 w1 kn).mono ?_;rintro r w2 ⟨rfl,aS⟩;have B2:=ae (ai B1 aS);have km:=ae (ai kn aS);obtain ⟨mC,mA,qC,qA⟩:=aa HC;go_wp2_with fail;refine (aa ac3 H0 w2 km).mono ?_;rintro r w3 ⟨rfl,dA⟩;have B3:=ae (ai B2 dA);have jy:=ae (ai km dA);by_cases Rt:C1=0;{
 have e1:yR C1=.nilIface:=by rw [Rt];rfl
 rw [e1];have H1:=ae Rt;go_wp2_with fail;refine (aa ad2 H0 H1 w3 jy).mono ?_;rintro r w4 ⟨QK,QM,Cb,QF,v4,P4,F4,rfl,L4⟩;have L4':=L4;obtain ⟨p1,c1,p2,c2,p3,c3,A1,A2,A3,rfl,-⟩:=L4';have R4:=(aa HA w3 B3).2.2.fr F4 (by decide);obtain ⟨r0,r1,r2,r3,r4,r5,r6,r7,rf⟩:=R4.cells;have QS:=ae R4;have Ju:=ae (ag P4 (ag F4 L4));obtain ⟨n1,Vr⟩:=aN R.vt.length;obtain ⟨n2,Vq⟩:=aN R.qh.length;obtain ⟨n3,Rz⟩:=aN R.tT.length;rw [Vr,Vq,Rz] at Ju ⊢;go_wp2;have z3:=jy.size;have z4:=Ju.2.1.1;have zz:=aa HZ;have zB:=B3.size;refine vM QS (by kernel_rfl) rfl .nilIface rfl rfl ⟨QK,QM,Cb,QF,_,by rw [aa H1];rfl,((Fr.below (T:=T3) (aa jy)).trans Ju.2.1).low ((aU _ (w.heap.size+1) _ _ _ _ _ _ _ _).mono (by omega)),?_,?_⟩;{rw [if_pos (aa H1)];exact PS.rep Ju.1 QS (by omega) _ _ _ _ _ _ _ _};{rw [if_pos (aa H1)];exact (Ju.2.2.aM (fun z h1 _=>l9 (by omega)) (aU _ _ _ _ _ _ _ _ _ _).size).mono (by omega)}};{
 have e1:yR C1=.iface 77 (.agg #[.int .i64 C1]):=by rw [yR,if_neg Rt]
 rw [e1];have H1:=ae Rt;obtain ⟨-,-,R3⟩:=aa HA w3 B3;obtain ⟨r0,r1,r2,r3,r4,r5,r6,r7,rf⟩:=R3.cells;have Jt:=ae R3;go_wp2;have z3:=jy.size;refine vM Jt (by kernel_rfl) rfl (.iface 77 (.agg #[.int .i64 C1])) rfl rfl ⟨SB,NB,HB,UB,_,by rw [yR,if_neg (aa H1)],(Fr.below (T:=T3) (aa jy)).low ((aU _ (w.heap.size+1) _ _ _ _ _ _ _ _).mono (by omega)),?_,?_⟩;{rw [if_neg (aa H1)];exact PS.rep (h.below jy) Jt (by omega) _ _ _ _ _ _ _ _};{rw [if_neg (aa H1)];exact zt.num _ _ _ _ _ _ _}}};{
 have eV:yR C0=.iface 77 (.agg #[.int .i64 C0]):=by rw [yR,if_neg Lh]
 rw [eV];have H1:=ae Lh;have El:C0=C:=by have:=aa eC;rwa [if_neg Lh] at this
 subst El;obtain ⟨r0,r1,r2,r3,r4,r5,r6,r7,rf⟩:=HR1.cells;go_wp2;have z3:=kn.size;refine vM HR1 (by kernel_rfl) rfl (.iface 77 (.agg #[.int .i64 C0])) rfl rfl ⟨SB,NB,HB,UB,_,by rw [yR,if_neg (aa H1)],(Fr.below (T:=T3) (aa kn)).low ((aU _ (w.heap.size+1) _ _ _ _ _ _ _ _).mono (by omega)),?_,?_⟩;{rw [if_neg (aa H1)];exact PS.rep (h.below kn) HR1 (by omega) _ _ _ _ _ _ _ _};{rw [if_neg (aa H1)];exact zt.num _ _ _ _ _ _ _}}
end Go.Proofs.YtcfcafeciggjeaaGreatDoor
