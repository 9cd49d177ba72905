import Derived.Test.YtcfcafeciggjeaaGreatDoorK34
import Derived.Test.YtcfcafeciggjeaaGreatDoorK35
namespace Go.Proofs.YtcfcafeciggjeaaGreatDoor
set_option maxHeartbeats 6400000
set_option linter.all false
set_option maxRecDepth 100000
open Go.ChangeShapes Go.WideShapes Go.ChangeAt Go.RowKit Go.Maps
variable {A:List Lf} {B b bn bs c:Nat} {D:SD} {R:RP} {p:Option Addr} {v:Value} {w w' w0:World} {xs:List (List Int)}
theorem XF.ZM (h:XF w v xs A) (hr:∀ b,v.ownBlock=some b->w'.heap[b]?=w.heap[b]?):XF w' v xs A:=by
 obtain ⟨p,c,Ls,rfl,h2,h3,h4⟩:=h;refine ⟨p,c,Ls,rfl,h2,h3,?_⟩;rcases h4 with h4 | ⟨b,o,rfl,h6⟩;{exact .inl h4};{refine .inr ⟨b,o,rfl,fun i x l hx hl=>?_⟩;obtain ⟨p',c',q1,q2⟩:=h6 i x l hx hl;exact ⟨p',c',(ai (hr b rfl) _).trans q1,q2⟩}
theorem YF.cX (h:YF w v xs) (hl:XF w v xs A) (hr:∀ b,v.ownBlock=some b->w'.heap[b]?=w.heap[b]?) (hk:∀ a∈A,w'.heap[a.b]?=w.heap[a.b]?):YF w' v xs:=by
 obtain ⟨p,c,rfl,h⟩:=h;obtain ⟨p2,c2,Ls,e2,h2,h3,h4⟩:=hl;simp only [Value.slice.injEq,true_and] at e2;obtain ⟨rfl,rfl⟩:=e2;refine ⟨p,c,rfl,?_⟩;rcases h with h | ⟨b,o,rfl,h⟩;{exact .inl h};{refine .inr ⟨b,o,rfl,fun i x hx=>?_⟩;obtain ⟨u,q1,q2⟩:=h i x hx;rcases h4 with h0 | ⟨b',o',e5,h6⟩;{rw [h0] at hx;simp at hx};{obtain ⟨rfl,rfl⟩:=jf e5;obtain ⟨l,hl⟩:∃ l,Ls[i]?=some l:=⟨_,aK (by have:=(aN.1 hx).1;omega)⟩;obtain ⟨p',c',r1,r2⟩:=h6 i x l hx hl;rw [Nat.mul_one,q1] at r1;cases r1;exact ⟨_,(ai (hr b rfl) _).trans q1,q2.cX r2 (fun a ha=>hk a (by rw [h3];exact List.mem_flatten.2 ⟨l,aF hl,ha⟩))⟩}}
def An (B:Nat) (w:World) (v:Value) (R:RP):Prop:=∃ (p1:Option Addr) (c1:Nat) (p2:Option Addr) (c2:Nat) (p3:Option Addr) (c3:Nat) (A1 A2 A3:List Lf),v=gP R.k R.i R.e R.g R.n (.S p1 R.vK.length c1) (.S p2 R.pY.length c2) (.S p3 R.qm.length c3) ∧
 (Rd w (.S p1 R.vK.length c1) R.vK/\JI (.S p1 R.vK.length c1) R.vK A1)/\(YF w (.S p2 R.pY.length c2) R.pY/\XF w (.S p2 R.pY.length c2) R.pY A2/\∀ b,(Value.slice p2 R.pY.length c2).ownBlock=some b->B<=b/\b<w.heap.size) ∧
 (jJ w (.S p3 R.qm.length c3) R.qm/\Ek w (.S p3 R.qm.length c3) R.qm A3)/\lx B w (A1++(A2++A3))
theorem An.aU (h:An B w v R) (hk:∀ b,B<=b->b<w.heap.size->w'.heap[b]?=w.heap[b]?) (hz:w.heap.size<=w'.heap.size):An B w' v R:=by
 obtain ⟨p1,c1,p2,c2,p3,c3,A1,A2,A3,e,⟨h1,h2⟩,⟨h3,h4,h5⟩,⟨h6,h7⟩,h8⟩:=h;have k8:∀ a∈A1++(A2++A3),w'.heap[a.b]?=w.heap[a.b]?:=fun a ha=>hk a.b (h8.lo a ha) (h8.vE.lt ha);have k1:∀ a∈A1,w'.heap[a.b]?=w.heap[a.b]?:=fun a ha=>k8 a (by simp [ha]);have k2:∀ a∈A2,w'.heap[a.b]?=w.heap[a.b]?:=fun a ha=>k8 a (by simp [ha]);have k3:∀ a∈A3,w'.heap[a.b]?=w.heap[a.b]?:=fun a ha=>k8 a (by simp [ha]);have kr:∀ b,(Value.slice p2 R.pY.length c2).ownBlock=some b->w'.heap[b]?=w.heap[b]?:=fun b hb=>hk b (h5 b hb).1 (h5 b hb).2;exact ⟨p1,c1,p2,c2,p3,c3,A1,A2,A3,e,⟨h1.cX h2 k1,h2⟩,⟨h3.cX h4 kr k2,h4.ZM kr,fun b hb=>⟨(h5 b hb).1,Nat.lt_of_lt_of_le (h5 b hb).2 hz⟩⟩,⟨h6.cX h7 k3,Ek.aU h7 k3⟩,h8.aU k8⟩
theorem An.mono {B':Nat} (h:An B w v R) (hB:B'<=B):An B' w v R:=by
 obtain ⟨p1,c1,p2,c2,p3,c3,A1,A2,A3,e,h1,⟨h3,h4,h5⟩,h6,h8⟩:=h;exact ⟨p1,c1,p2,c2,p3,c3,A1,A2,A3,e,h1,⟨h3,h4,fun b hb=>⟨Nat.le_trans hB (h5 b hb).1,(h5 b hb).2⟩⟩,h6,h8.mono hB⟩
theorem Te (w:World):Rd w (.S none 0 0) []:=⟨none,0,rfl,.inl rfl⟩
theorem Vn:JI (.S none 0 0) [] []:=⟨none,0,[],rfl,rfl,rfl,.inl rfl⟩
theorem Vc (w:World):YF w (.S none 0 0) []:=⟨none,0,rfl,.inl rfl⟩
theorem Vl (w:World):XF w (.S none 0 0) [] []:=⟨none,0,[],rfl,rfl,rfl,.inl rfl⟩
theorem Vd (w:World):jJ w (.S none 0 0) []:=⟨none,0,rfl,.inl rfl⟩
theorem Vm (w:World):Ek w (.S none 0 0) [] []:=⟨none,0,[],rfl,rfl,rfl,.inl rfl⟩
theorem An.num (B:Nat) (w:World) (k i e g n:Int):An B w (rpn ⟨k,i,e,g,n,[],[],[]⟩) ⟨k,i,e,g,n,[],[],[]⟩:=
 ⟨none,0,none,0,none,0,[],[],[],rfl,⟨Te w,Vn⟩,⟨Vc w,Vl w,fun b hb=>by cases hb⟩,⟨Vd w,Vm w⟩,lx.nil _ _⟩
def JN (w0 w:World) (b bs bn:Nat) (D:SD) (R:RP) (r:Ending) (w':World):Prop:=∃ SB NB HB UB v,PS w0 w' b bs bn D SB NB HB UB/\Fr T3 w w'/\r=.returned v/\An w.heap.size w' v R
theorem jU.r {SB NB HB UB:List Nat} {k i e g n:Int} {r:Ending} (h:jU w0 w b bs bn D SB NB HB UB ⟨k,i,e,g,n,[],[],[]⟩ r w'):JN w0 w b bs bn D ⟨k,i,e,g,n,[],[],[]⟩ r w':=⟨SB,NB,HB,UB,_,h.1,h.2.1,h.2.2,An.num _ _ _ _ _ _ _⟩
theorem SG.r {SB NB HB UB:List Nat} {n:Nat} {L:List (List Int)} (en:L.length=n) {r:Ending} (h:SG w0 w b bs bn D SB NB HB UB n L r w'):JN w0 w b bs bn D { rp0 with pY:=L.map lG } r w':=by
 obtain ⟨p,c,Ls,h1,h2,h3,h4⟩:=h;obtain ⟨q1,q2,q3,q4⟩:=h4.pY;have el:(L.map lG).length=n:=by rw [List.length_map];exact en
 refine ⟨SB,NB,HB,UB,_,h1,h2,h3,none,0,p,c,none,0,[],_,[],by simp only [el];rfl,⟨Te _,Vn⟩,⟨by rw [el];exact q1,by rw [el];exact q2,by rw [el];exact fun b hb=>⟨by have:=(q4 b hb).1;omega,(q4 b hb).2⟩⟩,⟨Vd _,Vm _⟩,by rw [List.append_nil,List.nil_append];exact q3.mono (by omega)⟩
theorem ZA {SB NB HB UB:List Nat} {es:List Ev} {n:Nat} (en:es.length=n) {r:Ending} (h1:PS w0 w' b bs bn D SB NB HB UB) (h2:Fr T3 w w') (h3:r=.returned (gP 0 0 0 0 0 (.S none 0 0) (.S none 0 0) (.S p n c))) (h4:jJ w' (.S p n c) es) (h5:Ek w' (.S p n c) es A) (h6:lx w.heap.size w' A):JN w0 w b bs bn D { rp0 with qm:=es } r w':=by
 subst en;exact ⟨SB,NB,HB,UB,_,h1,h2,h3,none,0,none,0,p,c,[],[],A,rfl,⟨Te _,Vn⟩,⟨Vc _,Vl _,fun b hb=>by cases hb⟩,⟨h4,h5⟩,by simpa using h6⟩
theorem aS8 {w5:World} {SB NB HB UB:List Nat} {o e g m:Int} {V:List Int} {n:Nat} (en:V.length=n) {r:Ending} (h1:PS w0 w' b bs bn D SB NB HB UB) (h2:Fr T3 w w') (h3:r=.returned (gP 0 o e g m (.S p n c) (.S none 0 0) (.S none 0 0))) (h4:Own (w.heap.size+2) w5 (.S p n c) V) (h5:∀ z,z≠w.heap.size+1->w'.heap[z]?=w5.heap[z]?):JN w0 w b bs bn D ⟨0,o,e,g,m,V,[],[]⟩ r w':=by
 subst en;obtain ⟨A,hA⟩:=h4.pb;have hk:∀ a∈A,w'.heap[a.b]?=w5.heap[a.b]?:=fun a ha=>h5 a.b (by have:=hA.ap.lo a ha;omega);exact ⟨SB,NB,HB,UB,_,h1,h2,h3,p,c,none,0,none,0,A,[],[],rfl,⟨hA.rd.cX hA.lv hk,hA.lv⟩,⟨Vc _,Vl _,fun b hb=>by cases hb⟩,⟨Vd _,Vm _⟩,by simpa using (hA.ap.aU hk).mono (by omega)⟩
open Go.Proofs.Tryz
def Whn (C:Int) (P:Prop):Prop:=C=0->P
def aq1 (w0 w:World) (b bs bn:Nat) (D D':SD) (R:RP) (C:Int) (r:Ending) (w':World):Prop:=∃ SB NB HB UB v,r=.returned (.tuple #[v,vJ C])/\Fr T3 w w'/\PS w0 w' b bs bn (if C=0 then D' else D) SB NB HB UB/\An w.heap.size w' v (if C=0 then R else rp0)
theorem AI {fn:Func} {R:Ending->World->Prop} {a:Act} {Z:World} {z:Nat} {o0 o1 o2 o3 o4 o5 o6 o7:Value} (hR:Hid (RX Z z [o0,o1,o2,o3,o4,o5,o6,o7])) (hf:fn.results=#[.cell 4 41,.tmp 5]) (ha:a.tmps.getD 4 undef=.pointer (some ⟨z,0,none⟩)) (E:Value) (hE:a.tmps.getD 5 undef=E) (hd:a.defers=[]) {v0 v1 v2 v3 v4 v5 v6 v7:Value} (hQ:R (.returned (.tuple #[.agg #[v0,v1,v2,v3,v4,v5,v6,v7],E])) (fg Z z v0 v1 v2 v3 v4 v5 v6 v7)):bodyPost prog fn R .ret a (fg Z z v0 v1 v2 v3 v4 v5 v6 v7):=by
 obtain ⟨q0,q1,q2,q3,q4,q5,q6,q7,-⟩:=(hR.put v0 v1 v2 v3 v4 v5 v6 v7).1.cells;generalize fg Z z v0 v1 v2 v3 v4 v5 v6 v7=W at *;refine bodyPost_ret (v:=.tuple #[.agg #[v0,v1,v2,v3,v4,v5,v6,v7],E]) ?_ hd hQ;have Tz:=ha;have hE':=hE;simp only [Array.getD_eq_getD_getElem?] at Tz hE';simp [results,hf,go_sem,Tz,hE',q0,q1,q2,q3,q4,q5,q6,q7]
theorem Hz (w:World) (b bs bn:Nat) (D D':SD) (SB NB HB UB:List Nat) (h:Hid (PS w0 w b bs bn D SB NB HB UB)) (K S F E G:Int) (pp:Option Addr) (np cp:Nat) (pq:Option Addr) (nv cv:Nat) (C0 C1 C:Int) (eC:Hid ((if C0=0 then C1 else C0)=C)) (R:RP) (ty:TypeId) (v:Value) (fC fA:FuncId) (vC vA:Value)
  (aO2:Hid (∀ w',Bw w w'->Calls prog 93 #[.pointer (some ⟨b,0,none⟩),lW K S (.S pp np cp) F (.S pq nv cv) E G] w' fun r w''=>r=.returned (vJ C0)/\Bw w' w''))
  (aJ2:Hid (Whn C0 (∀ w',Bw w w'->Calls prog 94 #[lW K S (.S pp np cp) F (.S pq nv cv) E G] w' fun r w''=>r=.returned (.iface ty v)/\Bw w' w'')))
  (hmC : ∀ w, (Go.method 440 ty v "loop.example/s02132/impl.check").run prog w = .ok (fC, vC) w) (hmA : ∀ w, (Go.method 440 ty v "loop.example/s02132/impl.act").run prog w = .ok (fA, vA) w)
  (hfC:∀ vs w,(callFunc fC vs).run prog w=.ok (.enter fC vs) w) (Ri:∀ vs w,(callFunc fA vs).run prog w=.ok (.enter fA vs) w)
  (aO4:Hid (Whn C0 (∀ w',Bw w w'->Calls prog fC #[vC,.pointer (some ⟨b,0,none⟩)] w' fun r w''=>r=.returned (vJ C1)/\Bw w' w'')))
  (aP1:Hid (Whn C0 (Whn C1 (∀ w',Bw w w'->Calls prog fA #[vA,.pointer (some ⟨b,0,none⟩)] w' (JN w0 w' b bs bn D' R))))) :
  Calls prog 36 #[.pointer (some ⟨b,0,none⟩),lW K S (.S pp np cp) F (.S pq nv cv) E G] w (aq1 w0 w b bs bn D D' R C):=by
 obtain ⟨X,hX,bX,zX,CX,gX⟩:=aj w #[.I K,.U S,.S pp np cp,.I F,.S pq nv cv,.U E,.U G] 29;obtain ⟨Y,hY,bY,zY,RY⟩:=gw X (.I 0) (.U 0) (.U 0) (.U 0) (.I 0) (.S none 0 0) (.S none 0 0) (.S none 0 0);rw [zX] at RY;have bW:=ah bX bY;have HA:=ae (fun (u:World) (hu:Bw Y u)=>ag (ah bW hu) (ag ((CX.below (by omega) bY).below (by omega) hu) (RY.below hu)));have BY0:=ae (Below.refl Y.heap.size Y);have HC:=ae (ag hmC (ag hmA (ag hfC Ri)));have sU:=h.be.size;have HZ:=ae zY;go_enter func36,ntmps36;go_wp2_with fail;rw [<-hX,<-hY];refine (aa aO2 Y (aa HA Y BY0).1).mono ?_;rintro r w1 ⟨rfl,bq⟩;obtain ⟨b1,XU,R1⟩:=aa HA w1 bq;have o0:=XU.1 0 _ rfl;have o1:=XU.1 1 _ rfl;have o2:=XU.1 2 _ rfl;have o3:=XU.1 3 _ rfl;have o4:=XU.1 4 _ rfl;have o5:=XU.1 5 _ rfl;have o6:=XU.1 6 _ rfl;have B1:=ae bq;have jN:=ae b1;have HR1:=ae R1;by_cases Ry:C0=0;{
 have e0:vJ C0=.nilIface:=by rw [Ry];rfl
 rw [e0];have H0:=ae Ry;have Jm:C1=C:=by have:=aa eC;rwa [if_pos Ry] at this
 subst Jm;go_wp2_with fail;refine (aa aJ2 H0 w1 jN).mono ?_;rintro r w2 ⟨rfl,bk⟩;have B2:=ae (ah B1 bk);have qv:=ae (ah jN bk);obtain ⟨mC,mA,qC,qA⟩:=aa HC;go_wp2_with fail;refine (aa aO4 H0 w2 qv).mono ?_;rintro r w3 ⟨rfl,dA⟩;have B3:=ae (ah B2 dA);have ra:=ae (ah qv dA);by_cases Yu:C1=0;{
 have e1:vJ C1=.nilIface:=by rw [Yu];rfl
 rw [e1];have H1:=ae Yu;go_wp2_with fail;refine (aa aP1 H0 H1 w3 ra).mono ?_;rintro r w4 ⟨Xz,XD,Gz,Xt,v4,P4,F4,rfl,L4⟩;have L4':=L4;obtain ⟨p1,c1,p2,c2,p3,c3,A1,A2,A3,rfl,-⟩:=L4';have R4:=(aa HA w3 B3).2.2.fr F4;obtain ⟨r0,r1,r2,r3,r4,r5,r6,r7,rf⟩:=R4.cells;have XL:=ae R4;have Pu:=ae (ag P4 (ag F4 L4));obtain ⟨n1,xC⟩:=aH R.vK.length;obtain ⟨n2,J9⟩:=aH R.pY.length;obtain ⟨n3,R8⟩:=aH R.qm.length;rw [xC,J9,R8] at Pu ⊢;go_wp2;have z3:=ra.size;have z4:=Pu.2.1.1;have zz:=aa HZ;have zB:=B3.size;refine AI XL (by kernel_rfl) rfl .nilIface rfl rfl ⟨Xz,XD,Gz,Xt,_,by rw [aa H1];rfl,((Fr.below (T:=T3) (aa ra)).trans Pu.2.1).low ((aO _ (w.heap.size+1) _ _ _ _ _ _ _ _).mono (by omega)),?_,?_⟩;{rw [if_pos (aa H1)];exact PS.rep Pu.1 XL (by omega) _ _ _ _ _ _ _ _};{rw [if_pos (aa H1)];exact (Pu.2.2.aU (fun z h1 _=>gu (by omega)) (aO _ _ _ _ _ _ _ _ _ _).size).mono (by omega)}};{
 have e1:vJ C1=.iface 77 (.agg #[.I C1]):=by rw [vJ,if_neg Yu]
 rw [e1];have H1:=ae Yu;obtain ⟨-,-,R3⟩:=aa HA w3 B3;obtain ⟨r0,r1,r2,r3,r4,r5,r6,r7,rf⟩:=R3.cells;have Pt:=ae R3;go_wp2;have z3:=ra.size;refine AI Pt (by kernel_rfl) rfl (.iface 77 (.agg #[.I C1])) rfl rfl ⟨SB,NB,HB,UB,_,by rw [vJ,if_neg (aa H1)],(Fr.below (T:=T3) (aa ra)).low ((aO _ (w.heap.size+1) _ _ _ _ _ _ _ _).mono (by omega)),?_,?_⟩;{rw [if_neg (aa H1)];exact PS.rep (h.below ra) Pt (by omega) _ _ _ _ _ _ _ _};{rw [if_neg (aa H1)];exact An.num _ _ _ _ _ _ _}}};{
 have eV:vJ C0=.iface 77 (.agg #[.I C0]):=by rw [vJ,if_neg Ry]
 rw [eV];have H1:=ae Ry;have Jm:C0=C:=by have:=aa eC;rwa [if_neg Ry] at this
 subst Jm;obtain ⟨r0,r1,r2,r3,r4,r5,r6,r7,rf⟩:=HR1.cells;go_wp2;have z3:=jN.size;refine AI HR1 (by kernel_rfl) rfl (.iface 77 (.agg #[.I C0])) rfl rfl ⟨SB,NB,HB,UB,_,by rw [vJ,if_neg (aa H1)],(Fr.below (T:=T3) (aa jN)).low ((aO _ (w.heap.size+1) _ _ _ _ _ _ _ _).mono (by omega)),?_,?_⟩;{rw [if_neg (aa H1)];exact PS.rep (h.below jN) HR1 (by omega) _ _ _ _ _ _ _ _};{rw [if_neg (aa H1)];exact An.num _ _ _ _ _ _ _}}
end Go.Proofs.YtcfcafeciggjeaaGreatDoor
