import Derived.Test.YtmfjiolopcbcmaaGreatDoorK42
import Derived.Test.YtmfjiolopcbcmaaGreatDoorK45
namespace Go.Proofs.YtmfjiolopcbcmaaGreatDoor
set_option maxHeartbeats 6400000
set_option linter.unusedVariables false
set_option linter.unusedSimpArgs false
set_option maxRecDepth 100000
open Go.ChangeShapes Go.WideShapes Go.ChangeAt Go.RowKit Go.Maps
variable {A:List Lf} {B b bn bs c:Nat} {D:SD} {R:RP} {p:Option Addr} {v:Value} {w w' w0:World} {xs:List (List Int)}
theorem rS.Kr (h:rS w v xs A) (hr:∀ b,v.ownBlock=some b->w'.heap[b]?=w.heap[b]?):rS w' v xs A:=by
 obtain ⟨p,c,Ls,rfl,h2,h3,h4⟩:=h;refine ⟨p,c,Ls,rfl,h2,h3,?_⟩;rcases h4 with h4 | ⟨b,o,rfl,h6⟩;{exact .inl h4};{refine .inr ⟨b,o,rfl,fun i x l hx hl=>?_⟩;obtain ⟨p',c',q1,q2⟩:=h6 i x l hx hl;exact ⟨p',c',(aj (hr b rfl) _).trans q1,q2⟩}
theorem yA.bE (h:yA w v xs) (hl:rS w v xs A) (hr:∀ b,v.ownBlock=some b->w'.heap[b]?=w.heap[b]?) (hk:∀ a∈A,w'.heap[a.b]?=w.heap[a.b]?):yA w' v xs:=by
 obtain ⟨p,c,rfl,h⟩:=h;obtain ⟨p2,c2,Ls,e2,h2,h3,h4⟩:=hl;simp only [Value.slice.injEq,true_and] at e2;obtain ⟨rfl,rfl⟩:=e2;refine ⟨p,c,rfl,?_⟩;rcases h with h | ⟨b,o,rfl,h⟩;{exact .inl h};{refine .inr ⟨b,o,rfl,fun i x hx=>?_⟩;obtain ⟨u,q1,q2⟩:=h i x hx;rcases h4 with h0 | ⟨b',o',e5,h6⟩;{rw [h0] at hx;simp at hx};{simp only [Option.some.injEq,Addr.mk.injEq,and_true] at e5;obtain ⟨rfl,rfl⟩:=e5;obtain ⟨l,hl⟩:∃ l,Ls[i]?=some l:=⟨_,aH (by have:=(aM.1 hx).1;omega)⟩;obtain ⟨p',c',r1,r2⟩:=h6 i x l hx hl;rw [Nat.mul_one,q1] at r1;cases r1;exact ⟨_,(aj (hr b rfl) _).trans q1,q2.bE r2 (fun a ha=>hk a (by rw [h3];exact List.mem_flatten.2 ⟨l,aL hl,ha⟩))⟩}}
def DI (B:Nat) (w:World) (v:Value) (R:RP):Prop:=∃ (p1:Option Addr) (c1:Nat) (p2:Option Addr) (c2:Nat) (p3:Option Addr) (c3:Nat) (A1 A2 A3:List Lf),v=fM R.k R.i R.e R.g R.n (.slice p1 R.iy.length c1) (.slice p2 R.fS.length c2) (.slice p3 R.gy.length c3) ∧
 (Rd w (.slice p1 R.iy.length c1) R.iy/\qs (.slice p1 R.iy.length c1) R.iy A1)/\(yA w (.slice p2 R.fS.length c2) R.fS/\rS w (.slice p2 R.fS.length c2) R.fS A2/\∀ b,(Value.slice p2 R.fS.length c2).ownBlock=some b->B<=b/\b<w.heap.size) ∧
 (iO w (.slice p3 R.gy.length c3) R.gy/\kJ w (.slice p3 R.gy.length c3) R.gy A3)/\jJ B w (A1++(A2++A3))
theorem DI.aN (h:DI B w v R) (hk:∀ b,B<=b->b<w.heap.size->w'.heap[b]?=w.heap[b]?) (hz:w.heap.size<=w'.heap.size):DI B w' v R:=by
 obtain ⟨p1,c1,p2,c2,p3,c3,A1,A2,A3,e,⟨h1,h2⟩,⟨h3,h4,h5⟩,⟨h6,h7⟩,h8⟩:=h;have k8:∀ a∈A1++(A2++A3),w'.heap[a.b]?=w.heap[a.b]?:=fun a ha=>hk a.b (h8.lo a ha) (h8.oz.lt ha);have k1:∀ a∈A1,w'.heap[a.b]?=w.heap[a.b]?:=fun a ha=>k8 a (by simp [ha]);have k2:∀ a∈A2,w'.heap[a.b]?=w.heap[a.b]?:=fun a ha=>k8 a (by simp [ha]);have k3:∀ a∈A3,w'.heap[a.b]?=w.heap[a.b]?:=fun a ha=>k8 a (by simp [ha]);have kr:∀ b,(Value.slice p2 R.fS.length c2).ownBlock=some b->w'.heap[b]?=w.heap[b]?:=fun b hb=>hk b (h5 b hb).1 (h5 b hb).2;exact ⟨p1,c1,p2,c2,p3,c3,A1,A2,A3,e,⟨h1.bE h2 k1,h2⟩,⟨h3.bE h4 kr k2,h4.Kr kr,fun b hb=>⟨(h5 b hb).1,Nat.lt_of_lt_of_le (h5 b hb).2 hz⟩⟩,⟨h6.bE h7 k3,kJ.aN h7 k3⟩,h8.aN k8⟩
theorem DI.mono {B':Nat} (h:DI B w v R) (hB:B'<=B):DI B' w v R:=by
 obtain ⟨p1,c1,p2,c2,p3,c3,A1,A2,A3,e,h1,⟨h3,h4,h5⟩,h6,h8⟩:=h;exact ⟨p1,c1,p2,c2,p3,c3,A1,A2,A3,e,h1,⟨h3,h4,fun b hb=>⟨Nat.le_trans hB (h5 b hb).1,(h5 b hb).2⟩⟩,h6,h8.mono hB⟩
theorem Rw (w:World):Rd w (.slice none 0 0) []:=⟨none,0,rfl,.inl rfl⟩
theorem Uh:qs (.slice none 0 0) [] []:=⟨none,0,[],rfl,rfl,rfl,.inl rfl⟩
theorem TW (w:World):yA w (.slice none 0 0) []:=⟨none,0,rfl,.inl rfl⟩
theorem Uf (w:World):rS w (.slice none 0 0) [] []:=⟨none,0,[],rfl,rfl,rfl,.inl rfl⟩
theorem T6 (w:World):iO w (.slice none 0 0) []:=⟨none,0,rfl,.inl rfl⟩
theorem Ug (w:World):kJ w (.slice none 0 0) [] []:=⟨none,0,[],rfl,rfl,rfl,.inl rfl⟩
theorem DI.num (B:Nat) (w:World) (k i e g n:Int):DI B w (rpn ⟨k,i,e,g,n,[],[],[]⟩) ⟨k,i,e,g,n,[],[],[]⟩:=
 ⟨none,0,none,0,none,0,[],[],[],rfl,⟨Rw w,Uh⟩,⟨TW w,Uf w,fun b hb=>by cases hb⟩,⟨T6 w,Ug w⟩,jJ.nil _ _⟩
def I5 (w0 w:World) (b bs bn:Nat) (D:SD) (R:RP) (r:Ending) (w':World):Prop:=∃ SB NB HB UB v,PS w0 w' b bs bn D SB NB HB UB/\Fr T3 w w'/\r=.returned v/\DI w.heap.size w' v R
theorem jC.r {SB NB HB UB:List Nat} {k i e g n:Int} {r:Ending} (h:jC w0 w b bs bn D SB NB HB UB ⟨k,i,e,g,n,[],[],[]⟩ r w'):I5 w0 w b bs bn D ⟨k,i,e,g,n,[],[],[]⟩ r w':=⟨SB,NB,HB,UB,_,h.1,h.2.1,h.2.2,DI.num _ _ _ _ _ _ _⟩
theorem Rg.r {SB NB HB UB:List Nat} {n:Nat} {L:List (List Int)} (en:L.length=n) {r:Ending} (h:Rg w0 w b bs bn D SB NB HB UB n L r w'):I5 w0 w b bs bn D { iQ with fS:=L.map kG } r w':=by
 obtain ⟨p,c,Ls,h1,h2,h3,h4⟩:=h;obtain ⟨q1,q2,q3,q4⟩:=h4.fS;have el:(L.map kG).length=n:=by rw [List.length_map];exact en
 refine ⟨SB,NB,HB,UB,_,h1,h2,h3,none,0,p,c,none,0,[],_,[],by simp only [el];rfl,⟨Rw _,Uh⟩,⟨by rw [el];exact q1,by rw [el];exact q2,by rw [el];exact fun b hb=>⟨by have:=(q4 b hb).1;omega,(q4 b hb).2⟩⟩,⟨T6 _,Ug _⟩,by rw [List.append_nil,List.nil_append];exact q3.mono (by omega)⟩
theorem X7 {SB NB HB UB:List Nat} {es:List Ev} {n:Nat} (en:es.length=n) {r:Ending} (h1:PS w0 w' b bs bn D SB NB HB UB) (h2:Fr T3 w w') (h3:r=.returned (fM 0 0 0 0 0 (.slice none 0 0) (.slice none 0 0) (.slice p n c))) (h4:iO w' (.slice p n c) es) (h5:kJ w' (.slice p n c) es A) (h6:jJ w.heap.size w' A):I5 w0 w b bs bn D { iQ with gy:=es } r w':=by
 subst en;exact ⟨SB,NB,HB,UB,_,h1,h2,h3,none,0,none,0,p,c,[],[],A,rfl,⟨Rw _,Uh⟩,⟨TW _,Uf _,fun b hb=>by cases hb⟩,⟨h4,h5⟩,by simpa using h6⟩
theorem aK2 {w5:World} {SB NB HB UB:List Nat} {o e g m:Int} {V:List Int} {n:Nat} (en:V.length=n) {r:Ending} (h1:PS w0 w' b bs bn D SB NB HB UB) (h2:Fr T3 w w') (h3:r=.returned (fM 0 o e g m (.slice p n c) (.slice none 0 0) (.slice none 0 0))) (h4:Own (w.heap.size+2) w5 (.slice p n c) V) (h5:∀ z,z≠w.heap.size+1->w'.heap[z]?=w5.heap[z]?):I5 w0 w b bs bn D ⟨0,o,e,g,m,V,[],[]⟩ r w':=by
 subst en;obtain ⟨A,hA⟩:=h4.pb;have hk:∀ a∈A,w'.heap[a.b]?=w5.heap[a.b]?:=fun a ha=>h5 a.b (by have:=hA.ap.lo a ha;omega);exact ⟨SB,NB,HB,UB,_,h1,h2,h3,p,c,none,0,none,0,A,[],[],rfl,⟨hA.rd.bE hA.lv hk,hA.lv⟩,⟨TW _,Uf _,fun b hb=>by cases hb⟩,⟨T6 _,Ug _⟩,by simpa using (hA.ap.aN hk).mono (by omega)⟩
open Go.Proofs.Tryz
def Whn (C:Int) (P:Prop):Prop:=C=0->P
def ai3 (w0 w:World) (b bs bn:Nat) (D D':SD) (R:RP) (C:Int) (r:Ending) (w':World):Prop:=∃ SB NB HB UB v,r=.returned (.tuple #[v,uh C])/\Fr T3 w w'/\PS w0 w' b bs bn (if C=0 then D' else D) SB NB HB UB/\DI w.heap.size w' v (if C=0 then R else iQ)
theorem yT {fn:Func} {R:Ending->World->Prop} {a:Act} {Z:World} {z:Nat} {o0 o1 o2 o3 o4 o5 o6 o7:Value} (hR:Hid (RX Z z [o0,o1,o2,o3,o4,o5,o6,o7])) (hf:fn.results=#[.cell 4 39,.tmp 5]) (ha:a.tmps.getD 4 undef=.pointer (some ⟨z,0,none⟩)) (E:Value) (hE:a.tmps.getD 5 undef=E) (hd:a.defers=[]) {v0 v1 v2 v3 v4 v5 v6 v7:Value} (hQ:R (.returned (.tuple #[.agg #[v0,v1,v2,v3,v4,v5,v6,v7],E])) (fE Z z v0 v1 v2 v3 v4 v5 v6 v7)):bodyPost prog fn R .ret a (fE Z z v0 v1 v2 v3 v4 v5 v6 v7):=by
 obtain ⟨q0,q1,q2,q3,q4,q5,q6,q7,-⟩:=(hR.put v0 v1 v2 v3 v4 v5 v6 v7).1.cells;generalize fE Z z v0 v1 v2 v3 v4 v5 v6 v7=W at *;refine bodyPost_ret (v:=.tuple #[.agg #[v0,v1,v2,v3,v4,v5,v6,v7],E]) ?_ hd hQ;have Sj:=ha;have hE':=hE;simp only [Array.getD_eq_getD_getElem?] at Sj hE';simp [results,hf,go_sem,Sj,hE',q0,q1,q2,q3,q4,q5,q6,q7]
theorem GR (w:World) (b bs bn:Nat) (D D':SD) (SB NB HB UB:List Nat) (h:Hid (PS w0 w b bs bn D SB NB HB UB)) (K S F E G:Int) (pp:Option Addr) (np cp:Nat) (pq:Option Addr) (nv cv:Nat) (C0 C1 C:Int) (eC:Hid ((if C0=0 then C1 else C0)=C)) (R:RP) (ty:TypeId) (v:Value) (fC fA:FuncId) (vC vA:Value)
  (aF4:Hid (∀ w',Below w.heap.size w w'->Calls prog 74 #[.pointer (some ⟨b,0,none⟩),oP K S (.slice pp np cp) F (.slice pq nv cv) E G] w' fun r w''=>r=.returned (uh C0)/\Below w'.heap.size w' w''))
  (aA9:Hid (Whn C0 (∀ w',Below w.heap.size w w'->Calls prog 75 #[oP K S (.slice pp np cp) F (.slice pq nv cv) E G] w' fun r w''=>r=.returned (.iface ty v)/\Below w'.heap.size w' w'')))
  (hmC : ∀ w, (Go.method 431 ty v "loop.example/s02132/impl.check").run prog w = .ok (fC, vC) w) (hmA : ∀ w, (Go.method 431 ty v "loop.example/s02132/impl.act").run prog w = .ok (fA, vA) w)
  (WU:∀ vs w,(callFunc fC vs).run prog w=.ok (.enter fC vs) w) (NC:∀ vs w,(callFunc fA vs).run prog w=.ok (.enter fA vs) w)
  (aF6:Hid (Whn C0 (∀ w',Below w.heap.size w w'->Calls prog fC #[vC,.pointer (some ⟨b,0,none⟩)] w' fun r w''=>r=.returned (uh C1)/\Below w'.heap.size w' w'')))
  (aG6:Hid (Whn C0 (Whn C1 (∀ w',Below w.heap.size w w'->Calls prog fA #[vA,.pointer (some ⟨b,0,none⟩)] w' (I5 w0 w' b bs bn D' R))))) :
  Calls prog 30 #[.pointer (some ⟨b,0,none⟩),oP K S (.slice pp np cp) F (.slice pq nv cv) E G] w (ai3 w0 w b bs bn D D' R C):=by
 obtain ⟨X,hX,bX,zX,CX,gX⟩:=au w #[.int .i64 K,.int .u64 S,.slice pp np cp,.int .i64 F,.slice pq nv cv,.int .u64 E,.int .u64 G] 43;obtain ⟨Y,hY,bY,zY,RY⟩:=fo X (.int .i64 0) (.int .u64 0) (.int .u64 0) (.int .u64 0) (.int .i64 0) (.slice none 0 0) (.slice none 0 0) (.slice none 0 0);rw [zX] at RY;have bW:=ai bX bY;have HA:=ae (fun (u:World) (hu:Below Y.heap.size Y u)=>ag (ai bW hu) (ag ((CX.below (by omega) bY).below (by omega) hu) (RY.below hu)));have BY0:=ae (Below.refl Y.heap.size Y);have HC:=ae (ag hmC (ag hmA (ag WU NC)));have rN:=h.be.size;have HZ:=ae zY;go_enter func30,ntmps30;go_wp2_with fail;rw [<-hX,<-hY];refine (aa aF4 Y (aa HA Y BY0).1).mono ?_;rintro r w1 ⟨rfl,aK⟩;obtain ⟨b1,To,R1⟩:=aa HA w1 aK;have o0:=To.1 0 _ rfl;have o1:=To.1 1 _ rfl;have o2:=To.1 2 _ rfl;have o3:=To.1 3 _ rfl;have o4:=To.1 4 _ rfl;have o5:=To.1 5 _ rfl;have o6:=To.1 6 _ rfl;have B1:=ae aK;have kK:=ae b1;have HR1:=ae R1;by_cases Lq:C0=0;{
 have e0:uh C0=.nilIface:=by rw [Lq];rfl
 rw [e0];have H0:=ae Lq;have It:C1=C:=by have:=aa eC;rwa [if_pos Lq] at this
 subst It;go_wp2_with fail;refine (aa aA9 H0 w1 kK).mono ?_;rintro r w2 ⟨rfl,aG⟩;have B2:=ae (ai B1 aG);have rM:=ae (ai kK aG);obtain ⟨mC,mA,qC,qA⟩:=aa HC;go_wp2_with fail;refine (aa aF6 H0 w2 rM).mono ?_;rintro r w3 ⟨rfl,cX⟩;have B3:=ae (ai B2 cX);have qw:=ae (ai rM cX);by_cases Jp:C1=0;{
 have e1:uh C1=.nilIface:=by rw [Jp];rfl
 rw [e1];have H1:=ae Jp;go_wp2_with fail;refine (aa aG6 H0 H1 w3 qw).mono ?_;rintro r w4 ⟨Wi,Wm,Ga,Wd,v4,P4,F4,rfl,L4⟩;have L4':=L4;obtain ⟨p1,c1,p2,c2,p3,c3,A1,A2,A3,rfl,-⟩:=L4';have R4:=(aa HA w3 B3).2.2.fr F4 (by decide);obtain ⟨r0,r1,r2,r3,r4,r5,r6,r7,rf⟩:=R4.cells;have Wo:=ae R4;have Og:=ae (ag P4 (ag F4 L4));obtain ⟨n1,SC⟩:=aZ R.iy.length;obtain ⟨n2,Xe⟩:=aZ R.fS.length;obtain ⟨n3,Xd⟩:=aZ R.gy.length;rw [SC,Xe,Xd] at Og ⊢;go_wp2;have z3:=qw.size;have z4:=Og.2.1.1;have zz:=aa HZ;have zB:=B3.size;refine yT Wo (by kernel_rfl) rfl .nilIface rfl rfl ⟨Wi,Wm,Ga,Wd,_,by rw [aa H1];rfl,((Fr.below (T:=T3) (aa qw)).trans Og.2.1).low ((aQ _ (w.heap.size+1) _ _ _ _ _ _ _ _).mono (by omega)),?_,?_⟩;{rw [if_pos (aa H1)];exact PS.rep Og.1 Wo (by omega) _ _ _ _ _ _ _ _};{rw [if_pos (aa H1)];exact (Og.2.2.aN (fun z h1 _=>gI (by omega)) (aQ _ _ _ _ _ _ _ _ _ _).size).mono (by omega)}};{
 have e1:uh C1=.iface 68 (.agg #[.int .i64 C1]):=by rw [uh,if_neg Jp]
 rw [e1];have H1:=ae Jp;obtain ⟨-,-,R3⟩:=aa HA w3 B3;obtain ⟨r0,r1,r2,r3,r4,r5,r6,r7,rf⟩:=R3.cells;have Of:=ae R3;go_wp2;have z3:=qw.size;refine yT Of (by kernel_rfl) rfl (.iface 68 (.agg #[.int .i64 C1])) rfl rfl ⟨SB,NB,HB,UB,_,by rw [uh,if_neg (aa H1)],(Fr.below (T:=T3) (aa qw)).low ((aQ _ (w.heap.size+1) _ _ _ _ _ _ _ _).mono (by omega)),?_,?_⟩;{rw [if_neg (aa H1)];exact PS.rep (h.below qw) Of (by omega) _ _ _ _ _ _ _ _};{rw [if_neg (aa H1)];exact DI.num _ _ _ _ _ _ _}}};{
 have eV:uh C0=.iface 68 (.agg #[.int .i64 C0]):=by rw [uh,if_neg Lq]
 rw [eV];have H1:=ae Lq;have It:C0=C:=by have:=aa eC;rwa [if_neg Lq] at this
 subst It;obtain ⟨r0,r1,r2,r3,r4,r5,r6,r7,rf⟩:=HR1.cells;go_wp2;have z3:=kK.size;refine yT HR1 (by kernel_rfl) rfl (.iface 68 (.agg #[.int .i64 C0])) rfl rfl ⟨SB,NB,HB,UB,_,by rw [uh,if_neg (aa H1)],(Fr.below (T:=T3) (aa kK)).low ((aQ _ (w.heap.size+1) _ _ _ _ _ _ _ _).mono (by omega)),?_,?_⟩;{rw [if_neg (aa H1)];exact PS.rep (h.below kK) HR1 (by omega) _ _ _ _ _ _ _ _};{rw [if_neg (aa H1)];exact DI.num _ _ _ _ _ _ _}}
end Go.Proofs.YtmfjiolopcbcmaaGreatDoor
