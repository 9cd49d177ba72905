import Derived.Test.YtcfcafeciggjeaaGreatDoorK29
import Derived.Test.YtcfcafeciggjeaaGreatDoorK26
namespace Go.Proofs.YtcfcafeciggjeaaGreatDoor
set_option maxHeartbeats 6400000
set_option linter.all false
set_option maxRecDepth 100000
open Go.ChangeShapes Go.WideShapes Go.ChangeAt Go.RowKit Go.Proofs.Tryz
variable {B b bn bs g gb h hh i sb uu:Nat} {D:DataW Unit} {L SB:List Nat} {P l s:List Int} {e id t x:Int} {es:List Ev} {k ty:TypeId} {ls:List (List Value)} {nd nd':aD} {ns:List aD} {ss:List aY} {u v:Value} {vs:List Value} {w w' w0 w1 w2:World}
theorem Lg (e g x t:Int) (p:Option Addr) (n c:Nat) (q:Option Addr) (m d:Nat) (ss:List aY) (Qs:List Value) (ns:List aD) (en:Hid (ss.length=n)) (em:Hid (ns.length=m)) (B:Nat) (w:World) (hS:Hid (dJ B w (.S p n c) ss Qs)) (hN:Hid (lX B w (.S q m d) ns)) (hB:B<=w.heap.size) (hn:n<=1048576) (hx:0<=x/\x<=4611686018427387904) (ht:0<=t/\t<=1000000) :
  Calls prog 103 #[cY e g x t (.S p n c) (.S q m d)] w fun r w'=>QR B w w' r (ik ⟨e,g,x,t,ss,ns⟩).1 (ik ⟨e,g,x,t,ss,ns⟩).2:=by
 obtain ⟨W0,dh,b0,z0,C0⟩:=ft w (.U e) (.U g) (.U x) (.I t) (.S p n c) (.S q m d);obtain ⟨W1,iM,b1,z1,C1⟩:=iq W0;obtain ⟨W2,iL,b2,z2,C2⟩:=gw W1 (.I 0) (.U 0) (.U 0) (.U 0) (.I 0) ao ao ao;rw [z0] at C1 z1;rw [z1] at C2 z2;have HC:=ae (ag ((C0.below b1).below b2) (ag (C1.below b2) C2));have bW:=ae (ah (ah b0 b1) b2);have HS:=ae (ag (hS.fr (al (aa bW))) (hN.fr (al (aa bW))));clear b0 b1 b2 C0 C1 C2;go_enter func103,ntmps103;by_cases WH:50<=n;{
 have WG:decide ((50:Int)<=(n:Int))=true:=by simp;omega
 have hI:ik ⟨e,g,x,t,ss,ns⟩=(⟨e,g,x,t,ss,ns⟩,sV 11):=by unfold ik;rw [if_pos (by simpa [aa en] using WH)]
 rw [hI];go_wp2_with fail;rw [<-dh,<-iM,<-iL];refine dL _ 1 2 3 9 10 _ 11 w.heap.size (w.heap.size+1) (w.heap.size+1+1) e g x t p n c q m d (by kernel_rfl) rfl (fun _ _=>rfl) (fun _ _=>rfl) (fun _ _=>rfl) (fun _ _=>rfl) HC.1 HC.2.1 HC.2.2 (by omega) w.heap.size (by omega) (by omega) ?_;intro w' bq iV f1 gF;have HQ:=ae (QR.num (e:=e) (g:=g) (x:=x) (t:=t) en em HS.1 HS.2 (Fr.below bW) (bW.mono hB) f1 gF hB 11 0 0 0 0);clear dh iM iL f1 gF;obtain ⟨q0,q1,q2,q3,q4,q5,qf⟩:=bq.cells;obtain ⟨r0,r1,r2,r3,r4,r5,r6,r7,rf⟩:=iV.cells;simp only [Act.put,xa,xb,xc];go_wp2;exact bodyPost_ret (v:=.tuple #[cY e g x t (.S p n c) (.S q m d),gP 11 0 0 0 0 ao ao ao]) (by simp [results,results103,go_sem,q0,q1,q2,q3,q4,q5,r0,r1,r2,r3,r4,r5,r6,r7]) rfl (aa HQ)};{
 have WG:decide ((50:Int)<=(n:Int))=false:=by simp;omega
 by_cases uR:4611686018427387904<=x;{
 have aI0:decide (4611686018427387904<=x)=true:=by simp;omega
 have hI:ik ⟨e,g,x,t,ss,ns⟩=(⟨e,g,x,t,ss,ns⟩,sV 12):=by unfold ik;rw [if_neg (by simpa [aa en] using WH),if_pos uR]
 rw [hI];go_wp2_with fail;rw [<-dh,<-iM,<-iL];refine dL _ 1 2 3 14 15 _ 12 w.heap.size (w.heap.size+1) (w.heap.size+1+1) e g x t p n c q m d (by kernel_rfl) rfl (fun _ _=>rfl) (fun _ _=>rfl) (fun _ _=>rfl) (fun _ _=>rfl) HC.1 HC.2.1 HC.2.2 (by omega) w.heap.size (by omega) (by omega) ?_;intro w' bq iV f1 gF;have HQ:=ae (QR.num (e:=e) (g:=g) (x:=x) (t:=t) en em HS.1 HS.2 (Fr.below bW) (bW.mono hB) f1 gF hB 12 0 0 0 0);clear dh iM iL f1 gF;obtain ⟨q0,q1,q2,q3,q4,q5,qf⟩:=bq.cells;obtain ⟨r0,r1,r2,r3,r4,r5,r6,r7,rf⟩:=iV.cells;simp only [Act.put,xa,xb,xc];go_wp2;exact bodyPost_ret (v:=.tuple #[cY e g x t (.S p n c) (.S q m d),gP 12 0 0 0 0 ao ao ao]) (by simp [results,results103,go_sem,q0,q1,q2,q3,q4,q5,r0,r1,r2,r3,r4,r5,r6,r7]) rfl (aa HQ)};{
 have aI0:decide (4611686018427387904<=x)=false:=by simp;omega
 have hI:ik ⟨e,g,x,t,ss,ns⟩=(⟨e,g,x+1,t,ss++[(x+1,t+10,[])],ns⟩,⟨0,x+1,0,0,t+10,[],[],[]⟩):=by unfold ik;rw [if_neg (by simpa [aa en] using WH),if_neg uR];rfl
 rw [hI];have wx:IntKind.u64.wrap (x+1)=x+1:=IntWalk.u64_in _ (by omega);have wt:IntKind.i64.wrap (t+10)=t+10:=IntWalk.i64_in _ (by omega);clear dh iM iL z0 z1 z2 HC HS bW;obtain ⟨V0,Wt,b0,z0,C0⟩:=ft w (.U e) (.U g) (.U (x+1)) (.I t) (.S p n c) (.S q m d);obtain ⟨V1,Hp,b1,z1,C1⟩:=iq V0;obtain ⟨V2,Yn,b2,z2,C2⟩:=gw V1 (.I 0) (.U 0) (.U 0) (.U 0) (.I 0) ao ao ao;obtain ⟨V3,Pe,b3,z3,C3,-⟩:=aj V2 #[.U (x+1),.I (t+10),.S none 0 0] 35;rw [z0] at C1 z1;rw [z1] at C2 z2;rw [z2] at C3 z3;have HC:=ae (ag (((C0.below b1).below b2).below b3) (ag ((C1.below b2).below b3) (C2.below b3)));have bW:=ae (ah (ah (ah b0 b1) b2) b3);have HS:=ae (ag (hS.fr (al (aa bW))) (hN.fr (al (aa bW))));have SQ:=ae C3;have lz:Hid ((ss.zip Qs).length=n):=by show _=_;rw [List.length_zip,hS.len,aa en];simp
 have yB:Hid (∀ b,(Value.slice p n c).ownBlock=some b->B<=b/\b<w.heap.size):=fun b hb=>hS.row.lt b hb;clear b0 b1 b2 b3 C0 C1 C2 C3 z0 z1 z2;go_wp2_with (at_builtin;rw [<-Wt,<-Hp,<-Yn,<-Pe];refine gO rfl _ _ rfl B (.S p n c) (ss.zip Qs) ((x+1,t+10,[]),ao) n lz rfl HS.1.row (w.heap.size+1+1+1) rfl rfl SQ.1 (by omega) (by omega) ?_);intro p' c' w9 hr9 fh uY;rw [<-Wt,<-Hp,<-Yn,<-Pe] at fh uY;have S9:=HS.1.KI uY _ _ hr9;have N9:=bS.fr HS.2 uY;have B9:Below B w w9:=(bW.mono hB).grown fh (by omega) (fun b hb=>(aa yB b hb).1);have F9:Fr [49,35,38] w w9:=(Fr.below (aa bW)).trans (uY.sub (by simp));have X0:=HC.1.fr uY;have X1:=HC.2.1.fr uY;have X2:=HC.2.2.fr uY;obtain ⟨k0,k1,k2,k3,k4,k5,kf⟩:=X0.cells;obtain ⟨fA,bA,gA⟩:=X0.ai0 (j:=4) F9 B9 aA hB (.S p' (n+1) c');obtain ⟨Z,hZ⟩:=ax (w9.setCell ⟨w.heap.size,4,none⟩ (.S p' (n+1) c'));have CZ:aq Z w.heap.size [.U e,.U g,.U (x+1),.I t,.S p' (n+1) c',.S q m d]:=by rw [hZ];exact X0.1.dI 4 (by simp) _
 have X1':=X1.qz (b:=w.heap.size) (j:=4) (u:=.S p' (n+1) c') (by omega);rw [<-hZ] at fA bA gA X1';have X2':=X2.fr gA;have HZ:=ae (ag CZ (ag X1' X2'));have Kd:=ae (ag (S9.fr gA) (ag (bS.fr N9 gA) (ag fA bA)));have zZ:w.heap.size+3<Z.heap.size+1:=by have:=X2'.1;have:=fA.1;have h9:=uY.1;have:=gA.1;omega
 clear hr9 fh uY S9 N9 B9 F9 X0 X1 X2 fA bA gA CZ X1' X2' Wt Hp Yn Pe HC HS SQ lz yB bW;go_wp2_with fail;rw [<-hZ];clear hZ k0 k1 k2 k3 k4 k5 kf;obtain ⟨vA,aX⟩:=ax Z.drew;have cI:=dG aX;have HA:=ae (ag (HZ.1.below (by omega) cI) (ag (HZ.2.1.below cI) (HZ.2.2.below cI)));have BA:=ae cI;refine bO (fun w'=>w'.cell? ⟨w.heap.size,0,none⟩=some (.U e)/\w'.cell? ⟨w.heap.size,1,none⟩=some (.U g)/\w'.cell? ⟨w.heap.size,2,none⟩=some (.U (x+1))/\w'.cell? ⟨w.heap.size,3,none⟩=some (.I t)/\w'.cell? ⟨w.heap.size,4,none⟩=some (.S p' (n+1) c')/\w'.cell? ⟨w.heap.size,5,none⟩=some (.S q m d)) (by rw [<-aX];exact ⟨HA.1.1 0 _ rfl,HA.1.1 1 _ rfl,HA.1.1 2 _ rfl,HA.1.1 3 _ rfl,HA.1.1 4 _ rfl,HA.1.1 5 _ rfl⟩) fun hS=>?_;rw [<-aX] at hS ⊢;clear aX cI;refine gC 0 1 2 3 hS ?_;refine tn 4 hS ?_;refine bH 5 fun KK hK=>?_;obtain ⟨k0,k1,k2,k3,k4,k5,kf⟩:=HA.2.1.cells;go_simp;obtain ⟨X,hX⟩:=ax (bg vA (w.heap.size+1) (.U e) (.U g) (.U (x+1)) (.I t) (.S p' (n+1) c') (.S q m d));have bX:Below (w.heap.size+1) vA X:=by rw [hX];exact bt _ _ _ _ _ _ _ _
 have qw:=HA.2.1.put (.U e) (.U g) (.U (x+1)) (.I t) (.S p' (n+1) c') (.S q m d);have CX:=rN HA.1 (b:=w.heap.size+1) (by omega) (.U e) (.U g) (.U (x+1)) (.I t) (.S p' (n+1) c') (.S q m d);have fX:Fr [27] vA X:=by obtain ⟨-,cur,ht⟩:=HA.2.1;rw [hX];exact dT ht
 rw [<-hX] at qw CX;have Ih:=HA.2.2.fr fX;unfold bg at hX;rw [<-hX];have HX:=ae (ag qw (ag CX (ag Ih (ag fX bX))));refine cg hK (by exact ⟨CX.1 0 _ rfl,CX.1 1 _ rfl,CX.1 2 _ rfl,CX.1 3 _ rfl,CX.1 4 _ rfl,CX.1 5 _ rfl⟩) fun hS=>?_;clear hK KK hX k0 k1 k2 k3 k4 k5 kf qw CX Ih fX bX;refine bH 6 fun KK hK=>?_;obtain ⟨k0,k1,k2,k3,k4,k5,k6,k7,kf⟩:=HX.2.2.1.cells;go_simp;obtain ⟨Ka,fY⟩:=HX.2.2.1.put (.I 0) (.U (x+1)) (.U 0) (.U 0) (.I (t+10)) ao ao ao;have bY:=aO X (w.heap.size+1+1) (.I 0) (.U (x+1)) (.U 0) (.U 0) (.I (t+10)) ao ao ao;obtain ⟨Y,hY⟩:=ax (fg X (w.heap.size+1+1) (.I 0) (.U (x+1)) (.U 0) (.U 0) (.I (t+10)) ao ao ao);rw [<-hY] at Ka fY bY;unfold fg bg at hY;rw [<-hY];have CY:=HX.2.1.aS (bY.block _ (by omega));have BY:=ae (ag (HX.1.fr fY) (ag Ka (ag ((Fr.below (T:=[27,41]) (aa BA)).trans ((HX.2.2.2.1.sub (by simp)).trans (fY.sub (by simp)))) ((BA.mono (by omega)).trans ((HX.2.2.2.2.mono (Nat.le_succ _)).trans (bY.mono (by omega)))))));refine cg hK (by exact ⟨CY.1 0 _ rfl,CY.1 1 _ rfl,CY.1 2 _ rfl,CY.1 3 _ rfl,CY.1 4 _ rfl,CY.1 5 _ rfl⟩) fun hS=>?_;clear hK KK hY k0 k1 k2 k3 k4 k5 k6 k7 kf Ka fY bY CY;refine bu ?_;clear hS;obtain ⟨bq,iV,f1,gF⟩:=aa BY;have HQ:=ae (QR.num (e:=e) (g:=g) (x:=x+1) (t:=t) (ae (by rw [List.length_append,aa en];rfl)) em Kd.1 Kd.2.1 Kd.2.2.1 Kd.2.2.2 f1 gF hB 0 (x+1) 0 0 (t+10));clear f1 gF;obtain ⟨q0,q1,q2,q3,q4,q5,qf⟩:=bq.cells;obtain ⟨r0,r1,r2,r3,r4,r5,r6,r7,rf⟩:=iV.cells;go_wp2;exact bodyPost_ret (v:=.tuple #[cY e g (x+1) t (.S p' (n+1) c') (.S q m d),gP 0 (x+1) 0 0 (t+10) ao ao ao]) (by simp [results,results103,go_sem,q0,q1,q2,q3,q4,q5,r0,r1,r2,r3,r4,r5,r6,r7]) rfl (aa HQ)}}
open Go.Maps
structure JF (w:World) (bs:Nat) (ss:List aY) (SB:List Nat):Prop where
 len:SB.length=ss.length
 own:∃ D n,w.ownsMap prog 23 aZ bs n D/\n<=1048576/\fP D (List.zipWith (fun (s:aY) g=>(Lit.U s.1,g)) ss SB)
 aI:∀ (i:Nat) (s:aY) (g:Nat),ss[i]?=some s->SB[i]?=some g->∃ u,w.heap[g]?=some (.cells #[.U s.1,.I s.2.1,u] 35)/\jJ w u s.2.2
structure JG (w:World) (bn:Nat) (ns:List aD) (NB:List Nat):Prop where
 len:NB.length=ns.length
 own:∃ D n,w.ownsMap prog 9 aZ bn n D/\n<=1048576/\fP D (List.zipWith (fun (nd:aD) g=>(bN nd.path,g)) ns NB)
 aI:∀ (i:Nat) (nd:aD) (g:Nat),ns[i]?=some nd->NB[i]?=some g->∃ V h u,KN w g h u V nd
theorem KN.below {u:Nat} {V:Value} (k:KN w g h u V nd) (hb:Bw w w'):KN w' g h u V nd:=by
 obtain ⟨h1,h2,⟨D1,o1,s1⟩,⟨D2,o2,s2⟩⟩:=k;exact ⟨(hb.block g (aG h1)).trans h1,h2.below hb,⟨D1,o1.kept (az hb none) (by simp),s1⟩,⟨D2,o2.kept (az hb none) (by simp),s2⟩⟩
theorem JF.below (h:JF w bs ss SB) (hb:Bw w w'):JF w' bs ss SB:=by
 obtain ⟨h1,⟨D,n,o,hn,m⟩,h3⟩:=h;refine ⟨h1,⟨D,n,o.kept (az hb none) (by simp),hn,m⟩,fun i s g hs hg=>?_⟩;obtain ⟨u,q1,q2⟩:=h3 i s g hs hg;exact ⟨u,(hb.block g (aG q1)).trans q1,q2.below hb⟩
theorem JG.below {NB:List Nat} (h:JG w bn ns NB) (hb:Bw w w'):JG w' bn ns NB:=by
 obtain ⟨h1,⟨D,n,o,hn,m⟩,h3⟩:=h;refine ⟨h1,⟨D,n,o.kept (az hb none) (by simp),hn,m⟩,fun i s g hs hg=>?_⟩;obtain ⟨V,h,u,q⟩:=h3 i s g hs hg;exact ⟨V,h,u,q.below hb⟩
structure Sto (w:World) (b bs bn:Nat) (e g x t:Int) (ss:List aY) (ns:List aD) (SB NB:List Nat):Prop where
 hd:w.heap[b]?=some (.cells #[.U e,.U g,.U x,.I t,.map (some bs),.map (some bn)] 132)
 Fc:JF w bs ss SB
 me:JG w bn ns NB
theorem Sto.below {g:Int} {SB NB:List Nat} (h:Sto w b bs bn e g x t ss ns SB NB) (hb:Bw w w'):Sto w' b bs bn e g x t ss ns SB NB:=
 ⟨(hb.block b (aG h.hd)).trans h.hd,h.Fc.below hb,h.me.below hb⟩
theorem xe (h:JF w bs ss SB) {s:aY} (hs:ss[i]?=some s):∃ g,SB[i]?=some g/\(Lit.U s.1,g)∈List.zipWith (fun (s:aY) g=>(Lit.U s.1,g)) ss SB:=by
 have hi:=(aN.1 hs).1;obtain ⟨g,hg⟩:∃ g,SB[i]?=some g:=⟨_,aK (by rw [h.len];exact hi)⟩;refine ⟨g,hg,aF (i:=i) ?_⟩;rw [List.getElem?_zipWith,hs,hg]
theorem xg {NB:List Nat} (h:JG w bn ns NB) (hs:ns[i]?=some nd):∃ g,NB[i]?=some g/\(bN nd.path,g)∈List.zipWith (fun (nd:aD) g=>(bN nd.path,g)) ns NB:=by
 have hi:=(aN.1 hs).1;obtain ⟨g,hg⟩:∃ g,NB[i]?=some g:=⟨_,aK (by rw [h.len];exact hi)⟩;refine ⟨g,hg,aF (i:=i) ?_⟩;rw [List.getElem?_zipWith,hs,hg]
theorem Hb {α β γ:Type} {f:α->β->γ} {l:List α} {m:List β} {z:γ} (h:z∈List.zipWith f l m):∃ a∈l,∃ b,z=f a b:=by
 induction l generalizing m with
 | nil=>simp at h
 | cons a l ih=>
  cases m with
  | nil=>simp at h
  | cons b m=>
   simp only [List.zipWith_cons_cons,List.mem_cons] at h;rcases h with rfl | h;{exact ⟨a,by simp,b,rfl⟩};{obtain ⟨a',ha,b',e⟩:=ih h;exact ⟨a',by simp [ha],b',e⟩}
theorem Fa (h:JF w bs ss SB) (hs:ss.Pairwise (fun s s'=>s.1<s'.1)) (m:fP D (List.zipWith (fun (s:aY) g=>(Lit.U s.1,g)) ss SB)) {ids:List Int} (ha:Q.S7 D ids):ids=ss.map (·.1):=by
 refine mW ha.lt (List.pairwise_map.2 hs) fun x=>?_;rw [ha.mem x,m.hs];constructor;{rintro ⟨p,hp,e⟩;obtain ⟨s,uS,g,rfl⟩:=Hb hp;simp only [Lit.int.injEq,true_and] at e;exact List.mem_map.2 ⟨s,uS,e⟩};{intro hx;obtain ⟨s,uS,rfl⟩:=List.mem_map.1 hx;obtain ⟨i,hi,e⟩:=List.getElem_of_mem uS;obtain ⟨g,hg,hm⟩:=xe h (i:=i) (s:=s) (by rw [aK hi,e]);exact ⟨_,hm,rfl⟩}
def ko (l:List Int):List UInt8:=l.map fun n=>UInt8.ofNat n.toNat
theorem zi {α:Type} [LT α] (irr:∀ a:α,¬ a<a) (tr:∀ a b c:α,a<b->b<c->a<c):∀ {l m:List α},l.Pairwise (·<·)->m.Pairwise (·<·)->(∀ x,x∈l↔x∈m)->l=m
 | [],[],_,_,_=>rfl
 | [],b::m,_,_,h=>absurd ((h b).2 (by simp)) (by simp)
 | a::l,[],_,_,h=>absurd ((h a).1 (by simp)) (by simp)
 | a::l,b::m,h1,h2,h=>by
  rw [List.pairwise_cons] at h1 h2;have FR:a=b:=by rcases List.mem_cons.1 ((h a).1 (by simp)) with e | e;{exact e};{rcases List.mem_cons.1 ((h b).2 (by simp)) with e' | e';{exact e'.symm};{exact absurd (tr _ _ _ (h2.1 a e) (h1.1 b e')) (irr _)}}
  subst FR;rw [zi irr tr h1.2 h2.2 (fun x=>?_)];constructor;{intro hx;rcases List.mem_cons.1 ((h x).1 (by simp [hx])) with e | e;{subst e;exact absurd (h1.1 _ hx) (irr _)};{exact e}};{intro hx;rcases List.mem_cons.1 ((h x).2 (by simp [hx])) with e | e;{subst e;exact absurd (h2.1 _ hx) (irr _)};{exact e}}
theorem qH {NB:List Nat} (h:JG w bn ns NB) (hs:(ns.map fun nd=>ko nd.path).Pairwise (·<·)) (m:fP D (List.zipWith (fun (nd:aD) g=>(bN nd.path,g)) ns NB)) {ks:List (List UInt8)} (ha:T.S7 D ks):ks=ns.map fun nd=>ko nd.path:=by
 refine zi (fun a=>List.lt_irrefl a) (fun a b c=>List.lt_trans) ha.lt hs fun x=>?_;rw [ha.mem x,m.hs];constructor;{rintro ⟨p,hp,e⟩;obtain ⟨s,uS,g,rfl⟩:=Hb hp;simp only [bN,Lit.string.injEq] at e;exact List.mem_map.2 ⟨s,uS,e⟩};{intro hx;obtain ⟨s,uS,rfl⟩:=List.mem_map.1 hx;obtain ⟨i,hi,e⟩:=List.getElem_of_mem uS;obtain ⟨g,hg,hm⟩:=xg h (i:=i) (nd:=s) (by rw [aK hi,e]);exact ⟨_,hm,rfl⟩}
theorem Cm (w:World):(zeroValue 133).run prog w=.ok (.pointer none) w:=by kernel_rfl
theorem De {bs n:Nat} {l:List (Lit × Nat)} (o:w.ownsMap prog 23 aZ bs n D) (m:fP D l) {I:Int} (hp:(Lit.U I,g)∈l) (hI:0<=I/\I<18446744073709551616) :
  (Instr.lookup 129 (.map (some bs)) (.U I) false).run prog w=.ok (.pointer (some ⟨g,0,none⟩)) w:=by
 obtain ⟨v,ps,hr,hv⟩:=o.lookup gR underlying129 (Cm w) (zd:=.nil) (zp:=[]) rfl (key:=.U I) (keyOf_int_mk underlying23 (jO hI));rw [m.at' _ hp] at hv;obtain rfl:=iB hv;exact hr
theorem Df {bn n:Nat} {l:List (Lit × Nat)} (o:w.ownsMap prog 9 aZ bn n D) (m:fP D l) (hp:(bN P,g)∈l) (hP:P.length<=1048576) :
  (Instr.lookup 130 (.map (some bn)) (.string (aC P)) false).run prog w=.ok (.pointer (some ⟨g,0,none⟩)) w:=by
 obtain ⟨v,ps,hr,hv⟩:=o.lookup kM underlying130 (ke w) (zd:=.nil) (zp:=[]) rfl (key:=.string (aC P)) (kl:=bN P) (by rw [WideMaps.keyOf_string_mk underlying9 (by rw [di];unfold maxLen;omega),kq])
 rw [m.at' _ hp] at hv;obtain rfl:=iB hv;exact hr
theorem jt {row:Option Nat} (h:w.grownBy w1 (some sb)) (k:w1.grownBy w2 row) (hr:∀ b,row=some b->w.heap.size<=b\/b=sb):w.grownBy w2 (some sb):=
 ⟨k.os.trans h.os,k.tape.trans h.tape,k.output.trans h.output,Nat.le_trans h.size k.size,fun i hi bL=>(k.block i (Nat.lt_of_lt_of_le hi h.size) (fun e=>by rcases hr i e.symm with h' | h';{omega};{exact bL (by rw [h'])})).trans (h.block i hi bL)⟩
theorem aE (w:World) (a:Addr) (v:Value):w.grownBy (w.setCell a v) (some a.block):=
 ⟨rfl,rfl,rfl,by simp,fun k _ hk=>dF _ _ _ _ (fun e=>hk (by rw [e]))⟩
theorem qY (h:Bw w w1) (k:w1.grownBy w2 (some sb)) (hs:w.heap.size<=sb):Bw w w2:=h.grown k h.size (fun b e=>by cases e;exact hs)
theorem rO {R:Value->Option (DataW Unit × List MemPlace)} {b n:Nat} (h:w.ownsMap prog k R b n D) (hh:w'.heap[b]?=w.heap[b]?):w'.ownsMap prog k R b n D:=by
 obtain ⟨es,clock,h1,h2⟩:=h;exact ⟨es,clock,hh.trans h1,h2⟩
theorem aq.grown {row:Option Nat} (h:aq w b vs) (hb:b<w.heap.size) (hg:w.grownBy w' row) (bL:some b≠row):aq w' b vs:=by
 have hh:=hg.block b hb bL;refine ⟨fun i v hi=>(ai hh _).trans (h.1 i v hi),fun o=>?_⟩;have:w'.frozen? ⟨b,o,none⟩=w.frozen? ⟨b,o,none⟩:=World.frozen?_of_block hh;rw [this];exact h.2 o
theorem Of (l:List Int):(⟨(ko l).toArray⟩:ByteArray)=aC l:=by
 have h:(aC l).data=(ko l).toArray:=by rw [<-Array.toList_inj];simpa [ko] using fM l
 cases hb:aC l with
 | mk d=>rw [hb] at h;simp only at h;rw [h]
theorem AJ (h:T.SC B w v (ns.map fun nd=>ko nd.path)):∃ p c,v=.S p ns.length c/\(ns=[]\/∃ g,p=some ⟨g,0,none⟩/\B<=g/\g<w.heap.size/\∀ (j:Nat) (nd:aD),ns[j]?=some nd->w.cell? ⟨g,0+j,none⟩=some (.string (aC nd.path))):=by
 rcases h with ⟨rfl,h0⟩ | ⟨g,cap,rfl,hb,hl,hH⟩;{
 have:ns=[]:=by simpa using h0
 subst this;exact ⟨none,0,rfl,.inl rfl⟩};{
 refine ⟨some ⟨g,0,none⟩,cap,by rw [List.length_map],.inr ⟨g,rfl,hb,hl,fun j nd hj=>?_⟩⟩;have Bf:=(aN.1 hj).1;have:=(hH j (by simpa using Bf)).1;rw [this,<-Of];have e:(ns.map fun nd=>ko nd.path).toArray[j]! = ko nd.path:=by have e2:ns[j]=nd:=(aN.1 hj).2;simp [Bf,e2]
 rw [e]}
theorem mT.cells {c:Array Value} {l:List Lf} (h:mT w nd c.toList l):∃ q0 q1 q2 q3 q4 q5 q6 q7,c=#[q0,q1,q2,q3,q4,q5,q6,q7]/\∀ u∈[q0,q1,q2,q3,q4,q5,q6,q7],u.oneCell'=true:=by
 obtain ⟨p0,c0,p1,c1,p4,c4,p7,c7,l0,l1,l4,l7,-,h2,-⟩:=h;refine ⟨_,_,_,_,_,_,_,_,by rw [<-Array.toList_inj,h2],fun u hu=>?_⟩;simp only [List.mem_cons,List.not_mem_nil,or_false] at hu;rcases hu with rfl | rfl | rfl | rfl | rfl | rfl | rfl | rfl<;>rfl
theorem Iv (b bs bn:Nat) (e g x t:Int) (ss:List aY) (ns:List aD) (SB NB:List Nat) (w:World) (h:Sto w b bs bn e g x t ss ns SB NB) (hs:Hid (ss.Pairwise (fun s s'=>s.1<s'.1))) (hn:Hid ((ns.map fun nd=>ko nd.path).Pairwise (·<·)))
  (ls:ss.length<=1048576) (ln:ns.length<=1048576) (hls:Hid (∀ s∈ss,(0<=s.1/\s.1<18446744073709551616)/\s.2.2.length<=1048576/\∀ e∈s.2.2,e.2.length<=1048576))
  (hln:Hid (∀ nd∈ns,bM nd.path/\nd.path.length<=1048576/\nd.value.length<=1048576/\nd.holders.length<=1048576/\nd.watchers.length<=1048576/\nd.holders.Pairwise (·<·)/\nd.watchers.Pairwise (·<·))) :
  Calls prog 38 #[.pointer (some ⟨b,0,none⟩)] w fun r w'=>∃ p c q d A1 A2,r=.returned (cY e g x t (.S p ss.length c) (.S q ns.length d))/\ic w' (.S p ss.length c) ss/\kJ w' (.S q ns.length d) ns/\Pq w' (.S p ss.length c) ss A1/\SE w' (.S q ns.length d) ns A2/\lx w.heap.size w' (A1++A2)/\Bw w w':=by
 have k0:w.cell? ⟨b,0,none⟩=some (.U e):=ay h.hd 0;have k1:w.cell? ⟨b,1,none⟩=some (.U g):=ay h.hd 1;have k2:w.cell? ⟨b,2,none⟩=some (.U x):=ay h.hd 2;have k3:w.cell? ⟨b,3,none⟩=some (.I t):=ay h.hd 3;obtain ⟨is,his,sz0,sz1,sz2⟩:=info_parts Tryz.infoSes;obtain ⟨io,hio,oz0,oz1,oz2⟩:=info_parts Tryz.infoNod;obtain ⟨W0,dh⟩:=ax (w.alloc (.cells #[.U 0,.U 0,.U 0,.I 0,.S none 0 0,.S none 0 0] 27));have b0:=ju dh;have z0:W0.heap.size=w.heap.size+1:=by rw [dh];simp
 have r0:aq W0 w.heap.size [.U 0,.U 0,.U 0,.I 0,.S none 0 0,.S none 0 0]:=by rw [dh];exact aq.alloc w #[.U 0,.U 0,.U 0,.I 0,.S none 0 0,.S none 0 0] _
 go_enter func38,ntmps38;go_wp2_with fail;rw [<-dh];obtain ⟨v0,IV⟩:=ax W0.drew;have bv:Bw w v0:=by rw [IV];exact b0.drew
 have zv:v0.heap.size=w.heap.size+1:=by rw [IV];exact z0
 have R0:Hid (aq v0 w.heap.size [.U 0,.U 0,.U 0,.I 0,.S none 0 0,.S none 0 0]):=by rw [IV];exact r0
 have S0:=ae (ag (af k0 bv) (ag (af k1 bv) (ag (af k2 bv) (af k3 bv))));have H0:=ae (h.below bv);have ZV:=ae zv;refine bO (fun w'=>w'.cell? ⟨b,0,none⟩=some (.U e)/\w'.cell? ⟨b,1,none⟩=some (.U g)/\w'.cell? ⟨b,2,none⟩=some (.U x)/\w'.cell? ⟨b,3,none⟩=some (.I t)) (by rw [<-IV];exact aa S0) fun hS=>?_;rw [<-IV] at hS ⊢;clear IV dh b0 z0 r0 k0 k1 k2 k3 zv;refine gy 0 1 2 3 4 5 6 7 hS ?_;refine gy 8 9 10 11 12 13 14 15 hS ?_;refine tn 16 hS ?_;refine bH 17 fun KK hK=>?_;go_simp;obtain ⟨v1,DA⟩:=ax (v0.alloc (.cells #[.U 0,.U 0,.U 0,.I 0,.S none 0 0,.S none 0 0] 27));have bq:=ju DA;have c1:aq v1 v0.heap.size [.U 0,.U 0,.U 0,.I 0,.S none 0 0,.S none 0 0]:=by rw [DA];exact aq.alloc v0 #[.U 0,.U 0,.U 0,.I 0,.S none 0 0,.S none 0 0] _
 have z1:v1.heap.size=v0.heap.size+1:=by rw [DA];simp
 rw [<-DA];obtain ⟨sb,hsb⟩:=ax v0.heap.size;rw [<-hsb] at c1 ⊢;have S1:=ae (ag (af S0.1 bq) (ag (af S0.2.1 bq) (ag (af S0.2.2.1 bq) (af S0.2.2.2 bq))));have H1:=ae (H0.below bq);have R1:=ae (R0.below (by have:=aa ZV;omega) bq);have b1:=ah bv bq;have HZ:=ae (ag (aa ZV) (ag hsb z1));refine cg hK (by exact S1) fun hS=>?_;have rc0:=c1.1 0 _ rfl;have rc1:=c1.1 1 _ rfl;have rc2:=c1.1 2 _ rfl;have rc3:=c1.1 3 _ rfl;have rc4:=c1.1 4 _ rfl;have rc5:=c1.1 5 _ rfl;have rf:=c1.2;clear hK KK DA bq hsb z1;refine bH 18 fun KK hK=>?_;go_simp;obtain ⟨Z,hZ⟩:=ax ((((((v1.setCell ⟨sb,0,none⟩ (.U e)).setCell ⟨sb,1,none⟩ (.U g)).setCell ⟨sb,2,none⟩ (.U x)).setCell ⟨sb,3,none⟩ (.I t)).setCell ⟨sb,4,none⟩ (.S none 0 0)).setCell ⟨sb,5,none⟩ (.S none 0 0));obtain ⟨zz0,zz1,zz2⟩:=aa HZ;have CZ:aq Z sb [.U e,.U g,.U x,.I t,.S none 0 0,.S none 0 0]:=by rw [hZ];exact ((((((c1.dI 0 (by simp) _).dI 1 (by simp) _).dI 2 (by simp) _).dI 3 (by simp) _).dI 4 (by simp) _).dI 5 (by simp) _)
 have hgZ:v1.grownBy Z (some sb):=by rw [hZ];exact gK (gK (gK (gK (gK (aE _ _ _) (aE _ _ _)) (aE _ _ _)) (aE _ _ _)) (aE _ _ _)) (aE _ _ _)
 have bZ:Bw w Z:=qY b1 hgZ (by omega);have RZ:=R1.grown (by omega) hgZ (by simp;omega);have SZ:Z.cell? ⟨b,0,none⟩=some (.U e)/\Z.cell? ⟨b,1,none⟩=some (.U g)/\Z.cell? ⟨b,2,none⟩=some (.U x)/\Z.cell? ⟨b,3,none⟩=some (.I t):=⟨ay (h.below bZ).hd 0,ay (h.below bZ).hd 1,ay (h.below bZ).hd 2,ay (h.below bZ).hd 3⟩;have zZ:sb<Z.heap.size:=by have:=hgZ.size;omega
 rw [<-hZ];refine cg hK (by exact SZ) fun hS=>?_;clear hK KK hZ hgZ SZ c1 rc0 rc1 rc2 rc3 rc4 rc5 rf S1 H1 R1 S0 H0 R0;refine bu ?_;have Hh:w.heap.size<sb:=by omega
 have CZ':=ae CZ;have RZ':=ae RZ;have HS:=ae fun (w':World) (hb:Bw w w')=>h.below hb;have HLW:Hid (∀ k s gs,ss[k]?=some s->SB[k]?=some gs->b<w.heap.size/\bs<w.heap.size/\gs<w.heap.size):=fun k s gs hy qN=>by obtain ⟨_,_,o,_,_⟩:=h.Fc.own;obtain ⟨_,y3,_⟩:=h.Fc.aI k _ gs hy qN;exact ⟨aG h.hd,o.lt,aG y3⟩
 have HLN:Hid (∀ k s gs,ns[k]?=some s->NB[k]?=some gs->b<w.heap.size/\bn<w.heap.size/\gs<w.heap.size):=fun k s gs hy qN=>by obtain ⟨_,_,o,_,_⟩:=h.me.own;obtain ⟨_,_,_,y3⟩:=h.me.aI k _ gs hy qN;exact ⟨aG h.hd,o.lt,aG y3.aI⟩
 have BZ:=ae bZ;clear hS CZ RZ h bv b1 zz0 zz1 zz2 HZ ZV;obtain ⟨hHd,Wv,MP⟩:=aa HS _ BZ;obtain ⟨D,nD,oD,hnD,mD⟩:=id Wv.own;have k4:Z.cell? ⟨b,4,none⟩=some (.map (some bs)):=ay hHd 4;have MD:=ae mD;have OD:=ae oD;clear hHd MP mD;go_wp2_with fail;refine (Q.aa4 bs nD D _ oD (Nat.le_trans oD.size_le hnD)).mono ?_;rintro r w1 ⟨kv,ids,rfl,Ez,Ca,bq⟩;obtain rfl:=Fa Wv hs MD Ez;obtain ⟨pk,ck,Ak,rfl,rk,lk,ak⟩:=AK Ca;have Hl:(ss.map (·.1)).length=ss.length:=List.length_map _;obtain ⟨nk,R6⟩:=ax ((ss.map (·.1)).length);rw [<-R6] at rk lk ⊢;have ai5:nk=ss.length:=by rw [R6,Hl]
 have ENK:=ae ai5;have bR2:nk<=1048576:=by omega
 have HKV:=ae (ag rk (ag lk ak));have b1:=ah BZ bq;have z1:=bq.size;have C1:=ae (CZ'.below zZ bq);have R1:=ae (RZ'.below (by omega) bq);clear rk lk ak Ca Ez bq k4 Wv oD R6 ai5 Hl CZ' RZ';go_wp2_with fail
 go_loopw [31] (fun iv wr=>∃ (k:Nat) (Sv:Value) (Ls:List (List Lf)),k<=nk/\iv=.I k/\Hid (aq wr sb [.U e,.U g,.U x,.I t,Sv,.S none 0 0]/\fu xE 35 3 w1.heap.size wr Sv (ss.take k) Ls)/\Hid (w1.grownBy wr (some sb))) (fun iv _=>nk-(intOf iv).toNat)
 case atStart=>exact ⟨0,_,[],Nat.zero_le _,rfl,⟨C1,fu.nil _ _ _ _ _⟩,qR _ _⟩
 case round =>(
 obtain ⟨k,Sv,Ls,hk,rfl,pK,yb⟩:=hrel;have BB:=qY b1 yb (by omega);by_cases bj:k<nk;{
 have bm:=aT k nk;have fL:k<ss.length:=by rw [<-aa ENK];exact bj
 obtain ⟨⟨I,Dl,Qu⟩,hy⟩:∃ y,ss[k]?=some y:=⟨_,aK fL⟩;obtain ⟨hH,hSe,-⟩:=aa HS _ BB;obtain ⟨gs,qN,fK⟩:=xe hSe hy;obtain ⟨u,Yi,hru⟩:=hSe.aI k _ gs hy qN;dsimp only at Yi hru fK;obtain ⟨pq,cq,rfl,-⟩:=id hru;obtain ⟨nq,yJ⟩:=aH Qu.length;rw [yJ] at hru Yi;have ENQ:=ae yJ;obtain ⟨hI,L8,VB⟩:=aa hls _ (aF hy);dsimp only at hI L8 VB;have hnq:nq<=1048576:=by rw [<-yJ];exact L8
 have Kf:Hid (∀ e∈Qu,e.2.length<=1048576):=VB;obtain ⟨gk,ok,rfl,ME⟩:∃ gk ok,pk=some ⟨gk,ok,none⟩/\wr.cell? ⟨gk,ok+k,none⟩=some (.U I):=by obtain ⟨rk,lk,ak⟩:=aa HKV;have rk':=rk.cX lk (w':=wr) (fun a ha=>yb.block a.b (ak.vE.lt ha) (by have:=ak.lo a ha;simp;omega));obtain ⟨p',c',ee,hd⟩:=rk';simp only [Value.slice.injEq] at ee;obtain ⟨rfl,-,-⟩:=ee;rcases hd with hd | ⟨b',o',rfl,hd⟩;{have:=congrArg List.length hd;simp at this;rw [this] at fL;simp at fL};{refine ⟨b',o',rfl,?_⟩;rw [hd k (by simpa using fL)];simp [List.getD_eq_getElem?_getD,hy]}
 have HY:=ae hy;obtain ⟨hC,hO⟩:=aa pK;have cS4:=hC.1 4 _ rfl;have ZN:wr.cell? ⟨b,4,none⟩=some (.map (some bs)):=ay hH 4;obtain ⟨D',n',ZB,I0,ZE⟩:=hSe.own;have XN:=ae (ag ZE (ag fK hI));have hLT:b<w1.heap.size/\bs<w1.heap.size/\gs<w1.heap.size:=by obtain ⟨y1,y2,-⟩:=aa HS _ b1;obtain ⟨_,_,o,_,_⟩:=y2.own;obtain ⟨_,y3,_⟩:=y2.aI k _ gs hy qN;exact ⟨aG y1,o.lt,aG y3⟩
 have HLT:=ae hLT;have hLW:b<w.heap.size/\bs<w.heap.size/\gs<w.heap.size:=aa HLW k _ gs hy qN;have t3b:b≠sb:=by omega
 have t4b:bs≠sb:=by omega
 have t5b:gs≠sb:=by omega
 obtain ⟨vA,aX⟩:=ax wr.drew;have cI:=dG aX;have Xw:=ae (ag (af ZN cI) (ag (ZB.kept (az cI none) (by simp)) (ag (af (ay Yi 0) cI) (ag (af (ay Yi 1) cI) (af (ay Yi 2) cI)))));have RQ:=ae (hru.below cI);have OA:=ae (hO.below xE.aU cI);have CXA:=ae (hC.below (by have:=yb.size;omega) cI);have gA:Hid (w1.grownBy vA (some sb)):=jt yb (az cI none) (fun b e=>by cases e);have XW:=ae (Below.refl vA.heap.size vA);have zxA:sb<vA.heap.size:=by have:=gA.size;omega
 clear yJ L8 VB fL qN hLT hLW cS4;go_wp2_with fail;clear ME;refine bO (fun w'=>w'.cell? ⟨b,4,none⟩=some (.map (some bs))/\w'.ownsMap prog 23 aZ bs n' D'/\w'.cell? ⟨gs,0,none⟩=some (.U I)/\w'.cell? ⟨gs,1,none⟩=some (.I Dl)/\w'.cell? ⟨gs,2,none⟩=some (.S pq nq cq)) (by rw [<-aX];exact aa Xw) fun hS=>?_;rw [<-aX] at hS ⊢;clear aX cI Yi hru fK hI ZB ZE hC hO ZN hH hSe;refine gC 0 2 3 4 hS ?_;refine fe 5 6 hS ?_;refine wpAnyH_take (i:=7) (oi:=_) (v:=?_) (by simp only [List.getElem?_toArray,List.getElem?_cons_succ,List.getElem?_cons_zero];rfl) (by kernel_rfl) (by kernel_rfl) (by kernel_rfl) (fun _ _ _ h=>h) (Or.inl ⟨by rfl,?_⟩) hS ?_;rotate_left;{(intro w' qi;(try dsimp only at qi);(have hlk:=De qi.2.1 XN.1 XN.2.1 XN.2.2);go_simp;try with_reducible rfl)}
 simp only [Act.put,xa,xb,xc];refine fe 8 9 hS ?_;refine ry [1,10] (cn (fun KK hK=>?_) (cn (fun KK hK=>?_) AllReadyH.nil));have cl:=CXA.1 4 _ rfl;go_simp;refine cg hK (by exact Xw) fun hS=>?_;clear hK KK cl;refine ry [10] (cn (fun KK hK=>?_) AllReadyH.nil)
 all_goals (
  refine ia (xM I Dl pq cq nq Qu ENQ _ (RQ.below XW) hnq Kf) ?_;rintro r v1 ⟨pe,ce,Ae,rfl,JR,IK,BN,bq⟩;refine ⟨_,rfl,?_⟩;have HE1:=ae (ag JR (ag IK (BN.mono (B':=vA.heap.size) XW.size)));obtain ⟨s1,s2,s3,s4,s5⟩:=aa Xw;have Xy:=ae (ag (af s1 bq) (ag (s2.kept (az bq none) (by simp)) (ag (af s3 bq) (ag (af s4 bq) (af s5 bq)))));have UI:=ae (CXA.below (by omega) bq);have qw:=ae (ah XW bq);have zx1:vA.heap.size<=v1.heap.size:=qw.size;clear s1 s2 s3 s4 s5;refine cg hK (by exact Xy) fun hS=>?_;clear hK KK bq JR IK BN
  skip)
 refine ry [11] (cn (fun KK hK=>?_) AllReadyH.nil);rotate_left;refine ry [1,11] (cn (fun KK hK=>?_) (cn (fun KK hK=>?_) AllReadyH.nil));have cl:=UI.1 4 _ rfl;go_simp;refine cg hK (by exact Xy) fun hS=>?_;clear hK KK cl;refine ry [11] (cn (fun KK hK=>?_) AllReadyH.nil)
 all_goals (
  go_simp;obtain ⟨v2,pG⟩:=ax (v1.alloc (.cells #[.U I,.I Dl,.S pe nq ce] 35));have bk:=ju pG;have Wl:∀ j u,([.U I,.I Dl,.S pe nq ce]:List Value)[j]?=some u->v2.cell? ⟨v1.heap.size,j,none⟩=some u:=fun j u hu=>by rw [pG];exact (aq.alloc v1 #[.U I,.I Dl,.S pe nq ce] 35).1 j u (by simpa using hu)
  rw [<-pG];obtain ⟨gE,hgE⟩:=ax v1.heap.size;rw [<-hgE] at Wl ⊢;obtain ⟨JR,IK,BN⟩:=aa HE1;have kE:∀ a∈Ae,v2.heap[a.b]?=v1.heap[a.b]?:=fun a ha=>bk.block _ (BN.vE.lt ha);have EL2:Hid (xE v2 (I,Dl,Qu) [.U I,.I Dl,.S pe nq ce] Ae/\lx vA.heap.size v2 Ae):=⟨⟨pe,ce,by rw [aa ENQ],by rw [aa ENQ];exact JR.cX IK kE,by rw [aa ENQ];exact Ek.aU IK kE⟩,BN.aU kE⟩;have Gy:=ae Wl;obtain ⟨s1,s2,s3,s4,s5⟩:=aa Xy;have Xx:=ae (ag (af s1 bk) (ag (s2.kept (az bk none) (by simp)) (ag (af s3 bk) (ag (af s4 bk) (af s5 bk)))));have SR:=ae (UI.below (by omega) bk);have Kj:=ae (ah qw bk);have zx2:vA.heap.size<=v2.heap.size:=Kj.size;clear s1 s2 s3 s4 s5;refine cg hK (by exact Xx) fun hS=>?_;clear hK KK pG bk Wl hgE JR IK BN kE
  skip)
 rotate_left;refine ry [1] (cn (fun KK hK=>?_) AllReadyH.nil);have cl:=SR.1 4 _ rfl;go_simp;refine cg hK (by exact Xx) fun hS=>?_;clear hK KK cl
 all_goals (
  have OC:=OA.below xE.aU Kj;obtain ⟨elC,apC⟩:=aa EL2;obtain ⟨cs,g1,g2,g3,g4,g5,g6,g7⟩:=id OC;have Mq:=OA.lt;have hle:(ss.take k).length<=1048576:=by rw [List.length_take];omega
  have zA1:=gA.size;have zA:w1.heap.size<=v2.heap.size:=by omega
  refine ry [12] ?_;refine cn (fun KK hK=>?_) ?_;{
 refine fR (by rfl) _ _ 24 (by rfl) w1.heap.size 35 is _ 3 40 underlying24 his sz0 sz1 sz2 rfl (by decide) Sv _ _ (by rfl) g4 gE 1 1 [.U I,.I Dl,.S pe nq ce] (by rfl) rfl (aa Gy) (fun u hu=>by simp at hu;rcases hu with rfl | rfl | rfl<;>rfl) (by unfold maxLen;omega) (by omega) zA ?_;intro v' w9 dW hg mr;have sn:=fu.snoc g1 g2 g3 g5 g6 g7 xE.aU elC rfl apC zA1 (fun a ha=>(Mq.2 a ha).2) (fun b hb=>(Mq.1 b hb).2) dW hg mr;rw [<-l9 (aa HY)] at sn;obtain ⟨pN,cN,Ua,-⟩:=id sn.read;obtain ⟨lN,Q7⟩:=ax ((ss.take (k+1)).length);rw [<-Q7] at Ua;subst Ua;clear Q7;have yA:∀ z,z<w1.heap.size->some z≠Sv.ownBlock:=fun z hz e=>by have:=(Mq.1 z e.symm).1;omega
 have fh:w1.grownBy w9 (some sb):=jt (jt gA (az Kj none) (fun b e=>by cases e)) hg (fun b e=>.inl (Mq.1 b e).1);have C9:=SR.grown (by omega) hg (yA sb (by omega));obtain ⟨t1,t2,t3⟩:=aa HLT;obtain ⟨s1,s2,s3,s4,s5⟩:=aa Xx;have S9:=ae (ag (hg.cell s1 (yA (b) t1)) (ag (s2.kept hg (yA (bs) t2)) (ag (hg.cell s3 (yA (gs) t3)) (ag (hg.cell s4 (yA (gs) t3)) (hg.cell s5 (yA (gs) t3))))));refine cg hK (by exact S9) fun hS=>?_;have SN:=ae sn;have cc:=C9.1 4 _ rfl;have cf:=C9.2;have Mp:=sn.lt;clear hK KK sn dW mr g1 g2 g3 g4 g5 g6 g7 elC apC OC s1 s2 s3 s4 s5;refine tn 13 hS ?_;refine bH 14 fun KK hK=>?_;go_simp;obtain ⟨wT,LP⟩:=ax (w9.setCell ⟨sb,4,none⟩ (.S pN lN cN));have CT:=C9.dI 4 (by simp) (.S pN lN cN);have Mr:∀ z,z≠sb->wT.heap[z]?=w9.heap[z]?:=fun z hz=>by rw [LP];exact dF _ _ _ _ hz
 have gT:Hid (w1.grownBy wT (some sb)):=by show World.grownBy _ _ _;rw [LP];exact gK fh (aE _ _ _)
 have zT:w9.heap.size<=wT.heap.size:=by rw [LP];simp
 have OT:Hid (fu xE 35 3 w1.heap.size wT (.S pN lN cN) (ss.take (k+1)) (Ls++[Ae])):=SN.aU (xE.aU _ _) zT (fun z hz=>Mr z (by have:=(Mp.1 z hz).1;omega)) (fun y hy=>Mr _ (by have:=(Mp.2 y hy).1;omega));rw [<-LP] at CT ⊢;have Ty:=fun z (hz:z≠sb) o=>ai (Mr z hz) o;obtain ⟨s1,s2,s3,s4,s5⟩:=aa S9;have ST:=ag ((Ty _ t3b _).trans s1) (ag (rO s2 (Mr _ t4b)) (ag ((Ty _ t5b _).trans s3) (ag ((Ty _ t5b _).trans s4) ((Ty _ t5b _).trans s5))));refine cg hK (by exact ST) fun hS=>?_;have CT2:=ae CT;clear hK KK LP Mr Ty C9 cc cf CT hg fh zT ST s1 s2 s3 s4 s5;refine bu ?_;clear hS Mp Mq;go_wp2;go_roundw
 case rel=>exact ⟨k+1,_,_,by omega,by go_num,⟨CT2,OT⟩,gT⟩
 case measure=>simp [intOf];omega}
  exact AllReadyH.nil
  skip)}
 {
 have bm:=dy k nk;have Ex:k=nk:=by omega
 subst Ex;obtain ⟨hC,hO⟩:=aa pK;rw [List.take_of_length_le (by rw [aa ENK];exact Nat.le_refl _)] at hO;obtain ⟨w2,ew2⟩:=ax wr;subst ew2;have R2:=ae (R1.grown (by omega) (aa yb) (by simp;omega));obtain ⟨pS,cS,evS,-⟩:=id hO.read;obtain ⟨lS,Mp⟩:=ax ss.length;rw [<-Mp] at evS;subst evS;have HLS:=ae Mp;obtain ⟨Ve,A1,Th,Sz⟩:=hO.se;have HA1:=ae fun a ha=>Sz.vE.lt (a:=a) ha;have OS:=ae (ag Ve (ag Th Sz));clear Ve Th Sz;have CS:=ae hC;have z12:=yb.size;obtain ⟨hHd,-,MP⟩:=aa HS _ BB;obtain ⟨DN,nN,oN,hnN,mN⟩:=id MP.own;have k5:w2.cell? ⟨b,5,none⟩=some (.map (some bn)):=ay hHd 5;have MN:=ae mN;clear hO hC Mp hHd mN pK hk bj bm R1 C1 HKV yb;go_wp2_with fail;refine (T.aa4 bn nN DN _ oN (Nat.le_trans oN.size_le hnN)).mono ?_;rintro r w3 ⟨kv,ks,rfl,Ez,Ca,dA⟩;obtain rfl:=qH MP hn MN Ez;obtain ⟨pk2,ck2,rfl,xv⟩:=AJ Ca;obtain ⟨Vi,WR⟩:=ax ns.length;rw [<-WR];have ap6:=ae WR;have bm2:Vi<=1048576:=by omega
 have HKN:=ae xv;have b3:=ah BB dA;have z3:=dA.size;have C3:=ae (CS.below (by omega) dA);have R3:=ae (R2.below (by omega) dA);have kS3:∀ a∈A1,w3.heap[a.b]?=w2.heap[a.b]?:=fun a ha=>dA.block _ (aa HA1 a ha);have O3:=ae (ag (OS.1.cX OS.2.1 kS3) (ag (Pq.aU OS.2.1 kS3) (OS.2.2.aU kS3)));clear xv Ca Ez dA k5 MP oN WR CS R2 OS BB kS3;go_wp2_with fail
 go_loopw [56] (fun iv wr=>∃ (k:Nat) (Sv:Value) (Ls:List (List Lf)),k<=Vi/\iv=.I k/\Hid (aq wr sb [.U e,.U g,.U x,.I t,.S pS lS cS,Sv]/\fu mT 38 8 w3.heap.size wr Sv (ns.take k) Ls)/\Hid (w3.grownBy wr (some sb))) (fun iv _=>Vi-(intOf iv).toNat)
 case atStart=>exact ⟨0,_,[],Nat.zero_le _,rfl,⟨C3,fu.nil _ _ _ _ _⟩,qR _ _⟩
 case round =>(
 obtain ⟨k,Sv,Ls,hk,rfl,pK,yb⟩:=hrel;have BB:=qY b3 yb (by omega);by_cases bj:k<Vi;{
 have bm:=aT k Vi;have fL:k<ns.length:=by rw [<-aa ap6];exact bj
 obtain ⟨nd,hy⟩:∃ y,ns[k]?=some y:=⟨_,aK fL⟩;obtain ⟨hH,-,hNo⟩:=aa HS _ BB;obtain ⟨gs,qN,fK⟩:=xg hNo hy;obtain ⟨Vb,hb,ub,Ra⟩:=hNo.aI k _ gs hy qN;obtain ⟨Cd,uW,OY,Q8,Ya,hl6,hl7⟩:=aa hln _ (aF hy);obtain ⟨gk,rfl,ME⟩:∃ gk,pk2=some ⟨gk,0,none⟩/\wr.cell? ⟨gk,k,none⟩=some (.string (aC nd.path)):=by rcases aa HKN with h0 | ⟨gk,rfl,h1,h2,h3⟩;{rw [h0] at fL;simp at fL};{exact ⟨gk,rfl,(ai (yb.block gk h2 (by simp;omega)) _).trans (by have:=h3 k nd hy;rwa [Nat.zero_add] at this)⟩}
 have HY:=ae hy;obtain ⟨hC,hO⟩:=aa pK;have ZN:wr.cell? ⟨b,5,none⟩=some (.map (some bn)):=ay hH 5;obtain ⟨D',n',ZB,I0,ZE⟩:=hNo.own;have XN:=ae (ag ZE (ag fK uW));have hLW:b<w.heap.size/\bn<w.heap.size/\gs<w.heap.size:=aa HLN k _ gs hy qN;have hLT:b<w3.heap.size/\bn<w3.heap.size/\gs<w3.heap.size:=by have:=b3.size;omega
 have HLT:=ae hLT;have t3b:b≠sb:=by omega
 have t4b:bn≠sb:=by omega
 have t5b:gs≠sb:=by omega
 obtain ⟨vA,aX⟩:=ax wr.drew;have cI:=dG aX;have Xw:=ae (ag (af ZN cI) (ZB.kept (az cI none) (by simp)));have RQ:=ae (Ra.below cI);have OA:=ae (hO.below mT.aU cI);have CXA:=ae (hC.below (by have:=yb.size;omega) cI);have gA:Hid (w3.grownBy vA (some sb)):=jt yb (az cI none) (fun b e=>by cases e);have XW:=ae (Below.refl vA.heap.size vA);have zxA:sb<vA.heap.size:=by have:=gA.size;omega
 clear fL qN hLT hLW;go_wp2_with fail;clear ME;refine bO (fun w'=>w'.cell? ⟨b,5,none⟩=some (.map (some bn))/\w'.ownsMap prog 9 aZ bn n' D') (by rw [<-aX];exact aa Xw) fun hS=>?_;rw [<-aX] at hS ⊢;clear aX cI Ra fK ZB ZE hC hO ZN hH hNo;refine gC 0 2 3 4 hS ?_;refine fe 5 6 hS ?_;refine wpAnyH_take (i:=7) (oi:=_) (v:=?_) (by simp only [List.getElem?_toArray,List.getElem?_cons_succ,List.getElem?_cons_zero];rfl) (by kernel_rfl) (by kernel_rfl) (by kernel_rfl) (fun _ _ _ h=>h) (Or.inl ⟨by rfl,?_⟩) hS ?_;rotate_left;{(intro w' qi;(try dsimp only at qi);(have hlk:=Df qi.2 XN.1 XN.2.1 XN.2.2);go_simp;try with_reducible rfl)}
 simp only [Act.put,xa,xb,xc];refine tn 8 hS ?_;refine ry [1,9] (cn (fun KK hK=>?_) (cn (fun KK hK=>?_) AllReadyH.nil));have cl:=CXA.1 5 _ rfl;go_simp;refine cg hK (by exact Xw) fun hS=>?_;clear hK KK cl;refine ry [9] (cn (fun KK hK=>?_) AllReadyH.nil)
 all_goals (
  refine lD (Lm gs hb ub Vb nd _ (RQ.below XW) hl6 hl7 uW OY Q8 Ya Cd) ?_;rintro r v1 ⟨cn,Ae,rfl,YA,BN,bq⟩;obtain ⟨q0,q1,q2,q3,q4,q5,q6,q7,ecn,one⟩:=YA.cells;subst ecn;refine ⟨_,rfl,?_⟩;have HE1:=ae (ag YA (ag one (BN.mono (B':=vA.heap.size) XW.size)));obtain ⟨s1,s2⟩:=aa Xw;have Xy:=ae (ag (af s1 bq) (s2.kept (az bq none) (by simp)));have UI:=ae (CXA.below (by omega) bq);have qw:=ae (ah XW bq);have zx1:vA.heap.size<=v1.heap.size:=qw.size;clear s1 s2;refine cg hK (by exact Xy) fun hS=>?_;clear hK KK bq YA BN one
  skip)
 refine ry [10] (cn (fun KK hK=>?_) AllReadyH.nil);rotate_left;refine ry [1,10] (cn (fun KK hK=>?_) (cn (fun KK hK=>?_) AllReadyH.nil));have cl:=UI.1 5 _ rfl;go_simp;refine cg hK (by exact Xy) fun hS=>?_;clear hK KK cl;refine ry [10] (cn (fun KK hK=>?_) AllReadyH.nil)
 all_goals (
  go_simp;obtain ⟨v2,pG⟩:=ax (v1.alloc (.cells #[q0,q1,q2,q3,q4,q5,q6,q7] 38));have bk:=ju pG;have Wl:∀ j u,([q0,q1,q2,q3,q4,q5,q6,q7]:List Value)[j]?=some u->v2.cell? ⟨v1.heap.size,j,none⟩=some u:=fun j u hu=>by rw [pG];exact (aq.alloc v1 #[q0,q1,q2,q3,q4,q5,q6,q7] 38).1 j u (by simpa using hu)
  rw [<-pG];obtain ⟨gE,hgE⟩:=ax v1.heap.size;rw [<-hgE] at Wl ⊢;obtain ⟨YA,one,BN⟩:=aa HE1;have kE:∀ a∈Ae,v2.heap[a.b]?=v1.heap[a.b]?:=fun a ha=>bk.block _ (BN.vE.lt ha);have EL2:Hid (mT v2 nd [q0,q1,q2,q3,q4,q5,q6,q7] Ae/\lx vA.heap.size v2 Ae):=⟨mT.aU _ _ _ _ _ YA kE,BN.aU kE⟩;have ONE:=ae one;have Gy:=ae Wl;obtain ⟨s1,s2⟩:=aa Xy;have Xx:=ae (ag (af s1 bk) (s2.kept (az bk none) (by simp)));have SR:=ae (UI.below (by omega) bk);have Kj:=ae (ah qw bk);have zx2:vA.heap.size<=v2.heap.size:=Kj.size;clear s1 s2;refine cg hK (by exact Xx) fun hS=>?_;clear hK KK pG bk Wl hgE YA BN kE one
  skip)
 rotate_left;refine ry [1] (cn (fun KK hK=>?_) AllReadyH.nil);have cl:=SR.1 5 _ rfl;go_simp;refine cg hK (by exact Xx) fun hS=>?_;clear hK KK cl
 all_goals (
  have OC:=OA.below mT.aU Kj;obtain ⟨elC,apC⟩:=aa EL2;obtain ⟨cs,g1,g2,g3,g4,g5,g6,g7⟩:=id OC;have Mq:=OA.lt;have hle:(ns.take k).length<=1048576:=by rw [List.length_take];omega
  have zA1:=gA.size;have zA:w3.heap.size<=v2.heap.size:=by omega
  refine ry [11] ?_;refine cn (fun KK hK=>?_) ?_;{
 refine fR (by rfl) _ _ 25 (by rfl) w3.heap.size 38 io _ 8 128 underlying25 hio oz0 oz1 oz2 rfl (by decide) Sv _ _ (by rfl) g4 gE 1 1 [q0,q1,q2,q3,q4,q5,q6,q7] (by rfl) rfl Gy ONE (by unfold maxLen;omega) (by omega) zA ?_;intro v' w9 dW hg mr;have sn:=fu.snoc g1 g2 g3 g5 g6 g7 mT.aU elC rfl apC zA1 (fun a ha=>(Mq.2 a ha).2) (fun b hb=>(Mq.1 b hb).2) dW hg mr;rw [<-l9 (aa HY)] at sn;obtain ⟨pN,cN,Ua,-⟩:=id sn.read;obtain ⟨lN,Q7⟩:=ax ((ns.take (k+1)).length);rw [<-Q7] at Ua;subst Ua;clear Q7;have yA:∀ z,z<w3.heap.size->some z≠Sv.ownBlock:=fun z hz e=>by have:=(Mq.1 z e.symm).1;omega
 have fh:w3.grownBy w9 (some sb):=jt (jt gA (az Kj none) (fun b e=>by cases e)) hg (fun b e=>.inl (Mq.1 b e).1);have C9:=SR.grown (by omega) hg (yA sb (by omega));obtain ⟨t1,t2,t3⟩:=aa HLT;obtain ⟨s1,s2⟩:=aa Xx;have S9:=ae (ag (hg.cell s1 (yA (b) t1)) (s2.kept hg (yA (bn) t2)));refine cg hK (by exact S9) fun hS=>?_;have SN:=ae sn;have cc:=C9.1 5 _ rfl;have cf:=C9.2;have Mp:=sn.lt;clear hK KK sn dW mr g1 g2 g3 g4 g5 g6 g7 elC apC OC s1 s2;refine tn 12 hS ?_;refine bH 13 fun KK hK=>?_;go_simp;obtain ⟨wT,LP⟩:=ax (w9.setCell ⟨sb,5,none⟩ (.S pN lN cN));have CT:=C9.dI 5 (by simp) (.S pN lN cN);have Mr:∀ z,z≠sb->wT.heap[z]?=w9.heap[z]?:=fun z hz=>by rw [LP];exact dF _ _ _ _ hz
 have gT:Hid (w3.grownBy wT (some sb)):=by show World.grownBy _ _ _;rw [LP];exact gK fh (aE _ _ _)
 have zT:w9.heap.size<=wT.heap.size:=by rw [LP];simp
 have OT:Hid (fu mT 38 8 w3.heap.size wT (.S pN lN cN) (ns.take (k+1)) (Ls++[Ae])):=SN.aU (mT.aU _ _) zT (fun z hz=>Mr z (by have:=(Mp.1 z hz).1;omega)) (fun y hy=>Mr _ (by have:=(Mp.2 y hy).1;omega));rw [<-LP] at CT ⊢;have Ty:=fun z (hz:z≠sb) o=>ai (Mr z hz) o;obtain ⟨s1,s2⟩:=aa S9;have ST:=ag ((Ty _ t3b _).trans s1) (rO s2 (Mr _ t4b));refine cg hK (by exact ST) fun hS=>?_;have CT2:=ae CT;clear hK KK LP Mr Ty C9 cc cf CT hg fh zT ST s1 s2;refine bu ?_;clear hS Mp Mq;go_wp2;go_roundw
 case rel=>exact ⟨k+1,_,_,by omega,by go_num,⟨CT2,OT⟩,gT⟩
 case measure=>simp [intOf];omega}
  exact AllReadyH.nil
  skip)}
 {
 have bm:=dy k Vi;have Ex:k=Vi:=by omega
 subst Ex;obtain ⟨hC,hO⟩:=aa pK;rw [List.take_of_length_le (by rw [aa ap6];exact Nat.le_refl _)] at hO;obtain ⟨pN,cN,Ua,-⟩:=id hO.read;obtain ⟨lN,Q7⟩:=ax ns.length;rw [<-Q7] at Ua;subst Ua;obtain ⟨Te,A2,ZF,apN⟩:=hO.no;obtain ⟨Ve,Th,Sz⟩:=aa O3;have R4:=R3.grown (by omega) (aa yb) (by simp;omega);have c0:=hC.1 0 _ rfl;have c1:=hC.1 1 _ rfl;have c2:=hC.1 2 _ rfl;have c3:=hC.1 3 _ rfl;have c4:=hC.1 4 _ rfl;have c5:=hC.1 5 _ rfl;have r0:=R4.1 0 _ rfl;have r1:=R4.1 1 _ rfl;have r2:=R4.1 2 _ rfl;have r3:=R4.1 3 _ rfl;have r4:=R4.1 4 _ rfl;have r5:=R4.1 5 _ rfl;have rf:=R4.2;have Tn:¬ w.heap.size=sb:=by omega
 have hsn:¬ sb=w.heap.size:=by omega
 have YN:=ae (ag Te (ag ZF apN));have FIS:=ae (ag Ve (ag Th Sz));have bb9:=ae Q7;have z3r:=yb.size;clear Te ZF apN Ve Th Sz hO hC R4 pK Q7;go_wp2;obtain ⟨Te,ZF,apN⟩:=aa YN;obtain ⟨Ve,Th,Sz⟩:=aa FIS;obtain ⟨Z,hZ⟩:=ax ((((((wr.setCell ⟨w.heap.size,0,none⟩ (.U e)).setCell ⟨w.heap.size,1,none⟩ (.U g)).setCell ⟨w.heap.size,2,none⟩ (.U x)).setCell ⟨w.heap.size,3,none⟩ (.I t)).setCell ⟨w.heap.size,4,none⟩ (.S pS lS cS)).setCell ⟨w.heap.size,5,none⟩ (.S pN lN cN));have hkZ:∀ z,z≠w.heap.size->Z.heap[z]?=wr.heap[z]?:=fun z hz=>by
  rw [hZ]
  iterate 6 rw [dF _ _ _ _ hz]
 have k1:∀ a∈A1,Z.heap[a.b]?=w3.heap[a.b]?:=fun a ha=>by have h1:=aa HA1 a ha;have h2:=Sz.lo a ha;rw [hkZ _ (by omega)];exact yb.block _ (by omega) (by simp;omega)
 have k2:∀ a∈A2,Z.heap[a.b]?=wr.heap[a.b]?:=fun a ha=>by have h2:=apN.lo a ha;exact hkZ _ (by have:=b3.size;omega)
 have Yk:Bw w Z:=by rw [hZ];exact (((((BB.setCell aA _).setCell aA _).setCell aA _).setCell aA _).setCell aA _).setCell aA _
 have eS:=aa HLS;have eN:=aa bb9;refine bodyPost_ret (v:=cY e g x t (.S pS lS cS) (.S pN lN cN)) (by simp [results,results38,go_sem,r0,r1,r2,r3,r4,r5,c0,c1,c2,c3,c4,c5]) rfl ?_;rw [<-hZ];subst eS eN;refine ⟨pS,cS,pN,cN,rfl,Ve.cX Th k1,Te.cX ZF k2,A1,Pq.aU Th k1,A2,SE.aU ZF k2,?_,Yk⟩;exact ((Sz.aU k1).app (apN.aU k2) (by omega) (fun a ha=>by have:=aa HA1 a ha;omega)).mono (by omega)})})
theorem GX {α:Type} {R:α->α->Prop} {l:List α} (h:∀ (i j:Nat) (a b:α),l[i]?=some a->l[j]?=some b->i<j->R a b):l.Pairwise R:=by
 rw [List.pairwise_iff_getElem];intro i j hi hj jc;exact h i j _ _ (aK hi) (aK hj) jc
theorem Qh (h:jh x ss=true):ss.Pairwise (fun s s'=>s.1<s'.1):=by
 refine GX fun i j s s' hi hj jc=>?_;rw [jh,Bool.and_eq_true] at h;have:=sP h.2 (fun i j k h1 h2=>by simp at h1 h2 ⊢;omega) j i (aN.1 hj).1 jc;simpa only [List.getD_eq_getElem?_getD,hi,hj,Option.getD_some,decide_eq_true_eq] using this
theorem QA {g:Int} (h:jk e g ns=true):(ns.map fun nd=>ko nd.path).Pairwise (·<·):=by
 rw [List.pairwise_map];refine GX fun i j s s' hi hj jc=>?_;rw [jk,Bool.and_eq_true] at h;have:=sP h.2 (fun i j k h1 h2=>j8.2 (sO (j8.1 h1) (j8.1 h2))) j i (aN.1 hj).1 jc;simp only [List.getD_eq_getElem?_getD,hi,hj,Option.getD_some] at this;rw [j8,T.j9,decide_eq_true_eq,dR,dR] at this;exact this
theorem Eh (h:Ei l=true):l.Pairwise (·<·):=by
 refine GX fun i j s s' hi hj jc=>?_;rw [Ei] at h;have:=sP h (fun i j k h1 h2=>by simp at h1 h2 ⊢;omega) j i (aN.1 hj).1 jc;simpa only [List.getD_eq_getElem?_getD,hi,hj,Option.getD_some,decide_eq_true_eq] using this
theorem CM {g:Int} (h:jk e g ns=true):∀ nd∈ns,nd.holders.Pairwise (·<·)/\nd.watchers.Pairwise (·<·):=by
 intro nd aV;rw [jk,Bool.and_eq_true] at h;have h1:∀ y∈ns,tz e g y=true:=(ka ns fq (tz e g)).1 fun i hi=>List.all_eq_true.1 h.1 i (List.mem_range.2 hi);have:=h1 nd aV;simp only [tz,Bool.and_eq_true] at this;exact ⟨Eh this.2.2.2.1,Eh this.2.2.2.2⟩
structure BT (ss:List aY) (ns:List aD):Prop where
 s1:ss.Pairwise (fun s s'=>s.1<s'.1)
 n1:(ns.map fun nd=>ko nd.path).Pairwise (·<·)
 s2:∀ s∈ss,(0<=s.1/\s.1<18446744073709551616)/\s.2.2.length<=1048576/\∀ e∈s.2.2,e.2.length<=1048576
 n2:∀ nd∈ns,bM nd.path/\nd.path.length<=1048576/\nd.value.length<=1048576/\nd.holders.length<=1048576/\nd.watchers.length<=1048576/\nd.holders.Pairwise (·<·)/\nd.watchers.Pairwise (·<·)
 s3:∀ (i j:Nat) (s s':aY),ss[i]?=some s->ss[j]?=some s'->i<j->s.1≠s'.1
 n3:∀ (i j:Nat) (z z':aD),ns[i]?=some z->ns[j]?=some z'->i<j->z.path≠z'.path
theorem Br {g:Int} (h:jY e g x t ss ns=true) (nO:∀ s∈ss,s.2.2.length<=1048576/\∀ e∈s.2.2,bM e.2/\e.2.length<=1048576)
  (fI:∀ nd∈ns,bM nd.path/\nd.path.length<=1048576/\nd.value.length<=1048576/\nd.holders.length<=1048576/\nd.watchers.length<=1048576):BT ss ns:=by
 obtain ⟨h1,h2,h3,h4,h5⟩:=(Cv e g x t ss ns).1 h;have hx:x<=4611686018427387904:=by simp only [wS,decide_eq_true_eq] at h1;exact h1.2.2.1
 refine ⟨Qh h2,QA h3,fun s hs=>⟨GO h2 hx s hs,(nO s hs).1,fun e he=>((nO s hs).2 e he).2⟩,fun nd aV=>?_,yY h2,zy h3⟩;obtain ⟨a,b,c,d,f⟩:=fI nd aV;exact ⟨a,b,c,d,f,(CM h3 nd aV).1,(CM h3 nd aV).2⟩
def AB (w0 w:World) (v:Value) (l:List Int):Prop:=Rd w0 v l\/TB w v l
theorem AB.rd (h:AB w0 w v l) (be:Bw w0 w):Rd w v l:=by
 rcases h with h | h;{exact h.below be};{exact h.1}
theorem AB.fr {T:List TypeId} (h:AB w0 w v l) (hf:Fr T w w') (ht:5∉T:=by decide):AB w0 w' v l:=by
 rcases h with h | h;{exact .inl h};{exact .inr (h.fr hf ht)}
def AQ (w0 w:World) (u:Value) (es:List Ev):Prop:=
 ∃ (p:Option Addr) (c:Nat),u=.S p es.length c/\(es=[]\/∃ b o,p=some ⟨b,o,none⟩/\(b<w0.heap.size\/∃ cur m,w.heap[b]?=some (.cells cur 49 m))/\∀ i e,es[i]?=some e->w.cell? ⟨b,o+i*2,none⟩=some (.I e.1)/\∃ u,w.cell? ⟨b,o+i*2+1,none⟩=some u/\AB w0 w u e.2/\iH u)
theorem AQ.IC (h:AQ w0 w u es) (be:Bw w0 w):jJ w u es:=by
 obtain ⟨p,c,rfl,h⟩:=h;refine ⟨p,c,rfl,?_⟩;rcases h with h | ⟨b,o,rfl,-,h⟩;{exact .inl h};{refine .inr ⟨b,o,rfl,fun i e he=>?_⟩;obtain ⟨h1,u,h2,h3,h4⟩:=h i e he;exact ⟨h1,u,h2,h3.rd be,h4⟩}
theorem AQ.of (h:jJ w0 u es) (be:Bw w0 w):AQ w0 w u es:=by
 obtain ⟨p,c,rfl,h⟩:=h;refine ⟨p,c,rfl,?_⟩;rcases h with h | ⟨b,o,rfl,h⟩;{exact .inl h};{by_cases h0:es=[];{exact .inl h0};{obtain ⟨e0,he0⟩:∃ e0,es[0]?=some e0:=⟨_,aK (List.length_pos_iff.2 h0)⟩;refine .inr ⟨b,o,rfl,.inl (World.block_lt_of_cell? w0 _ (h 0 e0 he0).1),fun i e he=>?_⟩;obtain ⟨h1,u,h2,h3,h4⟩:=h i e he;exact ⟨af h1 be,u,af h2 be,.inl h3,h4⟩}}
theorem AQ.fr {T:List TypeId} (h:AQ w0 w u es) (hb:Below w0.heap.size w w') (hf:Fr T w w') (ht:5∉T/\49∉T:=by decide):AQ w0 w' u es:=by
 obtain ⟨p,c,rfl,h⟩:=h;refine ⟨p,c,rfl,?_⟩;rcases h with h | ⟨b,o,rfl,hd,h⟩;{exact .inl h};{
 have hk:w'.heap[b]?=w.heap[b]?:=by rcases hd with hd | ⟨cur,m,hd⟩;{exact hb.block b hd};{exact (hf.2 _ _ _ _ ht.2 hd).trans hd.symm}
 refine .inr ⟨b,o,rfl,hd.imp id (fun ⟨cur,m,hd⟩=>⟨cur,m,hk.trans hd⟩),fun i e he=>?_⟩;obtain ⟨h1,u,h2,h3,h4⟩:=h i e he;exact ⟨(ai hk _).trans h1,u,(ai hk _).trans h2,h3.fr hf ht.1,h4⟩}
theorem AQ.nil (w0 w:World):AQ w0 w (.S none 0 0) []:=⟨none,0,rfl,.inl rfl⟩
theorem dB {R:Value->Option (DataW Unit × List MemPlace)} {b n:Nat} (h:w.ownsMap prog k R b n D):w.ownsMap prog k R b (Maps.size D) D:=by
 obtain ⟨es,clock,hb,F,hs,rfl⟩:=h;refine ⟨es,clock,hb,F,?_,rfl⟩;rw [Maps.size_eq,length_sorted];simp
theorem jZ {R:Value->Option (DataW Unit × List MemPlace)} {b n:Nat} (h:w.ownsMap prog k R b n D) (K:Keyed prog k):Tidy D:=by
 obtain ⟨es,e,hp,-⟩:=h.entries K;exact ⟨es,e,hp⟩
theorem mG {R:Value->Option (DataW Unit × List MemPlace)} {b n:Nat} (h:w.ownsMap prog k R b n D) (K:Keyed prog k) {L:List Lit} (hn:L.Nodup) (hh:∀ x,Maps.has D x=true↔x∈L):Maps.size D=L.length:=by
 obtain ⟨es,rfl,hp,hk⟩:=h.entries K;rw [Maps.size_eq,<-List.length_map (f:=Prod.fst)];refine List.Perm.length_eq ((List.perm_ext_iff_of_nodup (List.pairwise_map.2 hp) hn).2 fun x=>?_);rw [<-hh x,Maps.has_eq,List.any_eq_true,List.mem_map];constructor;{rintro ⟨p,hp1,rfl⟩;exact ⟨p,hp1,WideAt.sameKey_self (hk p hp1)⟩};{rintro ⟨p,hp1,hs⟩;refine ⟨p,hp1,Classical.byContradiction fun bL=>?_⟩;rw [sameKey_ne bL] at hs;cases hs}
def SM (w:World) (h:Nat) (s:List Int):Prop:=∃ D n,w.ownsMap prog 23 unitElem h n D/\n<=2097152/\db D s/\Maps.size D=s.length
structure PN (w0 w:World) (g h u:Nat) (nd:aD):Prop where
 lo:w0.heap.size<=g/\w0.heap.size<=h/\w0.heap.size<=u
 aI:∃ V,w.heap[g]?=some (.cells #[V,.U nd.owner,.I nd.mode,.map (some h),.U nd.aB,.U nd.gen,.map (some u)] 137)/\AB w0 w V nd.value
 Hn:SM w h nd.holders
 Iq:SM w u nd.watchers
def PE (w0 w:World) (g:Nat) (s:aY):Prop:=w0.heap.size<=g/\∃ u,w.heap[g]?=some (.cells #[.U s.1,.I s.2.1,u] 35)/\AQ w0 w u s.2.2
structure PS (w0 w:World) (b bs bn:Nat) (D:SD) (SB NB HB UB:List Nat):Prop where
 be:Bw w0 w
 hd:w.heap[b]?=some (.cells #[.U D.e,.U D.g,.U D.x,.I D.t,.map (some bs),.map (some bn)] 132)
 mF:SB.length=D.ss.length
 my:∃ M n,w.ownsMap prog 23 aZ bs n M/\n<=1048576/\fP M (List.zipWith (fun (s:aY) g=>(Lit.U s.1,g)) D.ss SB)/\Maps.size M=D.ss.length
 mH:∀ (i:Nat) (s:aY) (g:Nat),D.ss[i]?=some s->SB[i]?=some g->PE w0 w g s
 snd:SB.Nodup
 nE:NB.length=D.ns.length
 hlen:HB.length=D.ns.length
 oe:UB.length=D.ns.length
 jQ:∃ M n,w.ownsMap prog 9 aZ bn n M/\n<=1048576/\fP M (List.zipWith (fun (nd:aD) g=>(bN nd.path,g)) D.ns NB)/\Maps.size M=D.ns.length
 jC:∀ (i:Nat) (nd:aD) (g h u:Nat),D.ns[i]?=some nd->NB[i]?=some g->HB[i]?=some h->UB[i]?=some u->PN w0 w g h u nd
 Lp:NB.Nodup
 lo:w0.heap.size<=b/\w0.heap.size<=bs/\w0.heap.size<=bn
 BF:(bs::bn::(HB++UB)).Nodup
theorem SM.of {h n:Nat} (o:w.ownsMap prog 23 unitElem h n D) (hn:n<=2097152) (hs:db D s) (hd:s.Nodup):SM w h s:=by
 refine ⟨D,n,o,hn,hs,?_⟩;have hl:(s.map fun i:Int=>Lit.U i).length=s.length:=List.length_map _;rw [<-hl];refine mG o gR (List.pairwise_map.2 (hd.imp fun bL e=>bL (by simpa using e))) fun x=>?_;rw [hs x,List.mem_map];constructor;{rintro ⟨i,hi,rfl⟩;exact ⟨i,hi,rfl⟩};{rintro ⟨i,hi,rfl⟩;exact ⟨i,hi,rfl⟩}
theorem SM.kept (k:SM w h s) (hk:w'.heap[h]?=w.heap[h]?):SM w' h s:=by
 obtain ⟨D,n,o,h1,h2,h3⟩:=k;exact ⟨D,n,oy o (fun es c hh=>hk.trans hh),h1,h2,h3⟩
theorem jB (h:s.Pairwise (·<·)):s.Nodup:=h.imp fun hl e=>by omega
theorem PS.of {g:Int} {SB NB HB UB:List Nat} (h:kc w0 w b bs bn e g x t ss ns SB NB HB UB) (be:Bw w0 w) (hF:BT ss ns) (ls:ss.length<=1048576) (ln:ns.length<=1048576):PS w0 w b bs bn ⟨e,g,x,t,ss,ns⟩ SB NB HB UB:=by
 refine ⟨be,h.hd,h.Fc.len,?_,fun i s gb hs hg=>?_,h.Fc.me,h.me.len,h.me.Fp,h.me.Fo,?_,fun i nd gb hh uu hs hg h1 h2=>?_,h.me.me,h.lo,h.BF⟩;{obtain ⟨D,o,m⟩:=h.Fc.own;refine ⟨D,_,o,ls,m,?_⟩;have hl:(ss.map fun s=>Lit.U s.1).length=ss.length:=List.length_map _;rw [<-hl];refine mG o gR (List.pairwise_map.2 (hF.s1.imp fun bj e=>by simp at e;omega)) fun k=>?_;rw [m.hs k,List.mem_map];constructor;{rintro ⟨p,hp,rfl⟩;obtain ⟨i,s,y,h1,-,rfl⟩:=gM hp;exact ⟨s,aF h1,rfl⟩};{rintro ⟨s,hs,rfl⟩;obtain ⟨i,hi⟩:=List.mem_iff_getElem?.1 hs;obtain ⟨y,hy⟩:∃ y,SB[i]?=some y:=⟨_,aK (by rw [h.Fc.len];exact (aN.1 hi).1)⟩;exact ⟨_,aF (i:=i) (by rw [List.getElem?_zipWith,hi,hy]),rfl⟩}};{obtain ⟨q0,u,q1,q2⟩:=h.Fc.aI i s gb hs hg;exact ⟨q0,u,q1,AQ.of q2 be⟩};{obtain ⟨D,o,m⟩:=h.me.own;refine ⟨D,_,o,ln,m,?_⟩;have hl:(ns.map fun nd=>bN nd.path).length=ns.length:=List.length_map _;rw [<-hl];refine mG o kM (List.pairwise_map.2 (GX fun i j a c ha hc jc e=>hF.n3 i j a c ha hc jc (jD (hF.n2 a (aF ha)).1 (hF.n2 c (aF hc)).1 e))) fun k=>?_;rw [m.hs k,List.mem_map];constructor;{rintro ⟨p,hp,rfl⟩;obtain ⟨i,s,y,h1,-,rfl⟩:=gM hp;exact ⟨s,aF h1,rfl⟩};{rintro ⟨s,hs,rfl⟩;obtain ⟨i,hi⟩:=List.mem_iff_getElem?.1 hs;obtain ⟨y,hy⟩:∃ y,NB[i]?=some y:=⟨_,aK (by rw [h.me.len];exact (aN.1 hi).1)⟩;exact ⟨_,aF (i:=i) (by rw [List.getElem?_zipWith,hi,hy]),rfl⟩}};{obtain ⟨q0,q1,q2,⟨V,q3,q4⟩,⟨D1,o1,m1⟩,⟨D2,o2,m2⟩⟩:=h.me.aI i nd gb hh uu hs hg h1 h2;obtain ⟨-,-,-,l1,l2,n1,n2⟩:=hF.n2 nd (aF hs);exact ⟨⟨q0,q1,q2⟩,⟨V,q3,.inl q4⟩,SM.of o1 (by omega) m1 (jB n1),SM.of o2 (by omega) m2 (jB n2)⟩}
theorem PS.sto {D:SD} {SB NB HB UB:List Nat} (h:PS w0 w b bs bn D SB NB HB UB):Sto w b bs bn D.e D.g D.x D.t D.ss D.ns SB NB:=by
 refine ⟨h.hd,⟨h.mF,?_,fun i s gb hs hg=>?_⟩,⟨h.nE,?_,fun i nd gb hs hg=>?_⟩⟩;{obtain ⟨M,n,o,hn,m,-⟩:=h.my;exact ⟨M,n,o,hn,m⟩};{obtain ⟨-,u,q1,q2⟩:=h.mH i s gb hs hg;exact ⟨u,q1,q2.IC h.be⟩};{obtain ⟨M,n,o,hn,m,-⟩:=h.jQ;exact ⟨M,n,o,hn,m⟩};{have hi:=(aN.1 hs).1;obtain ⟨hh,jT⟩:∃ y,HB[i]?=some y:=⟨_,aK (by rw [h.hlen];exact hi)⟩;obtain ⟨uu,jX⟩:∃ y,UB[i]?=some y:=⟨_,aK (by rw [h.oe];exact hi)⟩;obtain ⟨-,⟨V,q1,q2⟩,⟨D1,n1,o1,-,s1,z1⟩,⟨D2,n2,o2,-,s2,z2⟩⟩:=h.jC i nd gb hh uu hs hg jT jX;exact ⟨V,hh,uu,q1,q2.rd h.be,⟨D1,z1▸dB o1,s1⟩,⟨D2,z2▸dB o2,s2⟩⟩}
structure One (w0 w w':World) (g:Nat):Prop where
 b:Below w0.heap.size w w'
 k:∀ z,z<w.heap.size->z≠g->w'.heap[z]?=w.heap[z]?
 t:∀ cur ty m,w.heap[g]?=some (.cells cur ty m)->ty∈[35,137,132]
theorem One.fr (h:One w0 w w' g):Fr [35,137,132] w w':=by
 refine ⟨h.b.size,fun b cur ty m hn hb=>?_⟩;by_cases e:b=g;{subst e;exact absurd (h.t _ _ _ hb) hn};{exact (h.k b (aG hb) e).trans hb}
theorem One.obj {g z:Nat} {o:Obj} (h:One w0 w w' g) (hz:w.heap[z]?=some o) (bL:z≠g):w'.heap[z]?=some o:=(h.k z (aG hz) bL).trans hz
theorem ownsMap_at {R:Value->Option (DataW Unit × List MemPlace)} {b n:Nat} (h:w.ownsMap prog k R b n D):∃ es c,w.heap[b]?=some (.map es c):=by
 obtain ⟨es,c,h1,-⟩:=h;exact ⟨es,c,h1⟩
theorem One.map {g z n:Nat} {R:Value->Option (DataW Unit × List MemPlace)} (h:One w0 w w' g) (hz:w.ownsMap prog k R z n D) (bL:z≠g):w'.ownsMap prog k R z n D:=
 oy hz (fun es c hh=>h.obj hh bL)
theorem SM.aU (k:SM w h s) (O:One w0 w w' g) (bL:h≠g):SM w' h s:=by
 obtain ⟨D,n,o,h1,h2,h3⟩:=k;exact ⟨D,n,O.map o bL,h1,h2,h3⟩
theorem SM.at (k:SM w h s):∃ es c,w.heap[h]?=some (.map es c):=by
 obtain ⟨D,n,o,-⟩:=k;exact ownsMap_at o
theorem PE.aU {s:aY} (h:PE w0 w gb s) (O:One w0 w w' g) (bL:gb≠g):PE w0 w' gb s:=by
 obtain ⟨h0,u,h1,h2⟩:=h;exact ⟨h0,u,O.obj h1 bL,h2.fr O.b O.fr (by decide)⟩
theorem PN.aU (h:PN w0 w gb hh uu nd) (O:One w0 w w' g) (h1:gb≠g) (h2:hh≠g) (h3:uu≠g):PN w0 w' gb hh uu nd:=by
 obtain ⟨h0,⟨V,q1,q2⟩,q3,q4⟩:=h;exact ⟨h0,⟨V,O.obj q1 h1,q2.fr O.fr⟩,q3.aU O h2,q4.aU O h3⟩
section
variable {w0 w w':World} {b bs bn:Nat} {D:SD} {SB NB HB UB:List Nat}
theorem PS.nat (h:PS w0 w b bs bn D SB NB HB UB) (hi:D.ns[i]?=some nd):∃ g hh uu,NB[i]?=some g/\HB[i]?=some hh/\UB[i]?=some uu/\PN w0 w g hh uu nd:=by
 have hl:=(aN.1 hi).1;obtain ⟨g,hg⟩:∃ y,NB[i]?=some y:=⟨_,aK (by rw [h.nE];exact hl)⟩;obtain ⟨hh,jT⟩:∃ y,HB[i]?=some y:=⟨_,aK (by rw [h.hlen];exact hl)⟩;obtain ⟨uu,jX⟩:∃ y,UB[i]?=some y:=⟨_,aK (by rw [h.oe];exact hl)⟩;exact ⟨g,hh,uu,hg,jT,jX,h.jC i nd g hh uu hi hg jT jX⟩
theorem PS.sat (h:PS w0 w b bs bn D SB NB HB UB) {s:aY} (hi:D.ss[i]?=some s):∃ g,SB[i]?=some g/\PE w0 w g s:=by
 have hl:=(aN.1 hi).1;obtain ⟨g,hg⟩:∃ y,SB[i]?=some y:=⟨_,aK (by rw [h.mF];exact hl)⟩;exact ⟨g,hg,h.mH i s g hi hg⟩
theorem PS.ZD (h:PS w0 w b bs bn D SB NB HB UB) (hg:NB[i]?=some g):∃ nd,D.ns[i]?=some nd:=⟨_,aK (by rw [<-h.nE];exact (aN.1 hg).1)⟩
theorem PS.below (h:PS w0 w b bs bn D SB NB HB UB) (hb:Bw w w'):PS w0 w' b bs bn D SB NB HB UB:=by
 have O:One w0 w w' w.heap.size:=⟨hb.mono h.be.size,fun z hz _=>hb.block z hz,fun cur ty m hc=>absurd (aG hc) (Nat.lt_irrefl _)⟩;have hn:∀ {z:Nat} {o:Obj},w.heap[z]?=some o->z≠w.heap.size:=fun hz e=>by have:=aG hz;omega
 refine ⟨h.be.trans (hb.mono h.be.size),O.obj h.hd (hn h.hd),h.mF,?_,fun i s g hs hg=>?_,h.snd,h.nE,h.hlen,h.oe,?_,fun i nd g hh uu hs hg h1 h2=>?_,h.Lp,h.lo,h.BF⟩;{obtain ⟨M,n,o,r⟩:=h.my;obtain ⟨es,c,hm⟩:=ownsMap_at o;exact ⟨M,n,O.map o (hn hm),r⟩};{have q:=h.mH i s g hs hg;obtain ⟨-,u,h1,-⟩:=id q;exact q.aU O (hn h1)};{obtain ⟨M,n,o,r⟩:=h.jQ;obtain ⟨es,c,hm⟩:=ownsMap_at o;exact ⟨M,n,O.map o (hn hm),r⟩};{have q:=h.jC i nd g hh uu hs hg h1 h2;obtain ⟨-,⟨V,q1,-⟩,q3,q4⟩:=id q;obtain ⟨es,c,m3⟩:=q3.at;obtain ⟨RN,c',m4⟩:=q4.at;exact q.aU O (hn q1) (hn m3) (hn m4)}
theorem A0 {l:List Nat} (hn:l.Nodup) {j a c:Nat} (hi:l[i]?=some a) (hj:l[j]?=some c) (jc:i≠j):a≠c:=fun e=>jc (IG hn hi (e▸hj))
theorem PS.hu (h:PS w0 w b bs bn D SB NB HB UB):bs≠bn/\(∀ z∈HB,z≠bs/\z≠bn)/\(∀ z∈UB,z≠bs/\z≠bn)/\HB.Nodup/\UB.Nodup/\∀ y∈HB,∀ z∈UB,y≠z:=by
 have hd:=h.BF;simp only [List.nodup_cons,List.mem_cons,List.mem_append,not_or] at hd;obtain ⟨⟨d0,d1,d2⟩,⟨d3,d4⟩,d5⟩:=hd;rw [List.nodup_append] at d5;exact ⟨d0,fun z hz=>⟨fun e=>d1 (e▸hz),fun e=>d3 (e▸hz)⟩,fun z hz=>⟨fun e=>d2 (e▸hz),fun e=>d4 (e▸hz)⟩,d5.1,d5.2.1,fun y hy z hz=>d5.2.2 y hy z hz⟩
theorem PS.GI (h:PS w0 w b bs bn D SB NB HB UB) {s s':aY} (hs:D.ss[i]?=some s) (hg:SB[i]?=some g) (O:One w0 w w' g) (hid:s'.1=s.1) (hE:PE w0 w' g s'):PS w0 w' b bs bn { D with ss:=D.ss.set i s' } SB NB HB UB:=by
 obtain ⟨g0,u0,gc,-⟩:=h.mH i s g hs hg;have Bg:=(aN.1 hs).1;have nc:∀ {z:Nat} {cs:Array Value} {ty:TypeId},w.heap[z]?=some (.cells cs ty)->ty≠35->z≠g:=fun hz ht e=>by rw [e,gc] at hz;simp at hz;exact ht hz.2.symm
 have nm:∀ {z:Nat} {es:Array MapEntry} {c:Nat},w.heap[z]?=some (.map es c)->z≠g:=fun hz e=>by rw [e,gc] at hz;cases hz
 refine ⟨h.be.trans O.b,O.obj h.hd (nc h.hd (by decide)),by rw [List.length_set];exact h.mF,?_,fun j s1 g1 gx fO=>?_,h.snd,h.nE,h.hlen,h.oe,?_,fun j nd gb hh uu gx fO h1 h2=>?_,h.Lp,h.lo,h.BF⟩;{
 obtain ⟨M,n,o,hn,m,hz⟩:=h.my;obtain ⟨es,c,hm⟩:=ownsMap_at o;refine ⟨M,n,O.map o (nm hm),hn,?_,by simp only [List.length_set];exact hz⟩;have e:List.zipWith (fun (s:aY) g=>(Lit.U s.1,g)) (D.ss.set i s') SB=List.zipWith (fun (s:aY) g=>(Lit.U s.1,g)) D.ss SB:=by refine List.ext_getElem? fun j=>?_;rw [List.getElem?_zipWith,List.getElem?_zipWith,List.getElem?_set];by_cases ej:i=j;{subst ej;rw [if_pos rfl,if_pos Bg,hs,hg];simp [hid]};{simp [ej]}
 rw [e];exact m};{simp only [List.getElem?_set] at gx;by_cases ej:i=j;{subst ej;rw [hg] at fO;cases fO;simp [Bg] at gx;subst gx;exact hE};{simp [ej] at gx;exact (h.mH j s1 g1 gx fO).aU O (A0 h.snd fO hg (fun e=>ej e.symm))}};{obtain ⟨M,n,o,r⟩:=h.jQ;obtain ⟨es,c,hm⟩:=ownsMap_at o;exact ⟨M,n,O.map o (nm hm),r⟩};{have q:=h.jC j nd gb hh uu gx fO h1 h2;obtain ⟨-,⟨V,q1,-⟩,q3,q4⟩:=id q;obtain ⟨es,c,m3⟩:=q3.at;obtain ⟨RN,c',m4⟩:=q4.at;exact q.aU O (nc q1 (by decide)) (nm m3) (nm m4)}
end
theorem Jb (n:Nat) (w:World) (hn:n<=2097152) :
  Calls prog 264 #[.S none 0 0,.I n] w fun e w'=>∃ p' c',e=.returned (.S p' 0 c')/\w'.ownsRow w.heap.size 49 2 (.S p' 0 c') 0 []/\Bw w w':=by
 obtain ⟨i,hi,mw,iT,jW⟩:=info_parts Tryz.infoEv;by_cases h:n=0;{subst h;go_enter func264,ntmps264;go_wp2;go_ret;exact ⟨none,0,rfl,World.ownsRow_nil _ _ _ _,Below.refl _ _⟩};{
 have hp:=ja 0 n;have hr:=Lib.run_append_nil_zeros (P:=prog) w 33 3 33 49 i (.agg #[.I 0,.S none 0 0]) .i64 .i64 underlying33 underlying3 hi mw n (by omega) (by omega) (by omega) (by rw [jW];omega);have HR:=ae hr;have qP:=grownCap_ge w n 0 49;have Bn:=grownCap_le_maxLen w n 0 49 (by unfold maxLen;omega);generalize grownCap w n 0 49=cc at HR qP Bn;go_enter func264,ntmps264;go_wp2_with (at_builtin;refine Lib.wpList_append_run _ rfl _ _ _ _ rfl _ _ rfl rfl _ _ (by exact HR) ?_);unfold maxLen at Bn;go_wp2;go_ret;have hs:(Builtin.zeroCells #[Value.int IntKind.i64 0,Value.slice none 0 0] n++Builtin.zeroCells #[Value.int IntKind.i64 0,Value.slice none 0 0] (cc-n)).size=cc*2:=by rw [Array.size_append,size_zeroCells,size_zeroCells];simp;omega
 exact ⟨_,cc,rfl,World.ownsRow_made (base:=w.heap.size) (e:=49) (size:=2) w _ cc aA (by unfold maxLen;omega) hs,(aJ.alloc aA _).drew⟩}
def an1 (ls:List (List Value)) (N:Nat):Prop:=ls.flatten.length=N*2
def xT (w:World) (g:Nat) (vs:List Value) (ls:List (List Value)):Prop:=vs.length=ls.length/\∀ j v l,vs[j]?=some v->ls[j]?=some l->w.cell? ⟨g,j,none⟩=some v/\(∀ u∈l,u.oneCell'=true)/\∃ n p c,l.length=n*2/\v=.S p n c/\(l=[]\/∃ a,p=some a/\∀ i u,l[i]?=some u->w.cell? (a.add i)=some u)
theorem xT.below (h:xT w g vs ls) (hb:Bw w w'):xT w' g vs ls:=by
 refine ⟨h.1,fun j v l e1 e2=>?_⟩;obtain ⟨h1,h2,n,p,c,h3,h4,h5⟩:=h.2 j v l e1 e2;refine ⟨af h1 hb,h2,n,p,c,h3,h4,h5.imp id fun ⟨a,ea,ha⟩=>⟨a,ea,fun i u hu=>?_⟩⟩;have hc:=ha i u hu;exact (hb.cell (p:=a.add i) (World.block_lt_of_cell? w _ hc)).trans hc
theorem xz {k:Nat} {l:List Value} (h:ls[k]?=some l):(ls.take (k+1)).flatten=(ls.take k).flatten++l:=by
 rw [List.take_add_one,h,List.flatten_append];simp
theorem sG (ls:List (List Value)) (k:Nat):(ls.take k).flatten.length<=ls.flatten.length:=by
 have e:ls.flatten=(ls.take k).flatten++(ls.drop k).flatten:=by rw [<-List.flatten_append,List.take_append_drop]
 rw [e,List.length_append];omega
theorem D9 (g:Nat) (vs:List Value) (ls:List (List Value)) (w:World) (h:xT w g vs ls) (hl:ls.flatten.length<=2097152) (hk:ls.length<=1000) :
  Calls prog 263 #[.S (some ⟨g,0,none⟩) ls.length ls.length] w fun e w'=>∃ N p' c',e=.returned (.S p' N c')/\an1 ls N/\w'.ownsRow w.heap.size 49 2 (.S p' N c') N ls.flatten/\Bw w w':=by
 obtain ⟨i,hi,mw,iT,jW⟩:=info_parts Tryz.infoEv;have HI:=ae (ag hi (ag mw (ag iT jW)));have HH:=ae fun (w':World) (hb:Bw w w')=>h.below hb;obtain ⟨nn,WO⟩:=aL ls.length;rw [aa WO] at hk ⊢;go_enter func263,ntmps263;go_wp2
 go_loopw [3,11] (fun s i wr=>∃ k N:Nat,k<=nn/\i=.I k/\s=.I N/\Hid ((ls.take k).flatten.length=N*2)/\wr=w) (fun _ i _=>nn-(intOf i).toNat)
 case atStart=>exact ⟨0,0,Nat.zero_le _,rfl,rfl,(by show _=_;simp),rfl⟩
 case round =>(
 obtain ⟨k,N,nw,rfl,rfl,hN,rfl⟩:=hrel;have Wd:=sG ls k;rw [aa hN] at Wd;by_cases bj:k<nn;{
 have bm:=aT k nn;obtain ⟨l,e1⟩:∃ l,ls[k]?=some l:=⟨_,aK (by rw [aa WO];exact bj)⟩;obtain ⟨Pf,zR⟩:=aa HH _ aJ;obtain ⟨v,e2⟩:∃ v,vs[k]?=some v:=⟨_,aK (by rw [Pf,aa WO];exact bj)⟩;obtain ⟨c1,-,n,p,c,h3,rfl,-⟩:=zR k v l e2 e1;have dz:=xz e1;have E1:=ae (by rw [dz,List.length_append,aa hN,h3];omega:(ls.take (k+1)).flatten.length=(N+n)*2);have MA:=sG ls (k+1);rw [aa E1] at MA;go_wp2;go_roundw
 case rel=>exact ⟨k+1,N+n,by omega,by go_num,by go_num,E1,by first | rfl | trivial⟩
 case measure=>simp [intOf];omega}
 {
 have ek:k=nn:=by omega
 subst ek;have bm:=dy k k;have e9:=aa hN;rw [List.take_of_length_le (by rw [aa WO];omega)] at e9;have E9:=ae e9;go_wp2_with fail;obtain ⟨wo,rfl⟩:=ax wr;refine (Jb N wo (by omega)).mono ?_;rintro e w1 ⟨p1,c1,rfl,o1,bq⟩;have O1:=ae o1;have B1:=ae bq;go_wp2
 go_loopw [6,27] (fun v i w2=>∃ (j M:Nat) (po:Option Addr) (co:Nat),j<=k/\i=.I j/\v=.S po M co/\Hid ((ls.take j).flatten.length=M*2)/\Hid (w2.ownsRow wo.heap.size 49 2 (.S po M co) M (ls.take j).flatten)/\Hid (Bw wo w2)) (fun _ i _=>k-(intOf i).toNat)
 case atStart=>exact ⟨0,0,p1,c1,Nat.zero_le _,rfl,rfl,(by show _=_;simp),by simpa using O1,B1⟩
 case round =>(
 obtain ⟨j,M,po,co,hj,rfl,rfl,hM,ho,bk⟩:=hrel;have aN6:=sG ls j;rw [aa hM] at aN6;have z2:=bk.size;by_cases tI:j<k;{
 have Mm:=aT j k;obtain ⟨l,e1⟩:∃ l,ls[j]?=some l:=⟨_,aK (by rw [aa WO];exact tI)⟩;obtain ⟨Pf,zR⟩:=aa HH _ bk;obtain ⟨v,e2⟩:∃ v,vs[j]?=some v:=⟨_,aK (by rw [Pf,aa WO];exact tI)⟩;obtain ⟨c2,Md,n,p,c,h3,rfl,dC⟩:=zR j v l e2 e1;have dz:=xz e1;have E1:=ae (by rw [dz,List.length_append,aa hM,h3];omega:(ls.take (j+1)).flatten.length=(M+n)*2);have MA:=sG ls (j+1);rw [aa E1] at MA;have HS:=ae dz;have H3:=ae h3;have HO:=ae Md;cases p with
 | none=>
  have el:l=[]:=dC.resolve_right (fun ⟨a,ea,_⟩=>by cases ea);subst el;have en0:n=0:=by have:=aa H3;simp at this;omega
  subst en0;have HA:=ae (dX (P:=prog) wr wo.heap.size 33 33 49 i 2 underlying33 HI.1 _ _ _ c ho);go_wp2_with (at_builtin;refine Lib.wpList_append_run _ rfl _ _ _ _ rfl _ _ rfl rfl _ _ (by exact HA) ?_);go_roundw
  case rel=>exact ⟨j+1,M,po,co,by omega,by go_num,rfl,by simpa using E1,(by show World.ownsRow _ _ _ _ _ _ _;rw [aa HS];simpa using aa ho),bk⟩
  case measure=>simp [intOf];omega
 | some ad=>
  have Bo:∀ (jj:Nat) (u:Value),l[jj]?=some u->wr.cell? (ad.add jj)=some u:=by rcases dC with rfl | ⟨a,ea,ha⟩;{intro jj u hu;simp at hu};{cases ea;exact ha}
  go_wp2_with (at_builtin;refine wpList_append_own _ rfl _ _ 33 rfl wo.heap.size 49 i _ 2 32 underlying33 HI.1 HI.2.1 HI.2.2.1 HI.2.2.2 rfl (by decide) _ _ _ rfl ho ad n c l rfl H3 Bo HO (by unfold maxLen;omega) (by omega) bk.size ?_);intro v' w3 br hg _;have b3:=ae (bk.grown hg bk.size (fun k hk=>(World.ownsRow.lt ho k hk).1));obtain ⟨p',c',rfl⟩:∃ p' c',v'=.S p' (M+n) c':=by rcases br.2 with ⟨rfl,h0⟩ | ⟨g',cap,cur,rfl,-⟩;{exact ⟨none,0,by rw [h0]⟩};{exact ⟨_,_,rfl⟩}
  have HW:=ae br;go_wp2;go_roundw
  case rel=>exact ⟨j+1,M+n,p',c',by omega,by go_num,rfl,E1,(by show World.ownsRow _ _ _ _ _ _ _;rw [aa HS];exact aa HW),b3⟩
  case measure=>simp [intOf];omega}
 {
 have ej:j=k:=by omega
 subst ej;have Mm:=dy j j;have e8:=aa ho;have e7:=aa hM;rw [List.take_of_length_le (by rw [aa WO];omega)] at e8 e7;have HE:=ae (ag e8 e7);go_wp2;go_ret;exact ⟨M,po,co,rfl,HE.2,HE.1,bk⟩})})
def WX (w0 w:World) (e:Ev) (c:List Value):Prop:=∃ P,c=[.I e.1,P]/\AB w0 w P e.2/\iH P
theorem WX.fr {T:List TypeId} (hf:Fr T w w') (ht:5∉T) (e:Ev) (c:List Value) (h:WX w0 w e c):WX w0 w' e c:=by
 obtain ⟨P,h1,h2,h3⟩:=h;exact ⟨P,h1,h2.fr hf ht,h3⟩
theorem TV {cs:List (List Value)} (h2:∀ c∈cs,c.length=2):cs.flatten.length=cs.length*2:=by
 induction cs with
 | nil=>rfl
 | cons c r ih=>rw [List.flatten_cons,List.length_append,h2 c (by simp),ih (fun d hd=>h2 d (by simp [hd])),List.length_cons];omega
theorem AQ.cells {p:Option Addr} {n c:Nat} (h:AQ w0 w (.S p n c) es):n=es.length/\∃ cs:List (List Value),cs.length=es.length/\(∀ c∈cs,c.length=2)/\(∀ (i:Nat) (e:Ev) (c:List Value),es[i]?=some e->cs[i]?=some c->WX w0 w e c)/\(cs.flatten=[]\/∃ a,p=some a/\∀ i u,cs.flatten[i]?=some u->w.cell? (a.add i)=some u):=by
 obtain ⟨p',c',e,h⟩:=h;simp only [Value.slice.injEq] at e;obtain ⟨rfl,en,rfl⟩:=e;refine ⟨en,?_⟩;rcases h with rfl | ⟨b,o,rfl,-,h⟩;{exact ⟨[],rfl,fun c hc=>by simp at hc,fun i e c he=>by simp at he,.inl rfl⟩};{
 have key:∀ (es:List Ev) (o:Nat),(∀ i e,es[i]?=some e->w.cell? ⟨b,o+i*2,none⟩=some (.I e.1)/\∃ u,w.cell? ⟨b,o+i*2+1,none⟩=some u/\AB w0 w u e.2/\iH u)->∃ cs:List (List Value),cs.length=es.length/\(∀ c∈cs,c.length=2)/\(∀ (i:Nat) (e:Ev) (c:List Value),es[i]?=some e->cs[i]?=some c->WX w0 w e c)/\∀ i u,cs.flatten[i]?=some u->w.cell? ⟨b,o+i,none⟩=some u:=by
  intro es
  induction es with
  | nil=>intro o h;exact ⟨[],rfl,fun c hc=>by simp at hc,fun i e c he=>by simp at he,fun i u hu=>by simp at hu⟩
  | cons e r ih=>
   intro o h;obtain ⟨cs,h1,h2,h3,h4⟩:=ih (o+2) (fun i e he=>by have:=h (i+1) e (by simpa using he);rw [show o+(i+1)*2=o+2+i*2 by omega] at this;exact this)
   obtain ⟨k0,u,k1,k2,k3⟩:=h 0 e rfl;refine ⟨[.I e.1,u]::cs,by simp [h1],fun c hc=>?_,fun i e' c he hc=>?_,fun i v hv=>?_⟩;{
 rcases List.mem_cons.1 hc with rfl | hc;{rfl}
 {exact h2 c hc}};{
 cases i with
 | zero=>simp at he hc;subst he hc;exact ⟨u,rfl,k2,k3⟩
 | succ i=>exact h3 i e' c (by simpa using he) (by simpa using hc)}
   {
 match i,hv with
 | 0,hv=>simp at hv;subst hv;simpa using k0
 | 1,hv=>simp at hv;subst hv;simpa using k1
 | i+2,hv=>
  have:=h4 i v (by simpa using hv);rw [show o+(i+2)=o+2+i by omega];exact this}
 obtain ⟨cs,h1,h2,h3,h4⟩:=key es o h;exact ⟨cs,h1,h2,h3,.inr ⟨_,rfl,fun i u hu=>by rw [Addr.add_lit];exact h4 i u hu⟩⟩}
theorem AQ.aF7 (h:RT (WX w0) 49 2 B w v es):AQ w0 w v es:=by
 obtain ⟨p,c,rfl,-,-,hp⟩:=RT.form h;refine ⟨p,c,rfl,?_⟩;by_cases h0:es=[];{exact .inl h0};{obtain ⟨g,rfl⟩:=hp (List.length_pos_iff.2 h0);obtain ⟨cur,hc⟩:=h.nJ g rfl;refine .inr ⟨g,0,rfl,.inr ⟨cur,_,hc⟩,fun i e he=>?_⟩;obtain ⟨cs,-,⟨P,rfl,h1,h2⟩,la,-⟩:=RT.at h he;rw [Nat.zero_add];exact ⟨la 0 _ rfl,P,la 1 _ rfl,h1,h2⟩}
theorem Lb {s:aY} (h:PE w0 w g s):∃ pq cq,w.heap[g]?=some (.cells #[.U s.1,.I s.2.1,.S pq s.2.2.length cq] 35)/\AQ w0 w (.S pq s.2.2.length cq) s.2.2/\(∀ o,w.frozen? ⟨g,o,none⟩=false):=by
 obtain ⟨-,u,h1,h2⟩:=h;obtain ⟨p,c,rfl,h3⟩:=id h2;exact ⟨p,c,h1,h2,fun o=>by simp [World.frozen?,h1]⟩
theorem DS {w5:World} {s:aY} {v':Value} {q':List Ev} (be:Bw w0 w) (hE:PE w0 w g s) (hb:Bw w w5) (hq:AQ w0 w5 v' q'):One w0 w (w5.setCell ⟨g,2,none⟩ v') g/\PE w0 (w5.setCell ⟨g,2,none⟩ v') g (s.1,s.2.1,q'):=by
 obtain ⟨h0,u,h1,h2⟩:=hE;have h5:=(hb.block g (aG h1)).trans h1;have f:Fr [35] w5 (w5.setCell ⟨g,2,none⟩ v'):=Fr.set h5 (by simp);have cR:Below w0.heap.size w5 (w5.setCell ⟨g,2,none⟩ v'):=aJ.setCell (p:=⟨g,2,none⟩) h0 _;refine ⟨⟨(hb.mono be.size).trans cR,fun z hz bL=>(dF _ _ _ _ bL).trans (hb.block z hz),fun cur ty m hc=>?_⟩,h0,v',by simp [World.setCell,Array.getElem?_modify,h5],hq.fr cR f (by decide)⟩;rw [h1] at hc;simp at hc;simp [<-hc.2.1]
theorem Hy {z:Nat} {pq pe:Option Addr} {nq cq ge:Nat} {ev:Ev} {Pv:Value} (hQ:AQ w0 w (.S pq nq cq) es) (hv:AB w0 w Pv ev.2) (hc:iH Pv) (hn:nq<=1000) (h0:w.cell? ⟨z,0,none⟩=some (.S pq nq cq)) (h1:w.cell? ⟨z,1,none⟩=some (.S (some ⟨ge,0,none⟩) 1 1)) (k0:w.cell? ⟨ge,0,none⟩=some (.I ev.1)) (k1:w.cell? ⟨ge,1,none⟩=some Pv) :
  Calls prog 263 #[.S (some ⟨z,0,none⟩) 2 2] w fun r w'=>∃ p' c',r=.returned (.S p' (nq+1) c')/\AQ w0 w' (.S p' (nq+1) c') (es++[ev])/\Bw w w':=by
 obtain ⟨en,cs,g1,g2,g3,g4⟩:=hQ.cells;have Md:Pv.oneCell'=true:=by
  obtain ⟨_,_,_,rfl,-⟩:=hc
  rfl
 have hf:=TV g2;have hPE:xT w z [.S pq nq cq,.S (some ⟨ge,0,none⟩) 1 1] [cs.flatten,[.I ev.1,Pv]]:=by
  refine ⟨rfl,fun j v l e1 e2=>?_⟩
  match j,e1,e2 with
  | 0,e1,e2=>
   simp at e1 e2;subst e1 e2;refine ⟨h0,fun u hu=>?_,nq,pq,cq,by rw [hf,g1,en],rfl,g4⟩;obtain ⟨l,hl,hul⟩:=List.mem_flatten.1 hu;obtain ⟨i,hi⟩:=List.mem_iff_getElem?.1 hl;obtain ⟨e,he⟩:∃ e,es[i]?=some e:=⟨_,aK (by rw [<-g1];exact (aN.1 hi).1)⟩;obtain ⟨P,rfl,-,⟨_,_,_,rfl,-⟩⟩:=g3 i e l he hi;simp at hul;rcases hul with rfl | rfl<;>rfl
  | 1,e1,e2=>
   simp at e1 e2;subst e1 e2;refine ⟨h1,fun u hu=>?_,1,some ⟨ge,0,none⟩,1,rfl,rfl,.inr ⟨_,rfl,fun i u hu=>?_⟩⟩;{
 simp at hu;rcases hu with rfl | rfl;{rfl}
 {exact Md}};{
 rw [Addr.add_lit,Nat.zero_add]
 match i,hu with
 | 0,hu=>simp at hu;subst hu;exact k0
 | 1,hu=>simp at hu;subst hu;exact k1}
 have Wd:([cs.flatten,[.I ev.1,Pv]]:List (List Value)).flatten=(cs++[[.I ev.1,Pv]]).flatten:=by simp
 have hlen:([cs.flatten,[.I ev.1,Pv]]:List (List Value)).flatten.length=(nq+1)*2:=by
  rw [Wd,TV (fun c hc=>by rcases List.mem_append.1 hc with hc | hc;{exact g2 c hc};{simp at hc;subst hc;rfl}),List.length_append,g1,<-en]
  rfl
 refine (D9 z [.S pq nq cq,.S (some ⟨ge,0,none⟩) 1 1] [cs.flatten,[.I ev.1,Pv]] w hPE (by rw [hlen];omega) (by simp)).mono ?_;rintro r w' ⟨N,p',c',rfl,hN,ho,hb⟩;have eN:N=nq+1:=by unfold an1 at hN;rw [hlen] at hN;omega
 subst eN;refine ⟨p',c',rfl,AQ.aF7 (B:=w.heap.size) ⟨cs++[[.I ev.1,Pv]],by simp [g1],fun c hc=>?_,?_,fun i y c hy la=>?_⟩,hb⟩;{rcases List.mem_append.1 hc with hc | hc;{exact g2 c hc};{simp at hc;subst hc;rfl}};{rw [<-Wd,List.length_append,<-en];exact ho};{
 have mr:Fr [] w w':=Fr.below hb;by_cases hi:i<es.length;{rw [List.getElem?_append_left hi] at hy;rw [List.getElem?_append_left (by omega)] at la;exact WX.fr mr (by simp) _ _ (g3 i y c hy la)};{
 have ei:i=es.length:=by have:=(aN.1 hy).1;simp at this;omega
 subst ei;rw [List.getElem?_append_right aA,Nat.sub_self] at hy;rw [List.getElem?_append_right (by omega),g1,Nat.sub_self] at la;simp at hy la;subst hy la;exact ⟨Pv,rfl,hv.fr mr (by simp),hc⟩}}
theorem One.ofB {cs:Array Value} (be:Bw w0 w) (hb:Bw w w') (hg:w.heap[g]?=some (.cells cs ty)) (ht:ty∈[35,137,132]):One w0 w w' g:=by
 refine ⟨hb.mono be.size,fun z hz _=>hb.block z hz,fun cur PR m hc=>?_⟩;rw [hg] at hc;simp at hc;rw [<-hc.2.1];exact ht
theorem PE.below {s:aY} (h:PE w0 w g s) (be:Bw w0 w) (hb:Bw w w'):PE w0 w' g s:=by
 obtain ⟨h0,u,h1,h2⟩:=h;exact ⟨h0,u,(hb.block g (aG h1)).trans h1,h2.fr (hb.mono be.size) (al hb) (by simp)⟩
theorem WK (w:World) (gs:Nat) (s:aY) (K:Int) (P:List Int) (pe:Option Addr) (ne ce:Nat) (be:Hid (Bw w0 w)) (hE:Hid (PE w0 w gs s)) (hP:Hid (AB w0 w (.S pe ne ce) P)) (hc:Hid (iH (.S pe ne ce))) (hq:s.2.2.length<=1000) :
  Calls prog 262 #[.pointer (some ⟨gs,0,none⟩),.agg #[.I K,.S pe ne ce]] w fun r w'=>One w0 w w' gs/\PE w0 w' gs (s.1,s.2.1,dM s.2.2 (K,P))/\∃ v,r=.returned v:=by
 obtain ⟨pq,cq,gc,hQ,gf⟩:=Lb hE;obtain ⟨nq,yJ⟩:=aL s.2.2.length;rw [aa yJ] at gc hQ hq;have c2:w.cell? ⟨gs,2,none⟩=some (.S pq nq cq):=ay gc 2;have qN:gs<w.heap.size:=aG gc;obtain ⟨W0,dh,b0,z0,C0,T0⟩:=aj w #[.I K,.S pe ne ce] 49;have PC:=ae C0;have B0:=ae b0;have HQ:=ae (hQ.fr (b0.mono be.size) (al b0) (by simp));have HP0:=ae (hP.fr (al b0) (by simp));have c2a:=fun (ob:Obj)=>af c2 ((Below.refl w.heap.size w).alloc aA ob);have c2w:=ae c2;have gfw:=ae gf;clear C0 b0 T0 hQ gf;go_enter func262,ntmps262;have HGC:=ae gc;clear gc;by_cases h7:nq<7;{
 have WE:(nq:Int)<7:=by omega
 have VF:dM s.2.2 (K,P)=s.2.2++[(K,P)]:=by rw [dM,aa yJ,if_pos h7]
 rw [VF];go_wp2_with fail;rw [<-dh];clear dh c2a VF;obtain ⟨vA,aX⟩:=ax W0.drew;have cI:=dG aX;have BA:=ae cI;have HC:=ae (fun (v:World) (hv:Bw W0 v)=>ag (ag (af (PC.1 0 _ rfl) hv) (af (PC.1 1 _ rfl) hv)) (ag (af (aa c2w) (ah (aa B0) hv)) (ag (HQ.fr ((Below.mono hv (by have:=B0.size;have:=be.size;omega))) (al hv) (by simp)) (ag (HP0.fr (al hv) (by simp)) (ah (aa B0) hv)))));refine bO (fun w'=>w'.cell? ⟨w.heap.size,0,none⟩=some (.I K)/\w'.cell? ⟨w.heap.size,1,none⟩=some (.S pe ne ce)) (by rw [<-aX];exact (aa HC vA cI).1) fun hS=>?_;rw [<-aX] at hS ⊢;clear aX cI;refine gC 0 1 2 3 hS ?_;refine tn 5 hS ?_;refine ry [4,6] ?_;refine cn (fun KK hK=>?_) ?_;rotate_left;refine cn (fun KK hK=>?_) ?_;rotate_left;exact AllReadyH.nil;have cq:=(aa HC vA BA).2.1;go_simp;refine cg hK (by exact (aa HC vA BA).1) fun hS=>?_;clear hK KK cq;refine ry [6] ?_;refine cn (fun KK hK=>?_) ?_;rotate_left;exact AllReadyH.nil
 rotate_right
 go_simp;obtain ⟨Z,hZ,bZ,zZ,CZ,-⟩:=aj vA #[.I K,.S pe ne ce] 49;rw [<-hZ];have B1:=ae (ah BA bZ);have BS:=ae CZ;refine cg hK (by exact (aa HC Z B1).1) fun hS=>?_;clear hK KK hZ bZ CZ;rotate_left;go_simp;obtain ⟨Z,hZ,bZ,zZ,CZ,-⟩:=aj vA #[.I K,.S pe ne ce] 49;rw [<-hZ];have B1:=ae (ah BA bZ);have BS:=ae CZ;refine cg hK (by exact (aa HC Z B1).1) fun hS=>?_;clear hK KK hZ bZ CZ;refine ry [4] ?_;refine cn (fun KK hK=>?_) ?_;rotate_left;exact AllReadyH.nil
 rotate_right
 have cq:=(aa HC Z B1).2.1;go_simp;refine cg hK (by exact (aa HC Z B1).1) fun hS=>?_;clear hK KK cq
 all_goals (
  refine ry [7] ?_;refine cn (fun KK hK=>?_) ?_;rotate_left;exact AllReadyH.nil
  rotate_right
  go_simp;obtain ⟨Y,hY,bY,zY,CY,-⟩:=aj Z #[.S pq nq cq,.S (some ⟨vA.heap.size,0,none⟩) 1 1] 33;rw [<-hY];rw [zZ] at CY;have B2:=ae (ah B1 bY);have Im:=ae (ag CY (BS.below (by omega) bY));refine cg hK (by exact (aa HC Y B2).1) fun hS=>?_;clear hK KK hY bY CY;refine ry [8] ?_;refine cn (fun KK hK=>?_) ?_;rotate_left;exact AllReadyH.nil
  rotate_right
  refine ia (Hy (ev:=(K,P)) (pe:=pe) (aa HC Y B2).2.2.1 (aa HC Y B2).2.2.2.1 hc hq (Im.1.1 0 _ rfl) (Im.1.1 1 _ rfl) (Im.2.1 0 _ rfl) (Im.2.1 1 _ rfl)) ?_;rintro r w5 ⟨p',c',rfl,hq5,ew⟩;refine ⟨_,rfl,?_⟩;have B5:=ae (ah B2 ew);have Ke:=ae hq5;refine cg hK (by exact (aa HC w5 B5).1) fun hS=>?_;clear hK KK hq5 ew;refine fe 9 10 hS ?_;refine ry [11] ?_;refine cn (fun KK hK=>?_) ?_;rotate_left;exact AllReadyH.nil
  rotate_right
  obtain ⟨-,c25,-,-,YE⟩:=aa HC w5 B5;have f25:=(YE.frozen (p:=⟨gs,2,none⟩) qN).trans (aa gfw 2);have BW5:=ae YE;clear YE;go_simp;have G:=ae (DS be hE BW5 Ke);have kS:∀ o,(w5.setCell ⟨gs,2,none⟩ (.S p' (nq+1) c')).cell? ⟨w.heap.size,o,none⟩=w5.cell? ⟨w.heap.size,o,none⟩:=fun o=>ai (dF _ _ _ _ (by show w.heap.size≠gs;omega)) _;refine cg hK (by exact ⟨(kS 0).trans hS.1,(kS 1).trans hS.2⟩) fun hS=>?_;clear hK KK c25 f25 kS;refine bu ?_;clear hS;go_wp2
  go_end0
  exact ⟨G.1,G.2,_,rfl⟩)}
 {
 have WE:¬ (nq:Int)<7:=by omega
 by_cases h8:nq=7;{
 have VF:dM s.2.2 (K,P)=s.2.2++[(4,[])]:=by rw [dM,aa yJ,if_neg h7,if_pos h8]
 rw [VF];have RF:((nq:Int)==7)=true:=by simp;omega
 obtain ⟨Z,hZ,bZ,zZ,CZ,-⟩:=aj W0 #[.I 4,.S none 0 0] 49;obtain ⟨Y,hY,bY,zY,CY,-⟩:=aj Z #[.S pq nq cq,.S (some ⟨W0.heap.size,0,none⟩) 1 1] 33;have BY:=ae (ah bZ bY);have Im:=ae (ag CY (CZ.below (by omega) bY));have QY:=ae (HQ.fr (BY.mono (by have:=B0.size;have:=be.size;omega)) (al (aa BY)) (by simp));have c2b:=fun (ob oc:Obj)=>af (c2a ob) (aJ.alloc aA oc);rw [zZ] at CY Im;have HW:=ae (ag dh (ag hZ hY));rw [z0] at Im zZ CY;clear CY CZ dh hZ hY bZ bY VF h7 h8;go_wp2_with fail;obtain ⟨dh,hZ,hY⟩:=aa HW;rw [z0] at hY;rw [<-dh,<-hZ,<-hY];clear dh hZ hY HW c2a c2b;refine (Hy (w:=Y) (ev:=(4,[])) (pe:=none) QY (.inr (TB.nil _)) ⟨none,0,0,rfl,Nat.le_refl _,Nat.zero_le _⟩ hq (Im.1.1 0 _ rfl) (Im.1.1 1 _ rfl) (Im.2.1 0 _ rfl) (Im.2.1 1 _ rfl)).mono ?_;rintro r w5 ⟨p',c',rfl,hq5,ew⟩;have mZ:=ae (ah (ah B0 BY) ew);have c25:=af c2w mZ;have f25:=(mZ.frozen (p:=⟨gs,2,none⟩) qN).trans (aa gfw 2);have G:=ae (DS be hE mZ hq5);clear hq5 ew;go_wp2
 go_end0
 exact ⟨G.1,G.2,_,rfl⟩};{
 have VF:dM s.2.2 (K,P)=s.2.2:=by rw [dM,aa yJ,if_neg h7,if_neg h8]
 rw [VF];have RF:((nq:Int)==7)=false:=by simp;omega
 go_wp2
 go_end0
 rw [<-dh];exact ⟨One.ofB (aa be) (aa B0) (aa HGC) (by simp),hE.below (aa be) (aa B0),_,rfl⟩}}
theorem fP.same {l l':List (Lit × Nat)} (h:fP D l) (hp:∀ p,p∈l'↔p∈l):fP D l':=by
 refine ⟨fun k=>?_,fun p h1 z=>h.at' p ((hp p).1 h1) z⟩;rw [h.hs k];exact ⟨fun ⟨p,h1,h2⟩=>⟨p,(hp p).2 h1,h2⟩,fun ⟨p,h1,h2⟩=>⟨p,(hp p).1 h1,h2⟩⟩
theorem fP.del {l:List (Lit × Nat)} (h:fP D l) {k:Lit} (hi:l[i]?=some (k,g)) (hd:∀ (j:Nat) (p:Lit × Nat),l[j]?=some p->p.1=k->j=i):fP (D.del k) (l.eraseIdx i):=by
 have fK:∀ p,p∈l.eraseIdx i↔p∈l/\p.1≠k:=fun p=>by
  rw [List.mem_eraseIdx_iff_getElem?];constructor;{rintro ⟨j,hj,e⟩;exact ⟨aF e,fun e2=>hj (hd j p e e2)⟩};{
 rintro ⟨hp,bL⟩;obtain ⟨j,hj⟩:=List.mem_iff_getElem?.1 hp;refine ⟨j,fun e=>bL ?_,hj⟩;subst e;rw [hi] at hj;cases hj
 rfl}
 refine ⟨fun k'=>?_,fun p hp z=>?_⟩;{by_cases e:k'=k;{subst e;rw [has_del_same];constructor;{intro hh;cases hh};{rintro ⟨p,hp,e2⟩;exact absurd e2 ((fK p).1 hp).2}};{rw [has_del_other e,h.hs k'];constructor;{rintro ⟨p,hp,rfl⟩;exact ⟨p,(fK p).2 ⟨hp,e⟩,rfl⟩};{rintro ⟨p,hp,rfl⟩;exact ⟨p,((fK p).1 hp).1,rfl⟩}}};{obtain ⟨h1,h2⟩:=(fK p).1 hp;rw [atKey_del_other h2];exact h.at' p h1 z}
theorem tc {α β γ:Type} (f:α->β->γ):∀ (l:List α) (m:List β) (i:Nat),l.length=m.length->List.zipWith f (l.eraseIdx i) (m.eraseIdx i)=(List.zipWith f l m).eraseIdx i
 | [],[],i,_=>by simp
 | a::l,c::m,0,_=>by simp
 | a::l,c::m,i+1,h=>by simp [tc f l m i (by simpa using h)]
section
variable {w0 w w':World} {b bs bn:Nat} {D:SD} {SB NB HB UB:List Nat}
theorem PS.GJ (h:PS w0 w b bs bn D SB NB HB UB) {i g hh uu z:Nat} (hi:D.ns[i]?=some nd) (hg:NB[i]?=some g) (jT:HB[i]?=some hh) (jX:UB[i]?=some uu) (hz:z=g\/z=hh\/z=uu) (O:One w0 w w' z) (hp:nd'.path=nd.path) (hN:PN w0 w' g hh uu nd'):PS w0 w' b bs bn { D with ns:=D.ns.set i nd' } SB NB HB UB:=by
 obtain ⟨-,⟨V0,gc,-⟩,q3,q4⟩:=h.jC i nd g hh uu hi hg jT jX;obtain ⟨es3,c3,m3⟩:=q3.at;obtain ⟨es4,c4,m4⟩:=q4.at;obtain ⟨d0,d1,d2,d3,d4,d5⟩:=h.hu;have Bg:=(aN.1 hi).1;have hhm:=aF jT;have hum:=aF jX;have nc:∀ {y:Nat} {cs:Array Value} {ty:TypeId},w.heap[y]?=some (.cells cs ty)->(ty≠137\/y≠g)->y≠z:=fun {y cs ty} hy ht e=>by rcases hz with rfl | rfl | rfl;{rcases ht with ht | ht;{rw [e,gc] at hy;simp at hy;exact ht hy.2.symm};{exact ht e}};{rw [e,m3] at hy;cases hy};{rw [e,m4] at hy;cases hy}
 have nm:∀ {y:Nat} {es:Array MapEntry} {c:Nat},w.heap[y]?=some (.map es c)->y≠hh->y≠uu->y≠z:=fun {y es c} hy h1 h2 e=>by rcases hz with rfl | rfl | rfl;{rw [e,gc] at hy;cases hy};{exact h1 e};{exact h2 e}
 refine ⟨h.be.trans O.b,O.obj h.hd (nc h.hd (.inl (by decide))),h.mF,?_,fun j s1 g1 gx fO=>?_,h.snd,by rw [List.length_set];exact h.nE,by rw [List.length_set];exact h.hlen,by rw [List.length_set];exact h.oe,?_,fun j iR gb h1 u1 gx fO uz ur=>?_,h.Lp,h.lo,h.BF⟩;{obtain ⟨M,n,o,r⟩:=h.my;obtain ⟨es,c,hm⟩:=ownsMap_at o;exact ⟨M,n,O.map o (nm hm (fun e=>(d1 _ hhm).1 e.symm) (fun e=>(d2 _ hum).1 e.symm)),r⟩};{have q:=h.mH j s1 g1 gx fO;obtain ⟨-,u,h1,-⟩:=id q;exact q.aU O (nc h1 (.inl (by decide)))};{
 obtain ⟨M,n,o,hn,m,hs⟩:=h.jQ;obtain ⟨es,c,hm⟩:=ownsMap_at o;refine ⟨M,n,O.map o (nm hm (fun e=>(d1 _ hhm).2 e.symm) (fun e=>(d2 _ hum).2 e.symm)),hn,?_,by simp only [List.length_set];exact hs⟩;have e:List.zipWith (fun (nd:aD) g=>(bN nd.path,g)) (D.ns.set i nd') NB=List.zipWith (fun (nd:aD) g=>(bN nd.path,g)) D.ns NB:=by refine List.ext_getElem? fun j=>?_;rw [List.getElem?_zipWith,List.getElem?_zipWith,List.getElem?_set];by_cases ej:i=j;{subst ej;rw [if_pos rfl,if_pos Bg,hi,hg];simp [hp]};{simp [ej]}
 rw [e];exact m};{simp only [List.getElem?_set] at gx;by_cases ej:i=j;{subst ej;rw [hg] at fO;rw [jT] at uz;rw [jX] at ur;cases fO;cases uz;cases ur;simp [Bg] at gx;subst gx;exact hN};{simp [ej] at gx;have q:=h.jC j iR gb h1 u1 gx fO uz ur;obtain ⟨-,⟨V,q1,-⟩,p3,p4⟩:=id q;obtain ⟨es,c,m5⟩:=p3.at;obtain ⟨RN,c',m6⟩:=p4.at;have ej':¬ j=i:=fun e=>ej e.symm;exact q.aU O (nc q1 (.inr (A0 h.Lp fO hg ej'))) (nm m5 (A0 d3 uz jT ej') (d5 _ (aF uz) _ hum)) (nm m6 (fun e=>d5 _ hhm _ (aF ur) e.symm) (A0 d4 ur jX ej'))}}
theorem PS.Ta (h:PS w0 w b bs bn D SB NB HB UB) (O:One w0 w w' b) (e g x t:Int) (hd:w'.heap[b]?=some (.cells #[.U e,.U g,.U x,.I t,.map (some bs),.map (some bn)] 132)):PS w0 w' b bs bn ⟨e,g,x,t,D.ss,D.ns⟩ SB NB HB UB:=by
 have nc:∀ {y:Nat} {cs:Array Value} {ty:TypeId},w.heap[y]?=some (.cells cs ty)->ty≠132->y≠b:=fun {y cs ty} hy ht e=>by rw [e,h.hd] at hy;simp at hy;exact ht hy.2.symm
 have nm:∀ {y:Nat} {es:Array MapEntry} {c:Nat},w.heap[y]?=some (.map es c)->y≠b:=fun {y es c} hy e=>by rw [e,h.hd] at hy;cases hy
 refine ⟨h.be.trans O.b,hd,h.mF,?_,fun j s1 g1 gx fO=>?_,h.snd,h.nE,h.hlen,h.oe,?_,fun j nd gb hh uu gx fO h1 h2=>?_,h.Lp,h.lo,h.BF⟩;{obtain ⟨M,n,o,r⟩:=h.my;obtain ⟨es,c,hm⟩:=ownsMap_at o;exact ⟨M,n,O.map o (nm hm),r⟩};{have q:=h.mH j s1 g1 gx fO;obtain ⟨-,u,h1,-⟩:=id q;exact q.aU O (nc h1 (by decide))};{obtain ⟨M,n,o,r⟩:=h.jQ;obtain ⟨es,c,hm⟩:=ownsMap_at o;exact ⟨M,n,O.map o (nm hm),r⟩};{have q:=h.jC j nd gb hh uu gx fO h1 h2;obtain ⟨-,⟨V,q1,-⟩,q3,q4⟩:=id q;obtain ⟨es,c,m3⟩:=q3.at;obtain ⟨RN,c',m4⟩:=q4.at;exact q.aU O (nc q1 (by decide)) (nm m3) (nm m4)}
theorem PS.aV9 (h:PS w0 w b bs bn D SB NB HB UB) (hi:D.ns[i]?=some nd) (O:One w0 w w' bn) (hd:∀ (j:Nat) (z:aD),D.ns[j]?=some z->bN z.path=bN nd.path->j=i)
  (hM:∀ M n,w.ownsMap prog 9 aZ bn n M->w'.ownsMap prog 9 aZ bn n (M.del (bN nd.path))):PS w0 w' b bs bn { D with ns:=D.ns.eraseIdx i } SB (NB.eraseIdx i) (HB.eraseIdx i) (UB.eraseIdx i):=by
 obtain ⟨g,hh,uu,hg,jT,jX,-⟩:=h.nat hi;obtain ⟨d0,d1,d2,d3,d4,d5⟩:=h.hu;obtain ⟨M,n,o,hn,m,hs⟩:=h.jQ;obtain ⟨es0,c0,m0⟩:=ownsMap_at o;have Bg:=(aN.1 hi).1;have nc:∀ {y:Nat} {cs:Array Value} {ty:TypeId},w.heap[y]?=some (.cells cs ty)->y≠bn:=fun {y cs ty} hy e=>by rw [e,m0] at hy;cases hy
 have hz:(List.zipWith (fun (nd:aD) g=>(bN nd.path,g)) D.ns NB)[i]?=some (bN nd.path,g):=by rw [List.getElem?_zipWith,hi,hg]
 have hdz:∀ (j:Nat) (p:Lit × Nat),(List.zipWith (fun (nd:aD) g=>(bN nd.path,g)) D.ns NB)[j]?=some p->p.1=bN nd.path->j=i:=fun j p hj e=>by
  rw [List.getElem?_zipWith] at hj;cases ha:D.ns[j]? with
  | none=>rw [ha] at hj;cases hj
  | some a=>
   cases hc:NB[j]? with
   | none=>rw [ha,hc] at hj;cases hj
   | some c=>
    rw [ha,hc] at hj;cases hj;exact hd j a ha e
 have el:∀ {l:List Nat},l.length=D.ns.length->(l.eraseIdx i).length=(D.ns.eraseIdx i).length:=fun hl=>by rw [List.length_eraseIdx,List.length_eraseIdx,hl]
 refine ⟨h.be.trans O.b,O.obj h.hd (nc h.hd),h.mF,?_,fun j s1 g1 gx fO=>?_,h.snd,el h.nE,el h.hlen,el h.oe,⟨_,n,hM M n o,hn,?_,?_⟩,fun j iR gb h1 u1 gx fO uz ur=>?_,h.Lp.sublist (List.eraseIdx_sublist _ _),h.lo,?_⟩;{obtain ⟨M,n,o,r⟩:=h.my;exact ⟨M,n,O.map o d0,r⟩};{have q:=h.mH j s1 g1 gx fO;obtain ⟨-,u,h1,-⟩:=id q;exact q.aU O (nc h1)};{rw [tc _ _ _ _ h.nE.symm];exact m.del hz hdz};{have FM:Maps.has M (bN nd.path)=true:=(m.hs _).2 ⟨_,aF hz,rfl⟩;have:=size_del (k:=bN nd.path) (jZ o kM);rw [FM] at this;simp only [if_true] at this;simp only [List.length_eraseIdx,Bg,if_true];omega};{
 rw [List.getElem?_eraseIdx] at gx fO uz ur;obtain ⟨j',DC,fU,hh2,hu2⟩:∃ j',D.ns[j']?=some iR/\NB[j']?=some gb/\HB[j']?=some h1/\UB[j']?=some u1:=by by_cases hj:j<i;{rw [if_pos hj] at gx fO uz ur;exact ⟨j,gx,fO,uz,ur⟩};{rw [if_neg hj] at gx fO uz ur;exact ⟨j+1,gx,fO,uz,ur⟩}
 have q:=h.jC j' iR gb h1 u1 DC fU hh2 hu2;obtain ⟨-,⟨V,q1,-⟩,p3,p4⟩:=id q;exact q.aU O (nc q1) (d1 _ (aF hh2)).2 (d2 _ (aF hu2)).2};{exact h.BF.sublist (((List.eraseIdx_sublist HB i).append (List.eraseIdx_sublist UB i)).cons_cons bn |>.cons_cons bs)}
theorem PS.aV8 (h:PS w0 w b bs bn D SB NB HB UB) {s:aY} (hi:D.ss[i]?=some s) (O:One w0 w w' bs) (hd:∀ (j:Nat) (z:aY),D.ss[j]?=some z->z.1=s.1->j=i)
  (hM:∀ M n,w.ownsMap prog 23 aZ bs n M->w'.ownsMap prog 23 aZ bs n (M.del (.U s.1))):PS w0 w' b bs bn { D with ss:=D.ss.eraseIdx i } (SB.eraseIdx i) NB HB UB:=by
 obtain ⟨g,hg,-⟩:=h.sat hi;obtain ⟨d0,d1,d2,d3,d4,d5⟩:=h.hu;obtain ⟨M,n,o,hn,m,hs⟩:=h.my;obtain ⟨es0,c0,m0⟩:=ownsMap_at o;have Bg:=(aN.1 hi).1;have nc:∀ {y:Nat} {cs:Array Value} {ty:TypeId},w.heap[y]?=some (.cells cs ty)->y≠bs:=fun {y cs ty} hy e=>by rw [e,m0] at hy;cases hy
 have hz:(List.zipWith (fun (s:aY) g=>(Lit.U s.1,g)) D.ss SB)[i]?=some (.U s.1,g):=by rw [List.getElem?_zipWith,hi,hg]
 have hdz:∀ (j:Nat) (p:Lit × Nat),(List.zipWith (fun (s:aY) g=>(Lit.U s.1,g)) D.ss SB)[j]?=some p->p.1=.U s.1->j=i:=fun j p hj e=>by
  rw [List.getElem?_zipWith] at hj;cases ha:D.ss[j]? with
  | none=>rw [ha] at hj;cases hj
  | some a=>
   cases hc:SB[j]? with
   | none=>rw [ha,hc] at hj;cases hj
   | some c=>
    rw [ha,hc] at hj;cases hj;exact hd j a ha (by simpa using e)
 refine ⟨h.be.trans O.b,O.obj h.hd (nc h.hd),by rw [List.length_eraseIdx,List.length_eraseIdx,h.mF],⟨_,n,hM M n o,hn,?_,?_⟩,fun j s1 g1 gx fO=>?_,h.snd.sublist (List.eraseIdx_sublist _ _),h.nE,h.hlen,h.oe,?_,fun j iR gb h1 u1 gx fO uz ur=>?_,h.Lp,h.lo,h.BF⟩;{rw [tc _ _ _ _ h.mF.symm];exact m.del hz hdz};{have FM:Maps.has M (.U s.1)=true:=(m.hs _).2 ⟨_,aF hz,rfl⟩;have:=size_del (k:=.U s.1) (jZ o gR);rw [FM] at this;simp only [if_true] at this;simp only [List.length_eraseIdx,Bg,if_true];omega};{
 rw [List.getElem?_eraseIdx] at gx fO;obtain ⟨j',DC,fU⟩:∃ j',D.ss[j']?=some s1/\SB[j']?=some g1:=by by_cases hj:j<i;{rw [if_pos hj] at gx fO;exact ⟨j,gx,fO⟩};{rw [if_neg hj] at gx fO;exact ⟨j+1,gx,fO⟩}
 have q:=h.mH j' s1 g1 DC fU;obtain ⟨-,u,h1,-⟩:=id q;exact q.aU O (nc h1)};{obtain ⟨M,n,o,r⟩:=h.jQ;exact ⟨M,n,O.map o (fun e=>d0 e.symm),r⟩};{have q:=h.jC j iR gb h1 u1 gx fO uz ur;obtain ⟨-,⟨V,q1,-⟩,p3,p4⟩:=id q;exact q.aU O (nc q1) (d1 _ (aF uz)).1 (d2 _ (aF ur)).1}
end
structure vN (ss:List aY):Prop where
 pw:ss.Pairwise (fun s s'=>s.1<s'.1)
 rg:∀ s∈ss,0<=s.1/\s.1<18446744073709551616
 ql:∀ s∈ss,s.2.2.length<=8
theorem zk {q:List Ev} (ev:Ev) (h:q.length<=8):(dM q ev).length<=8:=by
 unfold dM;split;{simp;omega};{split;{simp;omega};{exact h}}
theorem tQ (ss:List aY) (id:Int) (ev:Ev):(jG ss id ev).map (·.1)=ss.map (·.1):=by
 unfold jG;rw [List.map_map];refine List.map_congr_left fun s _=>?_;simp only [Function.comp];split<;>rfl
theorem vN.RH (h:vN ss) (id:Int) (ev:Ev):vN (jG ss id ev):=by
 refine ⟨?_,fun s hs=>?_,fun s hs=>?_⟩;{have:=h.pw;rw [<-List.pairwise_map (f:=fun s:aY=>s.1) (R:=(·<·))] at this ⊢;rw [tQ];exact this};{obtain ⟨s0,h0,rfl⟩:=List.mem_map.1 hs;split<;>exact h.rg s0 h0}
 {obtain ⟨s0,h0,rfl⟩:=List.mem_map.1 hs;split;{exact zk ev (h.ql s0 h0)};{exact h.ql s0 h0}}
theorem DT (h:ss.Pairwise (fun s s'=>s.1<s'.1)) {s:aY} (hi:ss[i]?=some s) (ev:Ev):jG ss s.1 ev=ss.set i (s.1,s.2.1,dM s.2.2 ev):=by
 refine List.ext_getElem? fun j=>?_;unfold jG;rw [List.getElem?_map,List.getElem?_set];by_cases ej:i=j;{subst ej;rw [if_pos rfl,if_pos (aN.1 hi).1,hi];simp};{
 rw [if_neg ej];cases hj:ss[j]? with
 | none=>rfl
 | some s'=>
  have bL:¬ s'.1=s.1:=fun e=>by have uV:=List.pairwise_iff_getElem.1 h;obtain ⟨l1,v1⟩:=aN.1 hi;obtain ⟨l2,v2⟩:=aN.1 hj;rcases Nat.lt_trichotomy i j with hh | hh | hh;{have:=uV i j l1 l2 hh;rw [v1,v2] at this;omega};{exact ej hh};{have:=uV j i l2 l1 hh;rw [v1,v2] at this;omega}
  simp [bL]}
theorem kh (ids:List Int) (ev:Ev):∀ ss:List aY,(fN ss ids ev).map (·.1)=ss.map (·.1):=by
 unfold fN
 induction ids with
 | nil=>intro ss;rfl
 | cons a r ih=>intro ss;rw [List.foldl_cons,ih,tQ]
theorem Sh (w:World) (hB:bM l) (hl:l.length<=1048576):∃ p' c' W,(convert 9 22 (.string (aC l))).run prog w=.ok (.S p' l.length c') W/\TB W (.S p' l.length c') l/\Bw w W:=by
 have cK:=Lib.run_convert_string_bytes (P:=prog) w 9 22 5 (aC l) underlying9 underlying22 underlying5;rw [di] at cK;refine ⟨_,_,_,cK,⟨⟨_,_,rfl,.inr ⟨w.heap.size,0,rfl,fun j hj=>?_⟩⟩,fun b hb=>.inr ?_,_,_,_,rfl,grownCap_ge _ _ _ _,grownCap_le_maxLen _ _ _ _ (by unfold maxLen;omega)⟩,⟨rfl,rfl,rfl,by rw [Lib.bytesWorld_size];omega,fun k hk=>Lib.bytesWorld_at_old _ _ _ _ hk⟩⟩;{rw [Nat.zero_add,Lib.bytesWorld_cell _ _ _ _ (by rw [di];exact hj),Al hB j hj]};{simp only [Value.ownBlock,Option.some.injEq] at hb;subst hb;exact ⟨_,_,Lib.bytesWorld_at_new w 5 (aC l)⟩}
theorem PS.look {D:SD} {SB NB HB UB:List Nat} (h:PS w0 w b bs bn D SB NB HB UB) {s:aY} (hi:D.ss[i]?=some s) (hr:0<=s.1/\s.1<18446744073709551616):∃ g,SB[i]?=some g/\PE w0 w g s/\(Instr.lookup 129 (.map (some bs)) (.U s.1) false).run prog w=.ok (.pointer (some ⟨g,0,none⟩)) w:=by
 obtain ⟨g,hg,hE⟩:=h.sat hi;obtain ⟨M,n,o,-,m,-⟩:=h.my;exact ⟨g,hg,hE,De o m (aF (i:=i) (by rw [List.getElem?_zipWith,hi,hg])) hr⟩
theorem PS.Dg {D:SD} {SB NB HB UB:List Nat} (h:PS w0 w b bs bn D SB NB HB UB) (hi:D.ns[i]?=some nd) (hl:nd.path.length<=1048576):∃ g hh uu,NB[i]?=some g/\HB[i]?=some hh/\UB[i]?=some uu/\PN w0 w g hh uu nd/\(Instr.lookup 130 (.map (some bn)) (.string (aC nd.path)) false).run prog w=.ok (.pointer (some ⟨g,0,none⟩)) w:=by
 obtain ⟨g,hh,uu,hg,jT,jX,hN⟩:=h.nat hi;obtain ⟨M,n,o,-,m,-⟩:=h.jQ;exact ⟨g,hh,uu,hg,jT,jX,hN,Df o m (aF (i:=i) (by rw [List.getElem?_zipWith,hi,hg])) hl⟩
theorem PN.cells {u:Nat} (k:PN w0 w g h u nd):∃ V,AB w0 w V nd.value/\w.heap[g]?=some (.cells #[V,.U nd.owner,.I nd.mode,.map (some h),.U nd.aB,.U nd.gen,.map (some u)] 137)/\w.cell? ⟨g,0,none⟩=some V/\w.cell? ⟨g,1,none⟩=some (.U nd.owner)/\w.cell? ⟨g,2,none⟩=some (.I nd.mode)/\w.cell? ⟨g,3,none⟩=some (.map (some h))/\w.cell? ⟨g,4,none⟩=some (.U nd.aB)/\w.cell? ⟨g,5,none⟩=some (.U nd.gen)/\w.cell? ⟨g,6,none⟩=some (.map (some u))/\∀ o,w.frozen? ⟨g,o,none⟩=false:=by
 obtain ⟨V,h1,h2⟩:=k.aI;exact ⟨V,h2,h1,ay h1 0,ay h1 1,ay h1 2,ay h1 3,ay h1 4,ay h1 5,ay h1 6,fun o=>by simp [World.frozen?,h1]⟩
theorem PS.dC {D:SD} {SB NB HB UB:List Nat} (h:PS w0 w b bs bn D SB NB HB UB):w.cell? ⟨b,0,none⟩=some (.U D.e)/\w.cell? ⟨b,1,none⟩=some (.U D.g)/\w.cell? ⟨b,2,none⟩=some (.U D.x)/\w.cell? ⟨b,3,none⟩=some (.I D.t)/\w.cell? ⟨b,4,none⟩=some (.map (some bs))/\w.cell? ⟨b,5,none⟩=some (.map (some bn))/\∀ o,w.frozen? ⟨b,o,none⟩=false:=
 ⟨ay h.hd 0,ay h.hd 1,ay h.hd 2,ay h.hd 3,ay h.hd 4,ay h.hd 5,fun o=>by simp [World.frozen?,h.hd]⟩
structure NT (ss:List aY) (nd:aD):Prop where
 Ia:bM nd.path
 pl:nd.path.length<=1048576
 wpw:nd.watchers.Pairwise (·<·)
 Cn:nd.watchers.length<=1048576
 yO:∀ i∈nd.watchers,∃ s∈ss,s.1=i
theorem Hc {ss':List aY} (h:ss'.map (·.1)=ss.map (·.1)) {i:Int} (hi:∃ s∈ss,s.1=i):∃ (j:Nat) (s:aY),ss'[j]?=some s/\s.1=i:=by
 obtain ⟨s,hs,rfl⟩:=hi;have:s.1∈ss'.map (·.1):=by rw [h];exact List.mem_map.2 ⟨s,hs,rfl⟩
 obtain ⟨s',uS,e⟩:=List.mem_map.1 this;obtain ⟨j,hj⟩:=List.mem_iff_getElem?.1 uS;exact ⟨j,s',hj,e⟩
theorem QI {ss:List Int} (h:Q.SC B w v ss):∃ p c gk,v=.S p ss.length c/\B<=gk/\∀ (j:Nat) (x:Int),ss[j]?=some x->p=some ⟨gk,0,none⟩/\gk<w.heap.size/\w.cell? ⟨gk,j,none⟩=some (.U x):=by
 rcases h with ⟨rfl,rfl⟩ | ⟨g,cap,rfl,hB,bj,hu⟩;{exact ⟨none,0,B,rfl,Nat.le_refl _,fun j x hx=>by simp at hx⟩};{refine ⟨_,cap,g,rfl,hB,fun j x hx=>⟨rfl,bj,?_⟩⟩;have:=hu j (by simpa using (aN.1 hx).1);have h2:=this.1;simpa [hx] using h2}
theorem One.Lk {z:Nat} (be:Bw w0 w) (hg:w.grownBy w' (some z)) (hz:w0.heap.size<=z) (hm:∃ es c,w.heap[z]?=some (.map es c)):One w0 w w' z:=by
 refine ⟨(Below.refl w0.heap.size w).grown hg be.size (fun b e=>by cases e;exact hz),fun y hy bL=>hg.block y hy (fun e=>bL (by cases e;rfl)),fun cur ty m hc=>?_⟩;obtain ⟨es,c,hm⟩:=hm;rw [hm] at hc;cases hc
theorem PS.Iq {D:SD} {SB NB HB UB:List Nat} (h:PS w0 w b bs bn D SB NB HB UB) (hi:D.ns[i]?=some nd) (hg:NB[i]?=some g) (jT:HB[i]?=some hh) (jX:UB[i]?=some uu) (O:One w0 w w' uu) (hs:SM w' uu s):PS w0 w' b bs bn { D with ns:=D.ns.set i { nd with watchers:=s } } SB NB HB UB:=by
 obtain ⟨lo,⟨V,q1,q2⟩,q3,q4⟩:=h.jC i nd g hh uu hi hg jT jX;obtain ⟨es,c,m4⟩:=q4.at;refine h.GJ hi hg jT jX (.inr (.inr rfl)) O rfl ⟨lo,⟨V,O.obj q1 (fun e=>?_),q2.fr O.fr⟩,q3.aU O (h.hu.2.2.2.2.2 _ (aF jT) _ (aF jX)),hs⟩;rw [e,m4] at q1;cases q1
theorem PS.Hn {D:SD} {SB NB HB UB:List Nat} (h:PS w0 w b bs bn D SB NB HB UB) (hi:D.ns[i]?=some nd) (hg:NB[i]?=some g) (jT:HB[i]?=some hh) (jX:UB[i]?=some uu) (O:One w0 w w' hh) (hs:SM w' hh s):PS w0 w' b bs bn { D with ns:=D.ns.set i { nd with holders:=s } } SB NB HB UB:=by
 obtain ⟨lo,⟨V,q1,q2⟩,q3,q4⟩:=h.jC i nd g hh uu hi hg jT jX;obtain ⟨es,c,m3⟩:=q3.at;refine h.GJ hi hg jT jX (.inr (.inl rfl)) O rfl ⟨lo,⟨V,O.obj q1 (fun e=>?_),q2.fr O.fr⟩,hs,q4.aU O (fun e=>h.hu.2.2.2.2.2 _ (aF jT) _ (aF jX) e.symm)⟩;rw [e,m3] at q1;cases q1
abbrev T3:List TypeId:=[35,137,132]
def PL (b bs bn:Nat) (SB NB HB UB:List Nat):List Nat:=b::bs::bn::(SB++(NB++(HB++UB)))
def Kb (L:List Nat) (w w':World):Prop:=∀ z,z<w.heap.size->z∉L->w'.heap[z]?=w.heap[z]?
theorem Kb.below (h:Bw w w'):Kb L w w':=fun z hz _=>h.block z hz
theorem Kb.trans (h:Kb L w w1) (h2:Kb L w1 w2) (hs:w.heap.size<=w1.heap.size):Kb L w w2:=fun z hz hn=>(h2 z (by omega) hn).trans (h z hz hn)
theorem Kb.mono {L':List Nat} (h:Kb L w w') (hs:∀ z∈L,z∈L'):Kb L' w w':=fun z hz hn=>h z hz (fun hm=>hn (hs z hm))
theorem One.kb (O:One w0 w w' g) (hg:g∈L):Kb L w w':=fun z hz hn=>O.k z hz (fun e=>hn (e▸hg))
theorem EH (w:World) (b bs bn:Nat) (D:SD) (SB NB HB UB:List Nat) (h:Hid (PS w0 w b bs bn D SB NB HB UB)) (k:Nat) (nd:aD) (hk:Hid (D.ns[k]?=some nd)) (kd:Int) (hS:Hid (vN D.ss)) (hT:Hid (NT D.ss nd)) :
  Calls prog 261 #[.pointer (some ⟨b,0,none⟩),.I kd,.string (aC nd.path)] w fun r w'=>PS w0 w' b bs bn (cO D k kd) SB NB HB UB/\(Fr T3 w w'/\Kb (PL b bs bn SB NB HB UB) w w')/\∃ v,r=.returned v:=by
 obtain ⟨g,hh,uu,hg,jT,jX,hN,hlk⟩:=h.Dg hk hT.pl;obtain ⟨V,-,-,-,-,-,-,-,-,n6,-⟩:=hN.cells;obtain ⟨-,-,-,-,-,h5,-⟩:=h.dC;obtain ⟨M,nn,oM,Mg,sM,zM⟩:=hN.Iq;have Gz:=ae (ag hg (ag jT jX));have mn:g<w.heap.size:=by obtain ⟨V,hb,-⟩:=hN.aI;exact aG hb
 go_enter func261,ntmps261;go_wp2_with fail;refine (Q.mB uu nn M w oM (by rw [zM];exact hT.Cn)).mono ?_;rintro r w1 ⟨v,ws,rfl,hA,hK,bq⟩;have ews:ws=nd.watchers:=mW hA.lt hT.wpw fun x=>by rw [hA.mem x,sM];simp
 subst ews;obtain ⟨p,c,gk,rfl,hgk,df⟩:=QI hK;obtain ⟨m,em⟩:=aL nd.watchers.length;rw [aa em];have yM:=ae df;have P1:=ae (h.below bq);have F1:=ae (Fr.below (T:=T3) bq);have K1:=ae (Kb.below (L:=PL b bs bn SB NB HB UB) bq);have z1:=bq.size;have hm:m<=1048576:=by rw [<-aa em];exact hT.Cn
 go_wp2
 go_loopw [21] (fun iv wr=>∃ (j:Nat) (SS:List aY),j<=m/\iv=.I j/\Hid (fN D.ss (nd.watchers.take j) (kd,nd.path)=SS)/\Hid (PS w0 wr b bs bn { D with ss:=SS } SB NB HB UB)/\Hid (vN SS)/\Hid (Fr T3 w wr)/\Hid (wr.heap[gk]?=w1.heap[gk]?)/\Hid (w1.heap.size<=wr.heap.size)/\Hid (Kb (PL b bs bn SB NB HB UB) w wr)) (fun iv _=>m-(intOf iv).toNat)
 case atStart=>exact ⟨0,D.ss,Nat.zero_le _,rfl,(by show _=_;rfl),P1,hS,F1,(by show _=_;rfl),Nat.le_refl _,K1⟩
 case round =>(
 obtain ⟨j,SS,hj,rfl,hSS,hP,hSO,hFR,hGK,Fz,hKB⟩:=hrel;obtain ⟨-,-,-,-,h4,h5,-⟩:=hP.dC;by_cases bj:j<m;{
 have bm:=aT j m;obtain ⟨x,hx⟩:∃ x,nd.watchers[j]?=some x:=⟨_,aK (by rw [aa em];exact bj)⟩;obtain ⟨rfl,bU4,ME⟩:=aa yM j x hx;have bV3:=(ai hGK j).trans ME;obtain ⟨i,s,hi,rfl⟩:=Hc (ss':=SS) (by rw [<-aa hSS];exact kh _ _ _) (hT.yO x (aF hx));obtain ⟨gs,qN,hE,hls⟩:=hP.look hi (hSO.rg s (aF hi));obtain ⟨pc,cc,W,hcv,hTB,hbW⟩:=Sh wr hT.Ia hT.pl;have bU0:gs<w.heap.size:=by obtain ⟨s0,Hj⟩:∃ s0,D.ss[i]?=some s0:=⟨_,aK (by rw [<-h.mF];exact (aN.1 qN).1)⟩;obtain ⟨-,u,hc,-⟩:=h.mH i s0 gs Hj qN;exact aG hc
 have hSn:=vX (ss:=D.ss) (ev:=(kd,nd.path)) hx;rw [aa hSS,DT hSO.pw hi] at hSn;have Ps:=ae hSn;have PW:=ae (hP.below hbW);have SO2:=hSO.RH s.1 (kd,nd.path);rw [DT hSO.pw hi] at SO2;have ba4:=ae SO2;have ta:=ae (ag hi qN);have HTB:=ae hTB;have ql:=hSO.ql s (aF hi);have YM:=ae hbW;go_wp2_with fail;refine (WK (w0:=w0) W gs s kd nd.path pc _ cc (ae PW.be) (ae (PW.mH i s gs ta.1 ta.2)) (ae (.inr HTB)) (ae HTB.2.2) (by omega)).mono ?_;rintro r w5 ⟨O5,E5,v5,rfl⟩;have P5:=ae (PS.GI (s':=(s.1,s.2.1,dM s.2.2 (kd,nd.path))) PW ta.1 ta.2 O5 rfl E5);have G5:=ae (((O5.k gk (by have:=YM.size;have:=aa Fz;omega) (by omega)).trans (YM.block gk (by have:=aa Fz;omega))).trans hGK);have Z5:=ae (by have:=O5.b.size;have:=YM.size;have:=aa Fz;omega:w1.heap.size<=w5.heap.size);have F5:=ae ((hFR.trans (Fr.below (T:=T3) YM)).trans O5.fr);have K5:=ae ((hKB.trans (Kb.below (aa YM)) hFR.1).trans (O5.kb (by simp [PL,aF ta.2])) (by have:=YM.size;have:=hFR.1;omega));go_wp2;go_roundw
 case rel=>exact ⟨j+1,_,by omega,by go_num,Ps,P5,ba4,F5,G5,Z5,K5⟩
 case measure=>simp [intOf];omega}
 {
 have bm:=dy j m;have e1:=aa hSS;rw [List.take_of_length_le (by rw [aa em];omega)] at e1;have hN5:=hP.jC k nd g hh uu hk Gz.1 Gz.2.1 Gz.2.2;obtain ⟨V,-,-,-,-,-,-,-,-,n6,-⟩:=hN5.cells;obtain ⟨M5,n5,o5,-,-,-⟩:=hN5.Iq;obtain ⟨vv,w5,cK,Me,qh,hs5⟩:=Iz underlying84 o5 0;have HN5:=ae hN5;have YK:=ae (ag Me (ag qh hs5));have H5:=ae o5;go_wp2
 go_end0
 have O:=One.Lk hP.be YK.2.1 HN5.lo.2.2 (ownsMap_at H5);have hQ:=PS.Iq (s:=[]) hP hk Gz.1 Gz.2.1 Gz.2.2 O ⟨_,0,YK.1,by omega,db.nil,rfl⟩;refine ⟨?_,⟨hFR.trans O.fr,hKB.trans (O.kb (by simp [PL,aF Gz.2.2])) hFR.1⟩,_,rfl⟩;unfold cO;rw [aa hk];simp only [e1];exact hQ})
theorem UR (w:World) (b bs bn:Nat) (D:SD) (SB NB HB UB:List Nat) (h:Hid (PS w0 w b bs bn D SB NB HB UB)) (k:Nat) (nd:aD) (hk:Hid (D.ns[k]?=some nd)) (kd:Int) (hS:Hid (vN D.ss)) (hT:Hid (NT D.ss nd)) :
  Calls prog 261 #[.pointer (some ⟨b,0,none⟩),.I kd,.string (aC nd.path)] w fun r w'=>PS w0 w' b bs bn (cO D k kd) SB NB HB UB/\Fr T3 w w'/\∃ v,r=.returned v:=(EH w b bs bn D SB NB HB UB h k nd hk kd hS hT).mono fun r w' ⟨h1,h2,h3⟩=>⟨h1,h2.1,h3⟩
theorem db.has (h:db D s) (id:Int):Maps.has D (.U id)=s.contains id:=by
 rw [Bool.eq_iff_iff,h];simp
theorem ly :x∈lQ s id↔x∈s/\x≠id:=by
 unfold lQ;simp
theorem ue (h:s.Pairwise (·<·)):(lQ s id).Pairwise (·<·):=h.filter _
theorem nY:∀ {s:List Int} {id x:Int},x∈ig s id↔x=id\/x∈s
 | [],id,x=>by simp [ig]
 | y::r,id,x=>by
  unfold ig;split;{rw [List.mem_cons,ly];by_cases e:x=id<;>simp [e]}
  {rw [List.mem_cons,nY,List.mem_cons];constructor;{rintro (h | h | h);{exact .inr (.inl h)};{exact .inl h};{exact .inr (.inr h)}};{rintro (h | h | h);{exact .inr (.inl h)};{exact .inl h};{exact .inr (.inr h)}}}
theorem yQ:∀ {s:List Int} {id:Int},s.Pairwise (·<·)->(ig s id).Pairwise (·<·)
 | [],id,_=>by simp [ig]
 | y::r,id,h=>by
  unfold ig;obtain ⟨h1,h2⟩:=List.pairwise_cons.1 h;split;{
 rename_i hle
 refine List.pairwise_cons.2 ⟨fun z hz=>?_,ue h⟩;obtain ⟨iT,jW⟩:=ly.1 hz;rcases List.mem_cons.1 iT with rfl | iT;{omega};{have:=h1 z iT;omega}};{
 rename_i hle
 refine List.pairwise_cons.2 ⟨fun z hz=>?_,yQ h2⟩;rcases nY.1 hz with rfl | hz;{omega};{exact h1 z hz}}
theorem EF (s:List Int) (id:Int):(ig s id).length<=s.length+1:=by
 induction s with
 | nil=>simp [ig]
 | cons y r ih=>
  unfold ig;split;{have:=nW (y::r) id;simp at this ⊢;omega};{simp;omega}
theorem SM.del {w w':World} {h n:Nat} (hs:db D s) (hp:s.Pairwise (·<·)) (hn:n<=2097152) (o:w'.ownsMap prog 23 unitElem h n (D.del (.U id))):SM w' h (lQ s id):=by
 refine SM.of o hn (fun k=>?_) (jB (ue hp));by_cases e:k=.U id;{subst e;rw [has_del_same];constructor;{intro hh;cases hh};{rintro ⟨i,hi,e⟩;simp at e;exact absurd e.symm (ly.1 hi).2}};{rw [has_del_other e,hs k];constructor;{rintro ⟨i,hi,rfl⟩;exact ⟨i,ly.2 ⟨hi,fun e2=>e (by rw [e2])⟩,rfl⟩};{rintro ⟨i,hi,rfl⟩;exact ⟨i,(ly.1 hi).1,rfl⟩}}
theorem SM.put {w w':World} {h n:Nat} (hs:db D s) (hD:IsMap D) (hp:s.Pairwise (·<·)) (hn:n<=2097152) {d:DataW Unit} (o:w'.ownsMap prog 23 unitElem h n (D.put (.U id) d)):SM w' h (ig s id):=by
 refine SM.of o hn (fun k=>?_) (jB (yQ hp));rw [(db.put hs hD id d) k];constructor;{rintro ⟨i,hi,rfl⟩;exact ⟨i,nY.2 (by simp at hi;exact hi.symm),rfl⟩};{rintro ⟨i,hi,rfl⟩;exact ⟨i,by have:=nY.1 hi;simp;exact this.symm,rfl⟩}
theorem fV (w:World) (g hh uu:Nat) (nd:aD) (hN:Hid (PN w0 w g hh uu nd)) (id:Int) (hid:0<=id/\id<18446744073709551616) (B:Bool) (eB:Hid (nd.holders.contains id=B)) :
  Calls prog 258 #[.pointer (some ⟨g,0,none⟩),.U id] w fun r w'=>r=.returned (.bool B)/\Bw w w':=by
 obtain ⟨V,-,-,-,-,-,n3,-⟩:=hN.cells;obtain ⟨D,n,o,hn,hs,hz⟩:=hN.Hn;have df:=keyOf_int_mk underlying23 (jO hid);have hB:Maps.has D (.U id)=B:=(hs.has id).trans eB;go_enter func258,ntmps258;go_wp2_with (first
  | (at_lookup;refine wpList_lookup_own_unit _ rfl _ _ 84 rfl 23 _ gR underlying84 (by kernel_rfl) hh n D rfl o _ _ rfl df ?_;rw [hB])
  | go_in)
 go_ret;exact ⟨rfl,aJ.alloc aA _⟩
theorem RI (nd:aD) (id:Int):jH nd id=(decide (nd.mode=0)||(decide (nd.holders.length=1)&&nd.holders.contains id)):=by
 unfold jH
 match nd.holders with
 | []=>simp
 | [y]=>
  congr 1
  simp only [List.length_singleton,decide_true,Bool.true_and,List.headD_cons];rw [Bool.eq_iff_iff];simp;exact ⟨fun e=>(of_decide_eq_true e).symm,fun e=>decide_eq_true e.symm⟩
 | y::z::r=>simp
theorem Je (w:World) (g hh uu:Nat) (nd:aD) (hN:Hid (PN w0 w g hh uu nd)) (id:Int) (hid:0<=id/\id<18446744073709551616) (B:Bool) (eB:Hid (jH nd id=B)) :
  Calls prog 249 #[.pointer (some ⟨g,0,none⟩),.U id] w fun r w'=>r=.returned (.bool B)/\Bw w w':=by
 obtain ⟨V,-,-,-,-,n2,n3,-⟩:=hN.cells;obtain ⟨D,n,o,hn,hs,hz⟩:=hN.Hn;have e:=aa eB;rw [RI] at e;have hlen:=o.len underlying84 3;rw [hz] at hlen;by_cases hm:nd.mode=0;{
 have To:(nd.mode==0)=true:=by simp [hm]
 have eB':B=true:=by rw [<-e];simp [hm]
 subst eB';go_enter func249,ntmps249;go_wp2;go_ret;exact ⟨rfl,Below.refl _ _⟩};{
 have To:(nd.mode==0)=false:=by simp [hm]
 by_cases hl:nd.holders.length=1;{
 rw [hl] at hlen;have eB':nd.holders.contains id=B:=by rw [<-e];simp [hm,hl]
 have EB:=ae eB';go_enter func249,ntmps249;go_wp2_with fail;refine (fV w g hh uu nd hN id hid B EB).mono ?_;rintro r w1 ⟨rfl,bq⟩;go_wp2;go_ret;exact ⟨rfl,bq⟩};{
 obtain ⟨nl,je⟩:=aH nd.holders.length;rw [je] at hlen hl;have eB':B=false:=by rw [<-e,je];simp [hm,hl]
 subst eB';have sv:((nl:Int)==1)=false:=by simp;omega
 go_enter func249,ntmps249;go_wp2;go_ret;exact ⟨rfl,Below.refl _ _⟩}}
def KD (ns:List aD):Prop:=∀ (i j:Nat) (a c:aD),ns[i]?=some a->ns[j]?=some c->bN a.path=bN c.path->i=j
theorem KD.set (h:KD ns) {k:Nat} (hk:ns[k]?=some nd) (hp:nd'.path=nd.path):KD (ns.set k nd'):=fun i j a c ha hc e=>by
 have key:∀ (i:Nat) (a:aD),(ns.set k nd')[i]?=some a->∃ a0,ns[i]?=some a0/\a0.path=a.path:=fun i a ha=>by rw [List.getElem?_set] at ha;by_cases ei:k=i;{subst ei;rw [if_pos rfl,if_pos (aN.1 hk).1] at ha;cases ha;exact ⟨nd,hk,hp.symm⟩};{rw [if_neg ei] at ha;exact ⟨a,ha,rfl⟩}
 obtain ⟨a0,h1,e1⟩:=key i a ha;obtain ⟨c0,h2,e2⟩:=key j c hc;exact h i j a0 c0 h1 h2 (by rw [e1,e2,e])
theorem CF (w:World) (b bs bn:Nat) (D:SD) (SB NB HB UB:List Nat) (h:Hid (PS w0 w b bs bn D SB NB HB UB)) (k:Nat) (nd:aD) (hk:Hid (D.ns[k]?=some nd)) (hS:Hid (vN D.ss)) (hT:Hid (NT D.ss nd)) (hD:Hid (KD D.ns)) :
  Calls prog 260 #[.pointer (some ⟨b,0,none⟩),.string (aC nd.path)] w fun r w'=>PS w0 w' b bs bn (AH (cO D k 2) k) SB (NB.eraseIdx k) (HB.eraseIdx k) (UB.eraseIdx k)/\(Fr T3 w w'/\Kb (PL b bs bn SB NB HB UB) w w')/\∃ v,r=.returned v:=by
 go_enter func260,ntmps260;go_wp2_with fail;refine (EH w b bs bn D SB NB HB UB h k nd hk 2 hS hT).mono ?_;rintro r w1 ⟨hP,hF,v,rfl⟩;replace hF:=ae hF;have Tn:(cO D k 2).ns=D.ns.set k { nd with watchers:=[] }:=by unfold cO;rw [aa hk]
 have nw:(cO D k 2).ns[k]?=some { nd with watchers:=[] }:=by rw [Tn];exact aP (aa hk) _
 have TL:KD (cO D k 2).ns:=by rw [Tn];exact hD.set (aa hk) rfl
 obtain ⟨-,-,-,-,-,h5,-⟩:=hP.dC;obtain ⟨M,n,o,-,-,-⟩:=hP.jQ;have df:keyOf prog 9 (.string (aC nd.path))=some (bN nd.path):=by rw [WideMaps.keyOf_string_mk underlying9 (by rw [di];have:=hT.pl;unfold maxLen;omega),kq]
 have HP:=ae (ag hP (ag nw TL));obtain ⟨w',cK,ho,r8⟩:=o.drop kM underlying130 df 0;have HT:=ae (ag ho r8);have O:=ae o;go_wp2
 go_end0
 have On:=One.Lk HP.1.be HT.2.grown HP.1.lo.2.2 (ownsMap_at O);refine ⟨?_,⟨hF.1.trans On.fr,hF.2.trans (On.kb (by simp [PL])) hF.1.1⟩,_,rfl⟩;refine HP.1.aV9 HP.2.1 On (fun j z hz e=>HP.2.2 j k z _ hz HP.2.1 e) (fun M' n' o'=>?_);obtain ⟨w2,DD,vF,-⟩:=o'.drop kM underlying130 df 0;rw [cK] at DD;cases DD;exact vF
theorem KT (w:World) (b bs bn:Nat) (D:SD) (SB NB HB UB:List Nat) (h:Hid (PS w0 w b bs bn D SB NB HB UB)) (k:Nat) (nd:aD) (hk:Hid (D.ns[k]?=some nd)) (hS:Hid (vN D.ss)) (hT:Hid (NT D.ss nd)) (hD:Hid (KD D.ns)) :
  Calls prog 260 #[.pointer (some ⟨b,0,none⟩),.string (aC nd.path)] w fun r w'=>PS w0 w' b bs bn (AH (cO D k 2) k) SB (NB.eraseIdx k) (HB.eraseIdx k) (UB.eraseIdx k)/\Fr T3 w w'/\∃ v,r=.returned v:=(CF w b bs bn D SB NB HB UB h k nd hk hS hT hD).mono fun r w' ⟨h1,h2,h3⟩=>⟨h1,h2.1,h3⟩
theorem PS.Lo {D:SD} {SB NB HB UB:List Nat} (h:PS w0 w b bs bn D SB NB HB UB) (hi:D.ns[i]?=some nd) (hg:NB[i]?=some g) (jT:HB[i]?=some hh) (jX:UB[i]?=some uu) (O:One w0 w w' g) (V:Value) (vl:List Int) (ow mo ep ge:Int) (hc:w'.heap[g]?=some (.cells #[V,.U ow,.I mo,.map (some hh),.U ep,.U ge,.map (some uu)] 137)) (hV:AB w0 w' V vl) :
  PS w0 w' b bs bn { D with ns:=D.ns.set i { nd with value:=vl,owner:=ow,mode:=mo,aB:=ep,gen:=ge } } SB NB HB UB:=by
 obtain ⟨lo,⟨V0,q1,-⟩,q3,q4⟩:=h.jC i nd g hh uu hi hg jT jX;obtain ⟨es,c,m3⟩:=q3.at;obtain ⟨RN,c',m4⟩:=q4.at;refine h.GJ hi hg jT jX (.inl rfl) O rfl ⟨lo,⟨V,hc,hV⟩,q3.aU O (fun e=>?_),q4.aU O (fun e=>?_)⟩;{rw [e,q1] at m3;cases m3};{rw [e,q1] at m4;cases m4}
theorem One.Qw {cs:Array Value} (be:Bw w0 w) (hb:Below g w w') (hg:w.heap[g]?=some (.cells cs ty)) (yB:w0.heap.size<=g) (ht:ty∈[35,137,132]) (hk:∀ z,z<w.heap.size->z≠g->w'.heap[z]?=w.heap[z]?):One w0 w w' g:=by
 refine ⟨hb.mono yB,hk,fun cur PR m hc=>?_⟩;rw [hg] at hc;simp at hc;rw [<-hc.2.1];exact ht
theorem lh {α:Type} (l:List α) (k:Nat) (a c:α):(l.set k a).set k c=l.set k c:=by simp
theorem y9 (w:World) (b bs bn:Nat) (D:SD) (SB NB HB UB:List Nat) (h:Hid (PS w0 w b bs bn D SB NB HB UB)) (k:Nat) (nd:aD) (hk:Hid (D.ns[k]?=some nd)) (hS:Hid (vN D.ss)) (hT:Hid (NT D.ss nd)) (id:Int) (hid:0<=id/\id<18446744073709551616) (Ts:Hid (nd.holders.Pairwise (·<·))) (hhl:nd.holders.length<=1048576) (uy:Hid (nd.holders.contains id=true)) :
  Calls prog 259 #[.pointer (some ⟨b,0,none⟩),.string (aC nd.path),.U id] w fun r w'=>PS w0 w' b bs bn (cT D k id) SB NB HB UB/\(Fr T3 w w'/\Kb (PL b bs bn SB NB HB UB) w w')/\∃ v,r=.returned v:=by
 obtain ⟨g,hh,uu,hg,jT,jX,hN,hlk⟩:=h.Dg hk hT.pl;obtain ⟨V,hV,gc,-,n1,n2,n3,n4,n5,n6,nf⟩:=hN.cells;obtain ⟨-,-,-,-,-,h5,-⟩:=h.dC;obtain ⟨M,nn,oM,Mg,sM,zM⟩:=hN.Hn;have df:=keyOf_int_mk underlying23 (jO hid);obtain ⟨w1,cK,ho,r8⟩:=oM.drop gR underlying84 df 0;have O1:=One.Lk h.be r8.grown hN.lo.2.1 (ownsMap_at oM);have S1:=SM.del (w:=w) sM Ts Mg ho;have P1:=h.Hn hk hg jT jX O1 S1;have nw:=aP hk { nd with holders:=lQ nd.holders id }
 obtain ⟨V1,Hp,gc1,m0,m1,m2,m3,m4,m5,m6,mf⟩:=(P1.jC k _ g hh uu nw hg jT jX).cells;obtain ⟨M1,nn1,oM1,-,-,zM1⟩:=S1;have hlen:=oM1.len underlying84 3;rw [zM1] at hlen;obtain ⟨nl,je⟩:=aL (lQ nd.holders id).length;rw [aa je] at hlen;have Pw:=ae (ag P1 nw);have F1:=ae O1.fr;have K1:=ae (O1.kb (L:=PL b bs bn SB NB HB UB) (by simp [PL,aF jT]));have ta:=ae (ag hg (ag jT jX));have XP:=ae (ag gc1 Hp);have glo:=hN.lo.1;go_enter func259,ntmps259;by_cases h0:nl=0;{
 subst h0;have jS:lQ nd.holders id=[]:=List.length_eq_zero_iff.1 je;obtain ⟨Z,hZ⟩:=ax (((w1.setCell ⟨g,2,none⟩ (.I 0)).setCell ⟨g,4,none⟩ (.U 0)).setCell ⟨g,5,none⟩ (.U 0));have xj:Z.heap[g]?=some (.cells #[V1,.U nd.owner,.I 0,.map (some hh),.U 0,.U 0,.map (some uu)] 137):=by rw [hZ];simp [World.setCell,Array.getElem?_modify,XP.1]
 have bZ:Below g w1 Z:=by rw [hZ];exact ((aJ.setCell (p:=⟨g,2,none⟩) aA _).setCell (p:=⟨g,4,none⟩) aA _).setCell (p:=⟨g,5,none⟩) aA _
 have kZ:∀ z,z<w1.heap.size->z≠g->Z.heap[z]?=w1.heap[z]?:=fun z _ bL=>by rw [hZ];iterate 3 rw [dF _ _ _ _ (show z≠_ from bL)]
 have OZ:=One.Qw Pw.1.be bZ XP.1 glo (by simp) kZ;have PZ:=Pw.1.Lo Pw.2 ta.1 ta.2.1 ta.2.2 OZ V1 nd.value nd.owner 0 0 0 xj (XP.2.fr OZ.fr);simp only [lh,jS] at PZ;have HPZ:=ae PZ;have FZ:=ae (F1.trans OZ.fr);have KZ:=ae (K1.trans (OZ.kb (by simp [PL,aF ta.1])) F1.1);have VT:=ae (aP hk { nd with holders:=[],mode:=0,aB:=0,gen:=0 });have fz2:=mf 2;have MZ:=mf 4;have fz5:=mf 5;go_wp2_with fail;rw [<-hZ];refine (EH Z b bs bn _ SB NB HB UB HPZ k { nd with holders:=[],mode:=0,aB:=0,gen:=0 } VT 3 hS (ae ⟨hT.Ia,hT.pl,hT.wpw,hT.Cn,hT.yO⟩)).mono ?_;rintro r w5 ⟨Wx,Ys,v5,rfl⟩;replace Ys:=ae Ys;go_wp2
 go_end0
 refine ⟨?_,⟨FZ.trans Ys.1,KZ.trans Ys.2 FZ.1⟩,_,rfl⟩;unfold cT;rw [aa hk];simp only [aa uy,if_true,jS];exact Wx};{have WJ:=ja 0 nl;go_wp2;refine bodyPost_ret (results_none (by rfl) _ _ _) rfl ?_;refine ⟨?_,⟨F1,K1⟩,_,rfl⟩;have bL:lQ nd.holders id≠[]:=fun e=>h0 (by rw [<-aa je,e];rfl);unfold cT;rw [aa hk];simp only [aa uy,if_true,if_neg bL];exact Pw.1}
theorem IB (w:World) (b bs bn:Nat) (D:SD) (SB NB HB UB:List Nat) (h:Hid (PS w0 w b bs bn D SB NB HB UB)) (k:Nat) (nd:aD) (hk:Hid (D.ns[k]?=some nd)) (hS:Hid (vN D.ss)) (hT:Hid (NT D.ss nd)) (id:Int) (hid:0<=id/\id<18446744073709551616) (Ts:Hid (nd.holders.Pairwise (·<·))) (hhl:nd.holders.length<=1048576) (uy:Hid (nd.holders.contains id=true)) :
  Calls prog 259 #[.pointer (some ⟨b,0,none⟩),.string (aC nd.path),.U id] w fun r w'=>PS w0 w' b bs bn (cT D k id) SB NB HB UB/\Fr T3 w w'/\∃ v,r=.returned v:=(y9 w b bs bn D SB NB HB UB h k nd hk hS hT id hid Ts hhl uy).mono fun r w' ⟨h1,h2,h3⟩=>⟨h1,h2.1,h3⟩
theorem Tryz.infoStr:(Tryz.prog.info? 9).map (fun i=>(i.zero,i.size,i.bytes))=some (some (.string ByteArray.empty),1,16):=by kernel_rfl
def oC (ns:List aD) (P:List Int):List (List Int):=(ns.filter fun nd=>decide (dm nd.path=P)).map (·.path)
theorem zG (ns:List aD) (P:List Int):gJ ns P=(oC ns P).map lG:=by
 unfold gJ oC;rw [List.map_map]
 rfl
theorem IQ {k:Nat} (h:ns[k]?=some nd):oC (ns.take (k+1)) P=if dm nd.path=P then oC (ns.take k) P++[nd.path] else oC (ns.take k) P:=by
 rw [List.take_add_one,h,oC,List.filter_append,List.map_append];by_cases e:dm nd.path=P<;>simp [oC,e]
theorem Dq (ns:List aD) (P:List Int):(oC ns P).length<=ns.length:=by
 rw [oC,List.length_map];exact List.length_filter_le _ _
def xD (_:World) (l:List Int) (c:List Value):Prop:=c=[.string (aC l)]
theorem rr {ops:Array Oper} {rest:List Oper} {o:Oper} {a:Act} {Q:Exit->Act->World->Prop} (jK:o.guard=none) (s x:Operand)
  (ho:o.op=.call { callee:=.builtin .append,args:=#[s,x],argTypes:=#[157,157] })
  (B:Nat) (v:Value) (ls:List (List Int)) (l:List Int) (k:Nat) (ek:Hid (ls.length=k)) (hs:a.eval s=v) (br:RT xD 9 1 B w v ls) (g:Nat) (hx:a.eval x=.S (some ⟨g,0,none⟩) 1 1) (eh:w.cell? ⟨g,0,none⟩=some (.string (aC l)))
  (hk:k<4194304) (hB:B<=w.heap.size)
  (h:∀ p' c' w',RT xD 9 1 B w' (.S p' (k+1) c') (ls++[l])->w.grownBy w' v.ownBlock->wpList Tryz.prog ops Q rest (a.put o.dst (.S p' (k+1) c')) w'):wpList Tryz.prog ops Q (o::rest) a w:=by
 obtain ⟨i,hi,mw,iT,jW⟩:=info_parts Tryz.infoStr;obtain ⟨rs,h1,h2,h3,h4⟩:=br;rw [aa ek] at h3;refine eX jK s x 157 ho B 9 i _ 1 16 Tryz.underlying157 hi mw iT jW rfl (by decide) v _ _ hs h3 g 1 1 [.string (aC l)] hx rfl (fun j u hu=>by
  have e:j=0:=by have:=(aN.1 hu).1;simpa using this
  subst e;simp at hu;subst hu;exact eh) (fun u hu=>by simp at hu;rw [hu];rfl) (by unfold maxLen;omega) (by omega) hB ?_
 intro v' w' dW hg _;have sn:RT xD 9 1 B w' v' (ls++[l]):=RT.snoc h1 h2 h4 (fun _ _ h=>h) rfl rfl (by rw [aa ek];exact dW);obtain ⟨p',c',rfl,-⟩:=RT.form sn;rw [List.length_append,aa ek] at sn ⊢;exact h p' c' w' sn hg
theorem RT.Og {ls:List (List Int)} (h:RT xD 9 1 B w v ls) (hb:Bw w w'):RT xD 9 1 B w' v ls:=h.aU (fun _ _ h=>h) (fun b cR=>hb.block b (h.lt b cR).2)
theorem sK (w:World) (b bs bn:Nat) (D:SD) (SB NB HB UB:List Nat) (h:Hid (PS w0 w b bs bn D SB NB HB UB)) (uV:Hid ((D.ns.map fun nd=>ko nd.path).Pairwise (·<·))) (fI:Hid (∀ nd∈D.ns,bM nd.path/\nd.path.length<=1048576)) (P:List Int) (bP:Hid (bM P)) (L:List (List Int)) (eL:Hid (oC D.ns P=L)) :
  Calls Tryz.prog 269 #[.pointer (some ⟨b,0,none⟩),.string (aC P)] w fun r w'=>∃ p c,r=.returned (.S p L.length c)/\RT xD 9 1 w.heap.size w' (.S p L.length c) L/\Bw w w':=by
 obtain ⟨-,-,-,-,-,h5,-⟩:=h.dC;obtain ⟨M,nn,oM,Mg,mM,zM⟩:=h.jQ;have hNM:=h.sto.me;go_enter Tryz.func269,Tryz.ntmps269;go_wp2_with fail;refine (T.aa4 bn nn M w oM (by have:=oM.size_le;omega)).mono ?_;rintro r w1 ⟨kv,ks,rfl,Ez,Ca,bq⟩;obtain rfl:=qH hNM uV mM Ez;obtain ⟨p,c,rfl,xv⟩:=AJ Ca;obtain ⟨m,em⟩:=aL D.ns.length;have hm:m<=1048576:=by have:=oM.size_le;rw [zM,aa em] at this;omega
 rw [aa em];have HK:=ae xv;have B1:=ae bq;go_wp2
 go_loopw [5,14] (fun ov iv wr=>∃ (j:Nat) (N:List (List Int)),j<=m/\iv=.I j/\Hid (oC (D.ns.take j) P=N)/\Hid (RT xD 9 1 w1.heap.size wr ov N)/\Hid (Bw w1 wr)) (fun _ iv _=>m-(intOf iv).toNat)
 case atStart=>exact ⟨0,[],Nat.zero_le _,rfl,(by show _=_;simp [oC]),RT.nil _ _ _ _ _,Below.refl _ _⟩
 case round =>(
 obtain ⟨j,N,hj,rfl,hN,hT,aR⟩:=hrel;obtain ⟨po,co,rfl,-⟩:=RT.form hT;have zr:=aR.size;have IZ:N.length<=j:=by have h1:=Dq (D.ns.take j) P;have h2:=List.length_take_le j D.ns;rw [aa hN] at h1;omega
 by_cases bj:j<m;{
 have bm:=aT j m;obtain ⟨nd,hx⟩:∃ nd,D.ns[j]?=some nd:=⟨_,aK (by rw [aa em];exact bj)⟩;obtain ⟨gk,rfl,ME⟩:∃ gk,p=some ⟨gk,0,none⟩/\wr.cell? ⟨gk,j,none⟩=some (.string (aC nd.path)):=by rcases aa HK with h0 | ⟨gk,rfl,h1,h2,h3⟩;{rw [h0] at hx;simp at hx};{exact ⟨gk,rfl,af (by have:=h3 j nd hx;rwa [Nat.zero_add] at this) (aa aR)⟩}
 obtain ⟨bq,bk⟩:=aa fI nd (aF hx);have lr:=ae (IQ (P:=P) hx);obtain ⟨nP,eN⟩:=aL nd.path.length;rw [aa eN] at bk;have jN:=ae bq;have heq:=sL (mc bq) bP;go_wp2_with fail;refine (mJ nd.path nP eN jN bk wr).mono ?_;rintro r w2 ⟨rfl,rfl⟩;by_cases hq:dm nd.path=P;{
 have qg:decide (dm nd.path=P)=true:=by simp [hq]
 rw [qg] at heq;have E1:=ae (by have:=aa lr;rwa [if_pos hq,aa hN] at this:oC (D.ns.take (j+1)) P=N++[nd.path]);go_wp2_with (at_builtin;refine rr rfl _ _ rfl w1.heap.size (.S po N.length co) N nd.path N.length (ae rfl) rfl (RT.Og (aa hT) (aJ.alloc aA _)) w2.heap.size rfl (by simp) (by omega) (by simp;omega) ?_);intro p' c' w5 T5 qh;have bA:Bw w2 (w2.alloc (.cells #[.string (aC nd.path)] 9)):=aJ.alloc aA _;have B5:=ae ((ah (aa aR) bA).grown qh (by simp;omega) (fun b' e=>(hT.lt b' e).1));have T5':=ae T5;go_wp2;go_roundw
 case rel=>exact ⟨j+1,_,by omega,by go_num,E1,T5',B5⟩
 case measure=>simp [intOf];omega}
 {
 have qg:decide (dm nd.path=P)=false:=by simp [hq]
 rw [qg] at heq;have E1:=ae (by have:=aa lr;rwa [if_neg hq,aa hN] at this:oC (D.ns.take (j+1)) P=N);go_wp2;go_roundw
 case rel=>exact ⟨j+1,N,by omega,by go_num,E1,hT,aR⟩
 case measure=>simp [intOf];omega}}
 {have bm:=dy j m;have e1:=aa hN;rw [List.take_of_length_le (by rw [aa em];omega),aa eL] at e1;subst e1;go_wp2;go_ret;exact ⟨_,_,rfl,RT.mono hT B1.size,ah B1 aR⟩})
end Go.Proofs.YtcfcafeciggjeaaGreatDoor
