import Derived.Test.YtcfcafeciggjeaaGreatDoorK46
namespace Go.Proofs.YtcfcafeciggjeaaGreatDoor
set_option maxHeartbeats 25600000
set_option linter.unusedVariables false
set_option linter.unusedSimpArgs false
set_option maxRecDepth 100000
open Go.ChangeShapes Go.WideShapes Go.ChangeAt Go.RowKit Go.Deep Go.Proofs.Tryz
theorem JP (cd:List Int) (t:Nat) (hb:bQ cd) (hl:cd.length<=500) (D:SD) (hv:VD D) (he:0<=D.e) (ib:∀ k:Nat,cd.getD t 0 % 22=k->k∈[7]/\¬ (D.ns.length=0\/D.ss.length=0)):∃ D',BD D'/\NJ cd t D D':=by
 have r0:=aV cd hb t;have r1:=aV cd hb (t+1);obtain ⟨x,ex⟩:∃ x,Hid (cd.getD t 0=x):=⟨_,ae rfl⟩;obtain ⟨v,ev⟩:∃ v,Hid (cd.getD (t+1) 0=v):=⟨_,ae rfl⟩;rw [aa ex] at r0;rw [aa ev] at r1;obtain ⟨k,ek,hk⟩:∃ k:Nat,x % 22=k/\k<22:=⟨(x % 22).toNat,by omega,by omega⟩;have cM:=ae (ib k (by rw [aa ex];exact ek));clear ib;obtain ⟨P,bP,lP,dP⟩:=dW cd (t+1+1) hb hl;obtain ⟨n,en⟩:∃ n,Hid (D.ns.length=n):=⟨_,ae rfl⟩;obtain ⟨m,em⟩:∃ m,Hid (D.ss.length=m):=⟨_,ae rfl⟩;have zR:n<=200:=by rw [<-aa en];exact hv.nl
 have Re:m<=50:=by rw [<-aa em];exact hv.sl
 obtain ⟨I,eI,Hu⟩:∃ I:Nat,Hid ((if 0<n then v % n else 0)=(I:Int))/\Hid (0<n->I<n):=by by_cases h:0<n;{have h1:=Int.emod_nonneg v (show (n:Int)≠0 by omega);have h2:=Int.emod_lt_of_pos v (show (0:Int)<n by omega);exact ⟨(v % n).toNat,by show _=_;rw [if_pos h];omega,fun _=>by omega⟩};{exact ⟨0,by show _=_;rw [if_neg h];rfl,fun h'=>absurd h' h⟩}
 obtain ⟨J,eJ,Ht⟩:∃ J:Nat,Hid ((if 0<m then v % m else 0)=(J:Int))/\Hid (0<m->J<m):=by by_cases h:0<m;{have h1:=Int.emod_nonneg v (show (m:Int)≠0 by omega);have h2:=Int.emod_lt_of_pos v (show (0:Int)<m by omega);exact ⟨(v % m).toNat,by show _=_;rw [if_pos h];omega,fun _=>by omega⟩};{exact ⟨0,by show _=_;rw [if_neg h];rfl,fun h'=>absurd h' h⟩}
 obtain ⟨D',mc⟩:∃ D',Hid (aO k v I J P D=D'):=⟨_,ae rfl⟩;refine ⟨D',by rw [<-aa mc];exact jE hv he k r1 I J bP lP,?_⟩;intro g p c w0 w ps cs qs ds Qs h iu hd hS hN;have HP:=ae (ag bP (ag lP dP));have HV:=ae (ag hv he);have Fv:=hd.2.1;obtain ⟨W0,cA,b0,z0,C0⟩:=bg w (.int .u64 D.e) (.int .u64 D.g) (.int .u64 D.x) (.int .i64 D.t) (.slice ps D.ss.length cs) (.slice qs D.ns.length ds);obtain ⟨W1,fP,b1,z1,C1⟩:=bg W0 (.int .u64 0) (.int .u64 0) (.int .u64 0) (.int .i64 0) (.slice none 0 0) (.slice none 0 0);rw [z0] at C1 z1;have bW:=ai b0 b1;have H0:Hid (RA w0 W1 w.heap.size (w.heap.size+1) g p cd c t [.int .u64 D.e,.int .u64 D.g,.int .u64 D.x,.int .i64 D.t,.slice ps m cs,.slice qs n ds]/\de w0.heap.size W1 (.slice ps m cs) D.ss Qs/\jh w0.heap.size W1 (.slice qs n ds) D.ns):=by rw [<-aa en,<-aa em];exact ⟨⟨C0.below b1,C1,h.low bW h.lt,hd.dr (Dr.below bW h.lt),by omega,⟨by omega,by omega⟩,iu⟩,hS.fr (Fr.below (T:=[]) bW) (by decide),aR.fr hN (Fr.below (T:=[]) bW) (by decide)⟩
 obtain ⟨sb,il⟩:=aN w.heap.size;obtain ⟨rb,sV⟩:=aN (w.heap.size+1);rw [sV,il] at H0;have ko:=ae (ag il sV);clear b0 b1 bW z0 z1 C0 C1 hS hN hd h bP lP dP hv he Fv il sV;go_enter func84,ntmps84;go_wp2_with fail;rw [<-cA,<-fP,ko.2,ko.1];rw [aa en,aa em];clear cA fP W0;refine (cY g p cd c t W1 H0.1.fR hb hl).mono ?_;rintro r w1 ⟨rfl,h1,d1⟩;rw [aa ex];have H1:=ae (ag (H0.1.draw h1 d1) (ag (H0.2.1.fr d1.1 (by decide)) (aR.fr H0.2.2 d1.1 (by decide))));clear h1 d1 H0 W1;go_wp2_with fail;refine (cY g p cd c (t+1) w1 H1.1.fR hb hl).mono ?_;rintro r w2 ⟨rfl,h2,d2⟩;rw [aa ev];have H2:=ae (ag (H1.1.draw h2 d2) (ag (H1.2.1.fr d2.1 (by decide)) (aR.fr H1.2.2 d2.1 (by decide))));clear h2 d2 H1 w1 ko;obtain ⟨q0,q1,q2,q3,q4,q5,qf⟩:=H2.1.box.cells
 go_upto_if 17 with fail
 go_cut [7] (fun iv wc=>iv=.int .i64 I/\wc=w2)
 case first =>(
 as_aux_lemma=>
 have e1:=aa eI;by_cases h0:0<n;{
 rw [if_pos h0] at e1;have C8:(0:Int)<(n:Int):=by omega
 have Hx:¬ (n:Int)=0:=by omega
 have E1:=ae e1;clear e1;go_wp2;go_meet
 case rel=>exact ⟨by rw [<-aa E1],rfl⟩}
 {
 rw [if_neg h0] at e1;have n0:n=0:=by omega
 subst n0;have E1:=ae e1;clear e1;go_wp2;go_meet
 case rel=>exact ⟨by rw [<-aa E1],rfl⟩})
 case rest=>
 obtain ⟨rfl,ky⟩:=hcut;rw [ky];clear ky wc
 go_upto_if 26 with fail
 go_cut [8] (fun iv wc=>iv=.int .i64 J/\wc=w2)
 case first =>(
 as_aux_lemma=>
 have e1:=aa eJ;by_cases h0:0<m;{
 rw [if_pos h0] at e1;have C8:(0:Int)<(m:Int):=by omega
 have Hx:¬ (m:Int)=0:=by omega
 have E1:=ae e1;clear e1;go_wp2;go_meet
 case rel=>exact ⟨by rw [<-aa E1],rfl⟩}
 {
 rw [if_neg h0] at e1;have n0:m=0:=by omega
 subst n0;have E1:=ae e1;clear e1;go_wp2;go_meet
 case rel=>exact ⟨by rw [<-aa E1],rfl⟩})
 case rest=>
 obtain ⟨rfl,ky⟩:=hcut;rw [ky];clear ky wc
 go_upto_if 33 with fail
 go_cut [] (fun wc=>Hid (jS w0 wc sb rb g p cd c D'))
 case rest =>(
 as_aux_lemma=>
 obtain ⟨t9,p9,c9,q9,d9,R9,S9⟩:=aa hcut;clear q0 q1 q2 q3 q4 q5 qf H2;obtain ⟨Z,hZ⟩:=ar (aP wc rb (.int .u64 D'.e) (.int .u64 D'.g) (.int .u64 D'.x) (.int .i64 D'.t) (.slice p9 D'.ss.length c9) (.slice q9 D'.ns.length d9));have HZ:=ae (R9.fin hZ);have HS:=ae S9;obtain ⟨q0,q1,q2,q3,q4,q5,qf⟩:=R9.box.cells;obtain ⟨u0,u1,u2,u3,u4,u5,uf⟩:=R9.res.cells;clear R9 S9 hcut;unfold aP at hZ;go_wp2;rw [<-hZ];clear hZ q0 q1 q2 q3 q4 q5 qf u0 u1 u2 u3 u4 u5 uf;obtain ⟨s0,s1,s2,s3,s4,s5,sf⟩:=HZ.1.cells;refine bodyPost_ret (v:=cK D'.e D'.g D'.x D'.t (.slice p9 D'.ss.length c9) (.slice q9 D'.ns.length d9)) (by simp [results,results84,go_sem,s0,s1,s2,s3,s4,s5]) rfl ?_;exact ⟨_,_,_,_,rfl,fun w3 hk=>aa HS w3 (Kx.pre HZ.2.1 hk),HZ.2.2.2⟩)
 case first =>(
 have c9:k<22:=hk;by_cases Hb:k<4;{
 have:k=0\/k=1\/k=2\/k=3:=by omega
 rcases this with rfl | rfl | rfl | rfl;{exact absurd cM.1 (by decide)};{exact absurd cM.1 (by decide)};{exact absurd cM.1 (by decide)};{exact absurd cM.1 (by decide)}};{
 by_cases bq:n=0\/m=0;{
 have dK:D.ns.length=0\/D.ss.length=0:=by rw [aa en,aa em];exact bq
 have c0:k≠0:=by omega
 have c1:k≠1:=by omega
 have c2:k≠2:=by omega
 have c3:k≠3:=by omega
 exact absurd dK cM.2};{
 have dK:¬ (D.ns.length=0\/D.ss.length=0):=by rw [aa en,aa em];exact bq
 have hI:I<n:=aa Hu (by omega);have hJ:J<m:=aa Ht (by omega);have U6:(I:Int)<(n:Int):=by omega
 have U4:(J:Int)<(m:Int):=by omega
 have Fh:((n:Int)==0)=false:=by simp;omega
 have ur:((m:Int)==0)=false:=by simp;omega
 obtain ⟨nd,aK⟩:∃ nd,D.ns[I]?=some nd:=⟨_,aE (by rw [aa en];exact hI)⟩;obtain ⟨s,hs⟩:∃ s,D.ss[J]?=some s:=⟨_,aE (by rw [aa em];exact hJ)⟩;obtain ⟨gn,P0,V0,Ww,U0,rfl,-,-,n0,n1,n2,n3,n4,n5,n6,n7,tP,tV,tH,tU,nf⟩:=aR.at H2.2.2 aK;obtain ⟨gs,Q0,rfl,-,-,hQ,s0,s1,s2,sQ,sf⟩:=de.at H2.2.1 hs;have jM:Hid (w0.heap.size<=gs):=(H2.2.1.row.lt gs rfl).1;have pM:Hid (w0.heap.size<=gn):=(H2.2.2.lt gn rfl).1;have TT:=ae (ag tP (ag tV (ag tH (ag tU (ag hQ sQ)))));have kM:=ae aK;have xv:=ae hs;clear tP tV tH tU hQ sQ;have:k=4\/k=5\/k=6\/k=7\/k=8\/k=9\/k=10\/k=11\/k=12\/k=13\/k=14\/k=15\/k=16\/k=17\/k=18\/k=19\/k=20\/k=21:=by omega
 clear bq c9 hk Hb;rcases this with rfl | rfl | rfl | rfl | rfl | rfl | rfl | rfl | rfl | rfl | rfl | rfl | rfl | rfl | rfl | rfl | rfl | rfl;{exact absurd cM.1 (by decide)};{exact absurd cM.1 (by decide)};{exact absurd cM.1 (by decide)};{
 as_aux_lemma=>
  obtain ⟨N9,Vz⟩:∃ N9:Nat,7+v % 3=(N9:Int):=⟨(7+v % 3).toNat,by omega⟩;have e:=aa mc;rw [show aO 7 v I J P D=(⟨D.e,D.g,D.x,D.t,D.ss.set J (s.1,s.2.1,s.2.2++List.replicate (N9-s.2.2.length) (1,[47,97])),D.ns⟩:SD) by unfold aO;rw [if_neg (by decide),if_neg (by decide),if_neg (by decide),if_neg (by decide),if_neg dK,if_neg (by decide),if_neg (by decide),if_neg (by decide),if_pos rfl];unfold xl;rw [hs,Vz];rfl] at e;subst e;have h9:N9<=9:=by omega
  go_wp2;clear q0 q1 q2 q3 q4 q5 qf s0 s1 s2 sf n0 n1 n2 n3 n4 n5 n6 n7 nf
  go_loopw [] (fun wr=>∃ (i:Nat) (q:List Ev),Hid (q=s.2.2++List.replicate i (1,[47,97])/\i<=N9-s.2.2.length)/\Hid (RA w0 wr sb rb g p cd c (t+1+1) [.int .u64 D.e,.int .u64 D.g,.int .u64 D.x,.int .i64 D.t,.slice (some ⟨gs,0,none⟩) m cs,.slice (some ⟨gn,0,none⟩) n ds])/\Hid (∃ VX,de w0.heap.size wr (.slice (some ⟨gs,0,none⟩) m cs) (D.ss.set J (s.1,s.2.1,q)) VX)/\Hid (jh w0.heap.size wr (.slice (some ⟨gn,0,none⟩) n ds) D.ns)) (fun wr=>Gk wr gs J)
  case atStart=>exact ⟨0,s.2.2,ae ⟨by simp,by omega⟩,H2.1,⟨Qs,by have h1:=H2.2.1;have h2:D.ss.set J (s.1,s.2.1,s.2.2)=D.ss:=dX xv;show de _ _ _ _ _;rw [h2];exact h1⟩,H2.2.2⟩
  case round =>(
 clear H2;obtain ⟨i,q,HI,HR,Yg,HN⟩:=hrel;obtain ⟨VX,HS⟩:=aa Yg;have H2:=ae (ag (aa HR) (ag HS (aa HN)));clear HR HS HN Yg;have tF:Hid ((D.ss.set J (s.1,s.2.1,q))[J]?=some (s.1,s.2.1,q)):=List.getElem?_set_self (by rw [aa em];exact hJ);obtain ⟨q0,q1,q2,q3,q4,q5,qf⟩:=H2.1.box.cells;obtain ⟨gs',Q1,eg,-,-,hQ1,s0,s1,s2,YQ,sf⟩:=de.at H2.2.1 tF;simp only [Option.some.injEq,Addr.mk.injEq,and_true] at eg;subst eg;obtain ⟨L,eL⟩:∃ L,Hid (q.length=L):=⟨_,ae rfl⟩;obtain ⟨pQ,cQ,e1,-⟩:=RT.form YQ;dsimp only at e1 s0 s1 YQ;rw [aa eL] at e1;subst e1;have TQ:=ae hQ1;clear hQ1 YQ;by_cases br:L<N9;{
 have bt:(L:Int)<7+v % 3:=by omega
 have Me:Hid (L<=9):=by show _<=_;omega
 have zI:=ae (fun (v:World) (h:de w0.heap.size v (.slice (some ⟨gs,0,none⟩) m cs) (D.ss.set J (s.1,s.2.1,q)) VX)=>show v.cell? ⟨gs,J*3+2,none⟩=some (.slice pQ L cQ) by obtain ⟨gs',Q',e,-,-,hq,-,-,hc,-,-⟩:=de.at h tF;simp only [Option.some.injEq,Addr.mk.injEq,and_true] at e;subst e;rw [aa TQ] at hq;cases hq;exact hc)
 have zJ:=ae (fun (v:World) (h:de w0.heap.size v (.slice (some ⟨gs,0,none⟩) m cs) (D.ss.set J (s.1,s.2.1,q)) VX)=>h.xm J _ _ tF TQ);go_wp2_with fail;obtain ⟨vA,bM⟩:=ar wr.drew;have bA:Below wr.heap.size wr vA:=by rw [bM];exact ay.drew
 have HA:=ae (ag (H2.1.below bA) (ag (H2.2.1.fr (Fr.below (T:=[]) bA) (by decide)) (aR.fr H2.2.2 (Fr.below (T:=[]) bA) (by decide))));refine wp_region_noPanic ?_;refine wp_region_held_drew (S:=fun w'=>w'.cell? ⟨sb,4,none⟩=some (.slice (some ⟨gs,0,none⟩) m cs)) (by kernel_rfl) (by rw [<-bM];exact HA.1.box.cells.2.2.2.2.1) (fun hS=>?_);rw [<-bM] at hS ⊢;clear bM bA q0 q1 q2 q3 q4 q5 qf s0 s1 s2 sf;refine gj 0 1 2 3 4 5 6 7 hS ?_;refine ry [8,9] ?_;refine cn (fun KK hK=>?_) (cn (fun KK hK=>?_) AllReadyH.nil);{
 have s2:vA.cell? ⟨gs,J*3+2,none⟩=some (.slice pQ L cQ):=aa zI _ HA.2.1;go_simp;refine bm hK (by exact HA.1.box.cells.2.2.2.2.1) fun hS=>?_;clear hK KK s2;refine aH 9 fun KK hK=>?_;go_simp;obtain ⟨v1,vB,qI,hcv,b1,bB,tB⟩:=rM vA;rw [<-qI];have xw:=ae (ag (HA.1.below b1) (ag (HA.2.1.fr (Fr.below (T:=[]) b1) (by decide)) (aR.fr HA.2.2 (Fr.below (T:=[]) b1) (by decide))));have HB:=ae (ag (HA.1.below bB) (ag (HA.2.1.fr (Fr.below (T:=[]) bB) (by decide)) (aR.fr HA.2.2 (Fr.below (T:=[]) bB) (by decide))));have IQ:=ae tB;have Mg:=ae hcv;refine bm hK (by exact xw.1.box.cells.2.2.2.2.1) fun hS=>?_;clear hK KK qI b1 bB tB hcv;refine aH 10 fun KK hK=>?_;have Fl:=aa Mg;go_simp;refine bm hK (by exact HB.1.box.cells.2.2.2.2.1) fun hS=>?_;clear hK KK Fl;refine tn 11 hS ?_;refine aH 12 fun KK hK=>?_;go_simp;obtain ⟨v2,fM,b2,z2,CY,-⟩:=aj vB #[.int .i64 (1),.slice (some ⟨vA.heap.size,0,none⟩) 2 2] 49;rw [<-fM];have HC:=ae (ag (HB.1.below b2) (ag (HB.2.1.fr (Fr.below (T:=[]) b2) (by decide)) (aR.fr HB.2.2 (Fr.below (T:=[]) b2) (by decide))));have BU:=ae (IQ.fr (Fr.below (T:=[]) b2) (by decide));have qz:=ae CY.1;refine bm hK (by exact HC.1.box.cells.2.2.2.2.1) fun hS=>?_;clear hK KK fM CY b2 z2;obtain ⟨iE,Bf,Al,Aj,Ai⟩:=info_parts Tryz.infoEv;refine aH 13 fun KK hK=>?_;refine cO (by rfl) _ _ 33 (by rfl) w0.heap.size 49 iE _ 2 32 underlying33 Bf Al Aj Ai rfl (by decide) (.slice pQ L cQ) q L (ae (aa eL)) (by rfl) (aa zJ _ HC.2.1) vB.heap.size (1,[47,97]) [.int .i64 (1),.slice (some ⟨vA.heap.size,0,none⟩) 2 2] (by rfl) ⟨_,rfl,aa BU⟩ rfl (fun j u hu=>(aa qz) j u hu) (fun u hu=>by simp at hu;rcases hu with rfl | rfl<;>rfl) (fun w' hf=>im.fr hf (by decide)) (by have:=aa Me;omega) (by omega) HC.1.dr.2.1 ?_;intro p' c' w9 qJ cT f9 iR;have iS:=(aa zJ _ HC.2.1).lt;have B9:Below w0.heap.size v2 w9:=⟨cT.os,cT.tape,cT.output,cT.size,fun b hb=>cT.block b (by have:=HC.1.dr.2.1;omega) (fun e=>by have:=(iS b e.symm).1;omega)⟩;have TN:=ae (HC.2.1.rR tF TQ qJ cT iR);have HD:=ae (ag (HC.1.fr f9 (by decide) B9) (aR.fr HC.2.2 f9 (by decide)));have s2:w9.cell? ⟨gs,J*3+2,none⟩=some (.slice pQ L cQ):=by have h1:=aa zI _ HC.2.1;obtain ⟨cur,hc⟩:=HC.2.1.row.gS gs rfl;exact (ah ((f9.2 _ _ _ _ (by decide) hc).trans hc.symm) _).trans h1
 have As:∀ o,w9.frozen? ⟨gs,o,none⟩=false:=fun o=>by obtain ⟨cur,hc⟩:=HC.2.1.row.gS gs rfl;have:=f9.2 _ _ _ _ (by decide) hc;simp [World.frozen?,this]
 refine bm hK (by exact HD.1.box.cells.2.2.2.2.1) fun hS=>?_;clear hK KK qJ cT iR iS B9;refine dQ 14 15 hS ?_;refine aH 16 fun KK hK=>?_;obtain ⟨Z,hZ⟩:=ar (w9.setCell ⟨gs,J*3+2,none⟩ (.slice p' (L+1) c'));rw [<-hZ] at TN;have fZ:Fr [35] w9 Z:=by obtain ⟨cur,hc⟩:=HC.2.1.row.gS gs rfl;rw [hZ];exact Fr.set (f9.2 _ _ _ _ (by decide) hc) (by simp)
 have HZ:=ae (ag (HD.1.fr fZ (by decide) (by rw [hZ];exact ay.setCell (p:=⟨gs,J*3+2,none⟩) (aa jM) _)) (ag TN.1 (aR.fr HD.2 fZ (by decide))));clear fZ f9;go_simp;rw [<-hZ];refine hK.out _ _ (by exact HZ.1.box.cells.2.2.2.2.1) (fun hS=>?_);clear hK KK s2 As hZ;refine wpAnyH_done (by kernel_rfl) ?_ _;refine aX ?_;clear hS;go_wp2;go_roundw
 case rel=>exact ⟨i+1,q++[(1,[47,97])],ae ⟨by rw [HI.1,List.append_assoc,<-List.replicate_succ'],by have h1:=congrArg List.length HI.1;rw [aa eL] at h1;simp at h1;omega⟩,HZ.1,⟨_,by have h1:=HZ.2.1;rw [List.set_set] at h1;exact h1⟩,HZ.2.2⟩
 case measure =>(
 have h1:=HZ.2.1;rw [List.set_set] at h1;show Gk _ gs J<Gk _ gs J;rw [lh h1 (List.getElem?_set_self (by rw [aa em];exact hJ)),lh H2.2.1 (aa tF)];show 20-(q++[_]).length<20-q.length;rw [List.length_append,aa eL];simp;omega)}
 {
 go_simp;obtain ⟨v1,vB,qI,hcv,b1,bB,tB⟩:=rM vA;rw [<-qI];have xw:=ae (ag (HA.1.below b1) (ag (HA.2.1.fr (Fr.below (T:=[]) b1) (by decide)) (aR.fr HA.2.2 (Fr.below (T:=[]) b1) (by decide))));have HB:=ae (ag (HA.1.below bB) (ag (HA.2.1.fr (Fr.below (T:=[]) bB) (by decide)) (aR.fr HA.2.2 (Fr.below (T:=[]) bB) (by decide))));have IQ:=ae tB;have Mg:=ae hcv;refine bm hK (by exact xw.1.box.cells.2.2.2.2.1) fun hS=>?_;clear hK KK qI b1 bB tB hcv;refine ry [8,10] ?_;refine cn (fun KK hK=>?_) (cn (fun KK hK=>?_) AllReadyH.nil);{
 have s2:v1.cell? ⟨gs,J*3+2,none⟩=some (.slice pQ L cQ):=aa zI _ xw.2.1;go_simp;refine bm hK (by exact xw.1.box.cells.2.2.2.2.1) fun hS=>?_;clear hK KK s2;refine aH 10 fun KK hK=>?_;have Fl:=aa Mg;go_simp;refine bm hK (by exact HB.1.box.cells.2.2.2.2.1) fun hS=>?_;clear hK KK Fl;refine tn 11 hS ?_;refine aH 12 fun KK hK=>?_;go_simp;obtain ⟨v2,fM,b2,z2,CY,-⟩:=aj vB #[.int .i64 (1),.slice (some ⟨vA.heap.size,0,none⟩) 2 2] 49;rw [<-fM];have HC:=ae (ag (HB.1.below b2) (ag (HB.2.1.fr (Fr.below (T:=[]) b2) (by decide)) (aR.fr HB.2.2 (Fr.below (T:=[]) b2) (by decide))));have BU:=ae (IQ.fr (Fr.below (T:=[]) b2) (by decide));have qz:=ae CY.1;refine bm hK (by exact HC.1.box.cells.2.2.2.2.1) fun hS=>?_;clear hK KK fM CY b2 z2;obtain ⟨iE,Bf,Al,Aj,Ai⟩:=info_parts Tryz.infoEv;refine aH 13 fun KK hK=>?_;refine cO (by rfl) _ _ 33 (by rfl) w0.heap.size 49 iE _ 2 32 underlying33 Bf Al Aj Ai rfl (by decide) (.slice pQ L cQ) q L (ae (aa eL)) (by rfl) (aa zJ _ HC.2.1) vB.heap.size (1,[47,97]) [.int .i64 (1),.slice (some ⟨vA.heap.size,0,none⟩) 2 2] (by rfl) ⟨_,rfl,aa BU⟩ rfl (fun j u hu=>(aa qz) j u hu) (fun u hu=>by simp at hu;rcases hu with rfl | rfl<;>rfl) (fun w' hf=>im.fr hf (by decide)) (by have:=aa Me;omega) (by omega) HC.1.dr.2.1 ?_;intro p' c' w9 qJ cT f9 iR;have iS:=(aa zJ _ HC.2.1).lt;have B9:Below w0.heap.size v2 w9:=⟨cT.os,cT.tape,cT.output,cT.size,fun b hb=>cT.block b (by have:=HC.1.dr.2.1;omega) (fun e=>by have:=(iS b e.symm).1;omega)⟩;have TN:=ae (HC.2.1.rR tF TQ qJ cT iR);have HD:=ae (ag (HC.1.fr f9 (by decide) B9) (aR.fr HC.2.2 f9 (by decide)));have s2:w9.cell? ⟨gs,J*3+2,none⟩=some (.slice pQ L cQ):=by have h1:=aa zI _ HC.2.1;obtain ⟨cur,hc⟩:=HC.2.1.row.gS gs rfl;exact (ah ((f9.2 _ _ _ _ (by decide) hc).trans hc.symm) _).trans h1
 have As:∀ o,w9.frozen? ⟨gs,o,none⟩=false:=fun o=>by obtain ⟨cur,hc⟩:=HC.2.1.row.gS gs rfl;have:=f9.2 _ _ _ _ (by decide) hc;simp [World.frozen?,this]
 refine bm hK (by exact HD.1.box.cells.2.2.2.2.1) fun hS=>?_;clear hK KK qJ cT iR iS B9;refine dQ 14 15 hS ?_;refine aH 16 fun KK hK=>?_;obtain ⟨Z,hZ⟩:=ar (w9.setCell ⟨gs,J*3+2,none⟩ (.slice p' (L+1) c'));rw [<-hZ] at TN;have fZ:Fr [35] w9 Z:=by obtain ⟨cur,hc⟩:=HC.2.1.row.gS gs rfl;rw [hZ];exact Fr.set (f9.2 _ _ _ _ (by decide) hc) (by simp)
 have HZ:=ae (ag (HD.1.fr fZ (by decide) (by rw [hZ];exact ay.setCell (p:=⟨gs,J*3+2,none⟩) (aa jM) _)) (ag TN.1 (aR.fr HD.2 fZ (by decide))));clear fZ f9;go_simp;rw [<-hZ];refine hK.out _ _ (by exact HZ.1.box.cells.2.2.2.2.1) (fun hS=>?_);clear hK KK s2 As hZ;refine wpAnyH_done (by kernel_rfl) ?_ _;refine aX ?_;clear hS;go_wp2;go_roundw
 case rel=>exact ⟨i+1,q++[(1,[47,97])],ae ⟨by rw [HI.1,List.append_assoc,<-List.replicate_succ'],by have h1:=congrArg List.length HI.1;rw [aa eL] at h1;simp at h1;omega⟩,HZ.1,⟨_,by have h1:=HZ.2.1;rw [List.set_set] at h1;exact h1⟩,HZ.2.2⟩
 case measure =>(
 have h1:=HZ.2.1;rw [List.set_set] at h1;show Gk _ gs J<Gk _ gs J;rw [lh h1 (List.getElem?_set_self (by rw [aa em];exact hJ)),lh H2.2.1 (aa tF)];show 20-(q++[_]).length<20-q.length;rw [List.length_append,aa eL];simp;omega)}
 {
 have Fl:=aa Mg;go_simp;refine bm hK (by exact HB.1.box.cells.2.2.2.2.1) fun hS=>?_;clear hK KK Fl;refine tn 11 hS ?_;refine ry [8,12] ?_;refine cn (fun KK hK=>?_) (cn (fun KK hK=>?_) AllReadyH.nil);{
 have s2:vB.cell? ⟨gs,J*3+2,none⟩=some (.slice pQ L cQ):=aa zI _ HB.2.1;go_simp;refine bm hK (by exact HB.1.box.cells.2.2.2.2.1) fun hS=>?_;clear hK KK s2;refine aH 12 fun KK hK=>?_;go_simp;obtain ⟨v2,fM,b2,z2,CY,-⟩:=aj vB #[.int .i64 (1),.slice (some ⟨vA.heap.size,0,none⟩) 2 2] 49;rw [<-fM];have HC:=ae (ag (HB.1.below b2) (ag (HB.2.1.fr (Fr.below (T:=[]) b2) (by decide)) (aR.fr HB.2.2 (Fr.below (T:=[]) b2) (by decide))));have BU:=ae (IQ.fr (Fr.below (T:=[]) b2) (by decide));have qz:=ae CY.1;refine bm hK (by exact HC.1.box.cells.2.2.2.2.1) fun hS=>?_;clear hK KK fM CY b2 z2;obtain ⟨iE,Bf,Al,Aj,Ai⟩:=info_parts Tryz.infoEv;refine aH 13 fun KK hK=>?_;refine cO (by rfl) _ _ 33 (by rfl) w0.heap.size 49 iE _ 2 32 underlying33 Bf Al Aj Ai rfl (by decide) (.slice pQ L cQ) q L (ae (aa eL)) (by rfl) (aa zJ _ HC.2.1) vB.heap.size (1,[47,97]) [.int .i64 (1),.slice (some ⟨vA.heap.size,0,none⟩) 2 2] (by rfl) ⟨_,rfl,aa BU⟩ rfl (fun j u hu=>(aa qz) j u hu) (fun u hu=>by simp at hu;rcases hu with rfl | rfl<;>rfl) (fun w' hf=>im.fr hf (by decide)) (by have:=aa Me;omega) (by omega) HC.1.dr.2.1 ?_;intro p' c' w9 qJ cT f9 iR;have iS:=(aa zJ _ HC.2.1).lt;have B9:Below w0.heap.size v2 w9:=⟨cT.os,cT.tape,cT.output,cT.size,fun b hb=>cT.block b (by have:=HC.1.dr.2.1;omega) (fun e=>by have:=(iS b e.symm).1;omega)⟩;have TN:=ae (HC.2.1.rR tF TQ qJ cT iR);have HD:=ae (ag (HC.1.fr f9 (by decide) B9) (aR.fr HC.2.2 f9 (by decide)));have s2:w9.cell? ⟨gs,J*3+2,none⟩=some (.slice pQ L cQ):=by have h1:=aa zI _ HC.2.1;obtain ⟨cur,hc⟩:=HC.2.1.row.gS gs rfl;exact (ah ((f9.2 _ _ _ _ (by decide) hc).trans hc.symm) _).trans h1
 have As:∀ o,w9.frozen? ⟨gs,o,none⟩=false:=fun o=>by obtain ⟨cur,hc⟩:=HC.2.1.row.gS gs rfl;have:=f9.2 _ _ _ _ (by decide) hc;simp [World.frozen?,this]
 refine bm hK (by exact HD.1.box.cells.2.2.2.2.1) fun hS=>?_;clear hK KK qJ cT iR iS B9;refine dQ 14 15 hS ?_;refine aH 16 fun KK hK=>?_;obtain ⟨Z,hZ⟩:=ar (w9.setCell ⟨gs,J*3+2,none⟩ (.slice p' (L+1) c'));rw [<-hZ] at TN;have fZ:Fr [35] w9 Z:=by obtain ⟨cur,hc⟩:=HC.2.1.row.gS gs rfl;rw [hZ];exact Fr.set (f9.2 _ _ _ _ (by decide) hc) (by simp)
 have HZ:=ae (ag (HD.1.fr fZ (by decide) (by rw [hZ];exact ay.setCell (p:=⟨gs,J*3+2,none⟩) (aa jM) _)) (ag TN.1 (aR.fr HD.2 fZ (by decide))));clear fZ f9;go_simp;rw [<-hZ];refine hK.out _ _ (by exact HZ.1.box.cells.2.2.2.2.1) (fun hS=>?_);clear hK KK s2 As hZ;refine wpAnyH_done (by kernel_rfl) ?_ _;refine aX ?_;clear hS;go_wp2;go_roundw
 case rel=>exact ⟨i+1,q++[(1,[47,97])],ae ⟨by rw [HI.1,List.append_assoc,<-List.replicate_succ'],by have h1:=congrArg List.length HI.1;rw [aa eL] at h1;simp at h1;omega⟩,HZ.1,⟨_,by have h1:=HZ.2.1;rw [List.set_set] at h1;exact h1⟩,HZ.2.2⟩
 case measure =>(
 have h1:=HZ.2.1;rw [List.set_set] at h1;show Gk _ gs J<Gk _ gs J;rw [lh h1 (List.getElem?_set_self (by rw [aa em];exact hJ)),lh H2.2.1 (aa tF)];show 20-(q++[_]).length<20-q.length;rw [List.length_append,aa eL];simp;omega)}
 {
 go_simp;obtain ⟨v2,fM,b2,z2,CY,-⟩:=aj vB #[.int .i64 (1),.slice (some ⟨vA.heap.size,0,none⟩) 2 2] 49;rw [<-fM];have HC:=ae (ag (HB.1.below b2) (ag (HB.2.1.fr (Fr.below (T:=[]) b2) (by decide)) (aR.fr HB.2.2 (Fr.below (T:=[]) b2) (by decide))));have BU:=ae (IQ.fr (Fr.below (T:=[]) b2) (by decide));have qz:=ae CY.1;refine bm hK (by exact HC.1.box.cells.2.2.2.2.1) fun hS=>?_;clear hK KK fM CY b2 z2;refine aH 8 fun KK hK=>?_;have s2:v2.cell? ⟨gs,J*3+2,none⟩=some (.slice pQ L cQ):=aa zI _ HC.2.1;go_simp;refine bm hK (by exact HC.1.box.cells.2.2.2.2.1) fun hS=>?_;clear hK KK s2;obtain ⟨iE,Bf,Al,Aj,Ai⟩:=info_parts Tryz.infoEv;refine aH 13 fun KK hK=>?_;refine cO (by rfl) _ _ 33 (by rfl) w0.heap.size 49 iE _ 2 32 underlying33 Bf Al Aj Ai rfl (by decide) (.slice pQ L cQ) q L (ae (aa eL)) (by rfl) (aa zJ _ HC.2.1) vB.heap.size (1,[47,97]) [.int .i64 (1),.slice (some ⟨vA.heap.size,0,none⟩) 2 2] (by rfl) ⟨_,rfl,aa BU⟩ rfl (fun j u hu=>(aa qz) j u hu) (fun u hu=>by simp at hu;rcases hu with rfl | rfl<;>rfl) (fun w' hf=>im.fr hf (by decide)) (by have:=aa Me;omega) (by omega) HC.1.dr.2.1 ?_;intro p' c' w9 qJ cT f9 iR;have iS:=(aa zJ _ HC.2.1).lt;have B9:Below w0.heap.size v2 w9:=⟨cT.os,cT.tape,cT.output,cT.size,fun b hb=>cT.block b (by have:=HC.1.dr.2.1;omega) (fun e=>by have:=(iS b e.symm).1;omega)⟩;have TN:=ae (HC.2.1.rR tF TQ qJ cT iR);have HD:=ae (ag (HC.1.fr f9 (by decide) B9) (aR.fr HC.2.2 f9 (by decide)));have s2:w9.cell? ⟨gs,J*3+2,none⟩=some (.slice pQ L cQ):=by have h1:=aa zI _ HC.2.1;obtain ⟨cur,hc⟩:=HC.2.1.row.gS gs rfl;exact (ah ((f9.2 _ _ _ _ (by decide) hc).trans hc.symm) _).trans h1
 have As:∀ o,w9.frozen? ⟨gs,o,none⟩=false:=fun o=>by obtain ⟨cur,hc⟩:=HC.2.1.row.gS gs rfl;have:=f9.2 _ _ _ _ (by decide) hc;simp [World.frozen?,this]
 refine bm hK (by exact HD.1.box.cells.2.2.2.2.1) fun hS=>?_;clear hK KK qJ cT iR iS B9;refine dQ 14 15 hS ?_;refine aH 16 fun KK hK=>?_;obtain ⟨Z,hZ⟩:=ar (w9.setCell ⟨gs,J*3+2,none⟩ (.slice p' (L+1) c'));rw [<-hZ] at TN;have fZ:Fr [35] w9 Z:=by obtain ⟨cur,hc⟩:=HC.2.1.row.gS gs rfl;rw [hZ];exact Fr.set (f9.2 _ _ _ _ (by decide) hc) (by simp)
 have HZ:=ae (ag (HD.1.fr fZ (by decide) (by rw [hZ];exact ay.setCell (p:=⟨gs,J*3+2,none⟩) (aa jM) _)) (ag TN.1 (aR.fr HD.2 fZ (by decide))));clear fZ f9;go_simp;rw [<-hZ];refine hK.out _ _ (by exact HZ.1.box.cells.2.2.2.2.1) (fun hS=>?_);clear hK KK s2 As hZ;refine wpAnyH_done (by kernel_rfl) ?_ _;refine aX ?_;clear hS;go_wp2;go_roundw
 case rel=>exact ⟨i+1,q++[(1,[47,97])],ae ⟨by rw [HI.1,List.append_assoc,<-List.replicate_succ'],by have h1:=congrArg List.length HI.1;rw [aa eL] at h1;simp at h1;omega⟩,HZ.1,⟨_,by have h1:=HZ.2.1;rw [List.set_set] at h1;exact h1⟩,HZ.2.2⟩
 case measure =>(
 have h1:=HZ.2.1;rw [List.set_set] at h1;show Gk _ gs J<Gk _ gs J;rw [lh h1 (List.getElem?_set_self (by rw [aa em];exact hJ)),lh H2.2.1 (aa tF)];show 20-(q++[_]).length<20-q.length;rw [List.length_append,aa eL];simp;omega)}}}}
 {
 have bt:¬ (L:Int)<7+v % 3:=by omega
 have eq:Hid (q=s.2.2++List.replicate (N9-s.2.2.length) (1,[47,97])):=by have h1:=congrArg List.length HI.1;rw [aa eL] at h1;simp at h1;have h2:=HI.2;show _=_;rw [HI.1,show i=N9-s.2.2.length by omega]
 go_wp2;go_meet
 case rel=>exact jS.sp (D:=(⟨D.e,D.g,D.x,D.t,D.ss.set J (s.1,s.2.1,s.2.2++List.replicate (N9-s.2.2.length) (1,[47,97])),D.ns⟩:SD)) (Qs:=VX) H2.1 (by show de _ _ _ (D.ss.set J (s.1,s.2.1,s.2.2++List.replicate (N9-s.2.2.length) (1,[47,97]))) _;rw [<-aa eq];exact H2.2.1) H2.2.2})}
 {exact absurd cM.1 (by decide)};{exact absurd cM.1 (by decide)};{exact absurd cM.1 (by decide)};{exact absurd cM.1 (by decide)};{exact absurd cM.1 (by decide)};{exact absurd cM.1 (by decide)};{exact absurd cM.1 (by decide)};{exact absurd cM.1 (by decide)};{exact absurd cM.1 (by decide)};{exact absurd cM.1 (by decide)};{exact absurd cM.1 (by decide)};{exact absurd cM.1 (by decide)};{exact absurd cM.1 (by decide)};{exact absurd cM.1 (by decide)}}})
theorem JN (cd:List Int) (t:Nat) (hb:bQ cd) (hl:cd.length<=500) (D:SD) (hv:VD D) (he:0<=D.e) (ib:∀ k:Nat,cd.getD t 0 % 22=k->k∈[9,17]/\¬ (D.ns.length=0\/D.ss.length=0)):∃ D',BD D'/\NJ cd t D D':=by
 have r0:=aV cd hb t;have r1:=aV cd hb (t+1);obtain ⟨x,ex⟩:∃ x,Hid (cd.getD t 0=x):=⟨_,ae rfl⟩;obtain ⟨v,ev⟩:∃ v,Hid (cd.getD (t+1) 0=v):=⟨_,ae rfl⟩;rw [aa ex] at r0;rw [aa ev] at r1;obtain ⟨k,ek,hk⟩:∃ k:Nat,x % 22=k/\k<22:=⟨(x % 22).toNat,by omega,by omega⟩;have cM:=ae (ib k (by rw [aa ex];exact ek));clear ib;obtain ⟨P,bP,lP,dP⟩:=dW cd (t+1+1) hb hl;obtain ⟨n,en⟩:∃ n,Hid (D.ns.length=n):=⟨_,ae rfl⟩;obtain ⟨m,em⟩:∃ m,Hid (D.ss.length=m):=⟨_,ae rfl⟩;have zR:n<=200:=by rw [<-aa en];exact hv.nl
 have Re:m<=50:=by rw [<-aa em];exact hv.sl
 obtain ⟨I,eI,Hu⟩:∃ I:Nat,Hid ((if 0<n then v % n else 0)=(I:Int))/\Hid (0<n->I<n):=by by_cases h:0<n;{have h1:=Int.emod_nonneg v (show (n:Int)≠0 by omega);have h2:=Int.emod_lt_of_pos v (show (0:Int)<n by omega);exact ⟨(v % n).toNat,by show _=_;rw [if_pos h];omega,fun _=>by omega⟩};{exact ⟨0,by show _=_;rw [if_neg h];rfl,fun h'=>absurd h' h⟩}
 obtain ⟨J,eJ,Ht⟩:∃ J:Nat,Hid ((if 0<m then v % m else 0)=(J:Int))/\Hid (0<m->J<m):=by by_cases h:0<m;{have h1:=Int.emod_nonneg v (show (m:Int)≠0 by omega);have h2:=Int.emod_lt_of_pos v (show (0:Int)<m by omega);exact ⟨(v % m).toNat,by show _=_;rw [if_pos h];omega,fun _=>by omega⟩};{exact ⟨0,by show _=_;rw [if_neg h];rfl,fun h'=>absurd h' h⟩}
 obtain ⟨D',mc⟩:∃ D',Hid (aO k v I J P D=D'):=⟨_,ae rfl⟩;refine ⟨D',by rw [<-aa mc];exact jE hv he k r1 I J bP lP,?_⟩;intro g p c w0 w ps cs qs ds Qs h iu hd hS hN;have HP:=ae (ag bP (ag lP dP));have HV:=ae (ag hv he);have Fv:=hd.2.1;obtain ⟨W0,cA,b0,z0,C0⟩:=bg w (.int .u64 D.e) (.int .u64 D.g) (.int .u64 D.x) (.int .i64 D.t) (.slice ps D.ss.length cs) (.slice qs D.ns.length ds);obtain ⟨W1,fP,b1,z1,C1⟩:=bg W0 (.int .u64 0) (.int .u64 0) (.int .u64 0) (.int .i64 0) (.slice none 0 0) (.slice none 0 0);rw [z0] at C1 z1;have bW:=ai b0 b1;have H0:Hid (RA w0 W1 w.heap.size (w.heap.size+1) g p cd c t [.int .u64 D.e,.int .u64 D.g,.int .u64 D.x,.int .i64 D.t,.slice ps m cs,.slice qs n ds]/\de w0.heap.size W1 (.slice ps m cs) D.ss Qs/\jh w0.heap.size W1 (.slice qs n ds) D.ns):=by rw [<-aa en,<-aa em];exact ⟨⟨C0.below b1,C1,h.low bW h.lt,hd.dr (Dr.below bW h.lt),by omega,⟨by omega,by omega⟩,iu⟩,hS.fr (Fr.below (T:=[]) bW) (by decide),aR.fr hN (Fr.below (T:=[]) bW) (by decide)⟩
 obtain ⟨sb,il⟩:=aN w.heap.size;obtain ⟨rb,sV⟩:=aN (w.heap.size+1);rw [sV,il] at H0;have ko:=ae (ag il sV);clear b0 b1 bW z0 z1 C0 C1 hS hN hd h bP lP dP hv he Fv il sV;go_enter func84,ntmps84;go_wp2_with fail;rw [<-cA,<-fP,ko.2,ko.1];rw [aa en,aa em];clear cA fP W0;refine (cY g p cd c t W1 H0.1.fR hb hl).mono ?_;rintro r w1 ⟨rfl,h1,d1⟩;rw [aa ex];have H1:=ae (ag (H0.1.draw h1 d1) (ag (H0.2.1.fr d1.1 (by decide)) (aR.fr H0.2.2 d1.1 (by decide))));clear h1 d1 H0 W1;go_wp2_with fail;refine (cY g p cd c (t+1) w1 H1.1.fR hb hl).mono ?_;rintro r w2 ⟨rfl,h2,d2⟩;rw [aa ev];have H2:=ae (ag (H1.1.draw h2 d2) (ag (H1.2.1.fr d2.1 (by decide)) (aR.fr H1.2.2 d2.1 (by decide))));clear h2 d2 H1 w1 ko;obtain ⟨q0,q1,q2,q3,q4,q5,qf⟩:=H2.1.box.cells
 go_upto_if 17 with fail
 go_cut [7] (fun iv wc=>iv=.int .i64 I/\wc=w2)
 case first =>(
 as_aux_lemma=>
 have e1:=aa eI;by_cases h0:0<n;{
 rw [if_pos h0] at e1;have C8:(0:Int)<(n:Int):=by omega
 have Hx:¬ (n:Int)=0:=by omega
 have E1:=ae e1;clear e1;go_wp2;go_meet
 case rel=>exact ⟨by rw [<-aa E1],rfl⟩}
 {
 rw [if_neg h0] at e1;have n0:n=0:=by omega
 subst n0;have E1:=ae e1;clear e1;go_wp2;go_meet
 case rel=>exact ⟨by rw [<-aa E1],rfl⟩})
 case rest=>
 obtain ⟨rfl,ky⟩:=hcut;rw [ky];clear ky wc
 go_upto_if 26 with fail
 go_cut [8] (fun iv wc=>iv=.int .i64 J/\wc=w2)
 case first =>(
 as_aux_lemma=>
 have e1:=aa eJ;by_cases h0:0<m;{
 rw [if_pos h0] at e1;have C8:(0:Int)<(m:Int):=by omega
 have Hx:¬ (m:Int)=0:=by omega
 have E1:=ae e1;clear e1;go_wp2;go_meet
 case rel=>exact ⟨by rw [<-aa E1],rfl⟩}
 {
 rw [if_neg h0] at e1;have n0:m=0:=by omega
 subst n0;have E1:=ae e1;clear e1;go_wp2;go_meet
 case rel=>exact ⟨by rw [<-aa E1],rfl⟩})
 case rest=>
 obtain ⟨rfl,ky⟩:=hcut;rw [ky];clear ky wc
 go_upto_if 33 with fail
 go_cut [] (fun wc=>Hid (jS w0 wc sb rb g p cd c D'))
 case rest =>(
 as_aux_lemma=>
 obtain ⟨t9,p9,c9,q9,d9,R9,S9⟩:=aa hcut;clear q0 q1 q2 q3 q4 q5 qf H2;obtain ⟨Z,hZ⟩:=ar (aP wc rb (.int .u64 D'.e) (.int .u64 D'.g) (.int .u64 D'.x) (.int .i64 D'.t) (.slice p9 D'.ss.length c9) (.slice q9 D'.ns.length d9));have HZ:=ae (R9.fin hZ);have HS:=ae S9;obtain ⟨q0,q1,q2,q3,q4,q5,qf⟩:=R9.box.cells;obtain ⟨u0,u1,u2,u3,u4,u5,uf⟩:=R9.res.cells;clear R9 S9 hcut;unfold aP at hZ;go_wp2;rw [<-hZ];clear hZ q0 q1 q2 q3 q4 q5 qf u0 u1 u2 u3 u4 u5 uf;obtain ⟨s0,s1,s2,s3,s4,s5,sf⟩:=HZ.1.cells;refine bodyPost_ret (v:=cK D'.e D'.g D'.x D'.t (.slice p9 D'.ss.length c9) (.slice q9 D'.ns.length d9)) (by simp [results,results84,go_sem,s0,s1,s2,s3,s4,s5]) rfl ?_;exact ⟨_,_,_,_,rfl,fun w3 hk=>aa HS w3 (Kx.pre HZ.2.1 hk),HZ.2.2.2⟩)
 case first =>(
 have c9:k<22:=hk;by_cases Hb:k<4;{
 have:k=0\/k=1\/k=2\/k=3:=by omega
 rcases this with rfl | rfl | rfl | rfl;{exact absurd cM.1 (by decide)};{exact absurd cM.1 (by decide)};{exact absurd cM.1 (by decide)};{exact absurd cM.1 (by decide)}};{
 by_cases bq:n=0\/m=0;{
 have dK:D.ns.length=0\/D.ss.length=0:=by rw [aa en,aa em];exact bq
 have c0:k≠0:=by omega
 have c1:k≠1:=by omega
 have c2:k≠2:=by omega
 have c3:k≠3:=by omega
 exact absurd dK cM.2};{
 have dK:¬ (D.ns.length=0\/D.ss.length=0):=by rw [aa en,aa em];exact bq
 have hI:I<n:=aa Hu (by omega);have hJ:J<m:=aa Ht (by omega);have U6:(I:Int)<(n:Int):=by omega
 have U4:(J:Int)<(m:Int):=by omega
 have Fh:((n:Int)==0)=false:=by simp;omega
 have ur:((m:Int)==0)=false:=by simp;omega
 obtain ⟨nd,aK⟩:∃ nd,D.ns[I]?=some nd:=⟨_,aE (by rw [aa en];exact hI)⟩;obtain ⟨s,hs⟩:∃ s,D.ss[J]?=some s:=⟨_,aE (by rw [aa em];exact hJ)⟩;obtain ⟨gn,P0,V0,Ww,U0,rfl,-,-,n0,n1,n2,n3,n4,n5,n6,n7,tP,tV,tH,tU,nf⟩:=aR.at H2.2.2 aK;obtain ⟨gs,Q0,rfl,-,-,hQ,s0,s1,s2,sQ,sf⟩:=de.at H2.2.1 hs;have jM:Hid (w0.heap.size<=gs):=(H2.2.1.row.lt gs rfl).1;have pM:Hid (w0.heap.size<=gn):=(H2.2.2.lt gn rfl).1;have TT:=ae (ag tP (ag tV (ag tH (ag tU (ag hQ sQ)))));have kM:=ae aK;have xv:=ae hs;clear tP tV tH tU hQ sQ;have:k=4\/k=5\/k=6\/k=7\/k=8\/k=9\/k=10\/k=11\/k=12\/k=13\/k=14\/k=15\/k=16\/k=17\/k=18\/k=19\/k=20\/k=21:=by omega
 clear bq c9 hk Hb;rcases this with rfl | rfl | rfl | rfl | rfl | rfl | rfl | rfl | rfl | rfl | rfl | rfl | rfl | rfl | rfl | rfl | rfl | rfl;{exact absurd cM.1 (by decide)};{exact absurd cM.1 (by decide)};{exact absurd cM.1 (by decide)};{exact absurd cM.1 (by decide)};{exact absurd cM.1 (by decide)};{
 as_aux_lemma=>
  have e:=aa mc;rw [show aO 9 v I J P D=(⟨D.e,D.g,D.x,D.t,D.ss,D.ns.set I { nd with holders:=jA nd.holders (v % 5) }⟩:SD) by unfold aO;rw [if_neg (by decide),if_neg (by decide),if_neg (by decide),if_neg (by decide),if_neg dK,if_neg (by decide),if_neg (by decide),if_neg (by decide),if_neg (by decide),if_neg (by decide),if_pos rfl];unfold qc;rw [aK]] at e;subst e;go_wp2_with fail;obtain ⟨vA,bM⟩:=ar w2.drew;have bA:Below w2.heap.size w2 vA:=by rw [bM];exact ay.drew
  have HA:=ae (ag (H2.1.below bA) (ag (H2.2.1.fr (Fr.below (T:=[]) bA) (by decide)) (aR.fr H2.2.2 (Fr.below (T:=[]) bA) (by decide))));refine wp_region_noPanic ?_;refine wp_region_held_drew (S:=fun w'=>w'.cell? ⟨sb,5,none⟩=some (.slice (some ⟨gn,0,none⟩) n ds)) (by kernel_rfl) (by rw [<-bM];exact HA.1.box.cells.2.2.2.2.2.1) (fun hS=>?_);rw [<-bM] at hS ⊢;clear bM bA q0 q1 q2 q3 q4 q5 qf s0 s1 s2 sf n0 n1 n2 n3 n4 n5 n6 n7 nf;refine gj 0 1 2 3 4 5 6 7 hS ?_;refine dQ 9 10 hS ?_;refine tn 11 hS ?_;refine aH 8 fun KK hK=>?_;obtain ⟨Da,V8,VT,H1,U0',eg,-,-,n0,n1,n2,n3,n4,n5,n6,n7,-,-,tH,-,nf⟩:=aR.at HA.2.2 kM;simp only [Option.some.injEq,Addr.mk.injEq,and_true] at eg;subst eg;obtain ⟨pH,cH,rfl⟩:=tH.ew;go_simp;refine bm hK (by exact HA.1.box.cells.2.2.2.2.2.1) fun hS=>?_;clear hK KK n0 n1 n2 n3 n4 n5 n6 n7 nf;refine aH 12 fun KK hK=>?_;have MA:IntKind.u64.wrap (v.tmod 5)=v % 5:=by rw [Int.tmod_eq_emod_of_nonneg r1.1];exact IntWalk.u64_in _ (by omega)
  have MG:=HV.1.ids (HV.1.n2 nd (aF (aa kM))).h1 (HV.1.n2 nd (aF (aa kM))).h2;have HF:Calls prog 136 #[.slice pH nd.holders.length cH,.int .u64 (IntKind.u64.wrap (v.tmod 5))] vA fun r w'=>∃ p' c',r=.returned (.slice p' (jA nd.holders (v % 5)).length c')/\gi vA.heap.size w' (.slice p' (jA nd.holders (v % 5)).length c') (jA nd.holders (v % 5))/\Below vA.heap.size vA w':=by rw [MA];exact nM pH cH _ nd.holders (ae rfl) _ vA tH.1 (by omega)
  refine ld HF ?_;clear HF tH;rintro r v9 ⟨p9,c9,rfl,o9,b9⟩;refine ⟨_,rfl,?_⟩;have HB:=ae (ag (HA.1.below b9) (ag (HA.2.1.fr (Fr.below (T:=[]) b9) (by decide)) (aR.fr HA.2.2 (Fr.below (T:=[]) b9) (by decide))));have T9:=ae (o9.tu (B':=w0.heap.size) HA.1.dr.2.1);clear o9 b9;refine bm hK (by exact HB.1.box.cells.2.2.2.2.2.1) fun hS=>?_;clear hK KK;refine dQ 13 14 hS ?_;refine aH 15 fun KK hK=>?_;obtain ⟨Da,V8,VT,Wv,U0',eg,-,-,n0,n1,n2,n3,n4,n5,n6,n7,-,-,-,-,nf⟩:=aR.at HB.2.2 kM;simp only [Option.some.injEq,Addr.mk.injEq,and_true] at eg;subst eg;obtain ⟨N3,f3⟩:=aR.put HB.2.2 kM (j:=4) (by omega) (.slice p9 (jA nd.holders (v % 5)).length c9) { nd with holders:=jA nd.holders (v % 5) } (fun w' A1 A2 A3 A4 h1 h2 h3 h4 hf=>⟨A1,A2,.slice p9 (jA nd.holders (v % 5)).length c9,A4,rfl,h1,h2,T9.fr hf (by decide),h4⟩);obtain ⟨Z,hZ⟩:=ar (v9.setCell ⟨gn,I*8+4,none⟩ (.slice p9 (jA nd.holders (v % 5)).length c9));rw [<-hZ] at N3 f3;have HZ:=ae (ag (HB.1.fr f3 (by decide) (by rw [hZ];exact ay.setCell (p:=⟨gn,I*8+4,none⟩) (aa pM) _)) (ag (HB.2.1.fr f3 (by decide)) N3));clear N3 f3;go_simp;rw [<-hZ];refine hK.out _ _ (by exact HZ.1.box.cells.2.2.2.2.2.1) (fun hS=>?_);clear hK KK n0 n1 n2 n3 n4 n5 n6 n7 nf hZ;refine wpAnyH_done (by kernel_rfl) ?_ _;refine aX ?_;clear hS;go_wp2;go_meet
  case rel=>exact jS.sp (D:=(⟨D.e,D.g,D.x,D.t,D.ss,D.ns.set I { nd with holders:=jA nd.holders (v % 5) }⟩:SD)) HZ.1 HZ.2.1 HZ.2.2}
 {exact absurd cM.1 (by decide)};{exact absurd cM.1 (by decide)};{exact absurd cM.1 (by decide)};{exact absurd cM.1 (by decide)};{exact absurd cM.1 (by decide)};{exact absurd cM.1 (by decide)};{exact absurd cM.1 (by decide)};{
 as_aux_lemma=>
  have e:=aa mc;rw [show aO 17 v I J P D=(⟨D.e,D.g,D.x,D.t,D.ss,D.ns.set I { nd with path:=P }⟩:SD) by unfold aO;rw [if_neg (by decide),if_neg (by decide),if_neg (by decide),if_neg (by decide),if_neg dK,if_neg (by decide),if_neg (by decide),if_neg (by decide),if_neg (by decide),if_neg (by decide),if_neg (by decide),if_neg (by decide),if_neg (by decide),if_neg (by decide),if_neg (by decide),if_neg (by decide),if_neg (by decide),if_neg (by decide),if_pos rfl];unfold qc;rw [aK]] at e;subst e;go_wp2_with fail;obtain ⟨vA,bM⟩:=ar w2.drew;have bA:Below w2.heap.size w2 vA:=by rw [bM];exact ay.drew
  have HA:=ae (ag (H2.1.below bA) (ag (H2.2.1.fr (Fr.below (T:=[]) bA) (by decide)) (aR.fr H2.2.2 (Fr.below (T:=[]) bA) (by decide))));refine wp_region_noPanic ?_;refine wp_region_held_drew (S:=fun w'=>w'.cell? ⟨sb,5,none⟩=some (.slice (some ⟨gn,0,none⟩) n ds)) (by kernel_rfl) (by rw [<-bM];exact HA.1.box.cells.2.2.2.2.2.1) (fun hS=>?_);rw [<-bM] at hS ⊢;clear bM bA q0 q1 q2 q3 q4 q5 qf s0 s1 s2 sf n0 n1 n2 n3 n4 n5 n6 n7 nf;refine gp 0 1 2 3 hS ?_;refine aH 4 fun KK hK=>?_;refine fw (HP.2.2 g p c vA HA.1.fR) ?_;rintro r v9 ⟨p9,c9,rfl,o9,r9,d9⟩;refine ⟨_,rfl,?_⟩;have HB:=ae (ag (HA.1.draw r9 d9) (ag (HA.2.1.fr d9.1 (by decide)) (aR.fr HA.2.2 d9.1 (by decide))));have T9:=ae o9.tb;clear o9 r9 d9;refine bm hK (by exact HB.1.box.cells.2.2.2.2.2.1) fun hS=>?_;clear hK KK;refine dQ 5 6 hS ?_;refine aH 7 fun KK hK=>?_;obtain ⟨Da,V8,VT,Wv,U0',eg,-,-,n0,n1,n2,n3,n4,n5,n6,n7,-,-,-,-,nf⟩:=aR.at HB.2.2 kM;simp only [Option.some.injEq,Addr.mk.injEq,and_true] at eg;subst eg;obtain ⟨N3,f3⟩:=aR.put HB.2.2 kM (j:=0) (by omega) (.slice p9 P.length c9) { nd with path:=P } (fun w' A1 A2 A3 A4 h1 h2 h3 h4 hf=>⟨.slice p9 P.length c9,A2,A3,A4,rfl,T9.fr hf (by decide),h2,h3,h4⟩);obtain ⟨Z,hZ⟩:=ar (v9.setCell ⟨gn,I*8,none⟩ (.slice p9 P.length c9));rw [Nat.add_zero] at N3 f3;rw [<-hZ] at N3 f3;have HZ:=ae (ag (HB.1.fr f3 (by decide) (by rw [hZ];exact ay.setCell (p:=⟨gn,I*8,none⟩) (aa pM) _)) (ag (HB.2.1.fr f3 (by decide)) N3));clear N3 f3;go_simp;rw [<-hZ];refine hK.out _ _ (by exact HZ.1.box.cells.2.2.2.2.2.1) (fun hS=>?_);clear hK KK n0 n1 n2 n3 n4 n5 n6 n7 nf hZ;refine wpAnyH_done (by kernel_rfl) ?_ _;refine aX ?_;clear hS;go_wp2;go_meet
  case rel=>exact jS.sp (D:=(⟨D.e,D.g,D.x,D.t,D.ss,D.ns.set I { nd with path:=P }⟩:SD)) HZ.1 HZ.2.1 HZ.2.2}
 {exact absurd cM.1 (by decide)};{exact absurd cM.1 (by decide)};{exact absurd cM.1 (by decide)};{exact absurd cM.1 (by decide)}}})
end Go.Proofs.YtcfcafeciggjeaaGreatDoor
