import Derived.Test.YtcfcafeciggjeaaGreatDoorK46
namespace Go.Proofs.YtcfcafeciggjeaaGreatDoor
set_option maxHeartbeats 25600000
set_option linter.unusedVariables false
set_option linter.unusedSimpArgs false
set_option maxRecDepth 100000
open Go.ChangeShapes Go.WideShapes Go.ChangeAt Go.RowKit Go.Deep Go.Proofs.Tryz
theorem Cj (cd:List Int) (t:Nat) (hb:bQ cd) (hl:cd.length<=500) (D:SD) (hv:VD D) (he:0<=D.e) (ib:∀ k:Nat,cd.getD t 0 % 22=k->k∈[0,1,2,3,4,5,8,11,12,13,14,18,19,20]\/(D.ns.length=0\/D.ss.length=0)):∃ D',BD D'/\NJ cd t D D':=by
 have r0:=aV cd hb t;have r1:=aV cd hb (t+1);obtain ⟨x,ex⟩:∃ x,Hid (cd.getD t 0=x):=⟨_,ae rfl⟩;obtain ⟨v,ev⟩:∃ v,Hid (cd.getD (t+1) 0=v):=⟨_,ae rfl⟩;rw [aa ex] at r0;rw [aa ev] at r1;obtain ⟨k,ek,hk⟩:∃ k:Nat,x % 22=k/\k<22:=⟨(x % 22).toNat,by omega,by omega⟩;have cM:=ae (ib k (by rw [aa ex];exact ek));clear ib;obtain ⟨P,bP,lP,dP⟩:=dW cd (t+1+1) hb hl;obtain ⟨n,en⟩:∃ n,Hid (D.ns.length=n):=⟨_,ae rfl⟩;obtain ⟨m,em⟩:∃ m,Hid (D.ss.length=m):=⟨_,ae rfl⟩;have zR:n<=200:=by rw [<-aa en];exact hv.nl
 have Re:m<=50:=by rw [<-aa em];exact hv.sl
 obtain ⟨I,eI,Hu⟩:∃ I:Nat,Hid ((if 0<n then v % n else 0)=(I:Int))/\Hid (0<n->I<n):=by by_cases h:0<n;{have h1:=Int.emod_nonneg v (show (n:Int)≠0 by omega);have h2:=Int.emod_lt_of_pos v (show (0:Int)<n by omega);exact ⟨(v % n).toNat,by show _=_;rw [if_pos h];omega,fun _=>by omega⟩};{exact ⟨0,by show _=_;rw [if_neg h];rfl,fun h'=>absurd h' h⟩}
 obtain ⟨J,eJ,Ht⟩:∃ J:Nat,Hid ((if 0<m then v % m else 0)=(J:Int))/\Hid (0<m->J<m):=by by_cases h:0<m;{have h1:=Int.emod_nonneg v (show (m:Int)≠0 by omega);have h2:=Int.emod_lt_of_pos v (show (0:Int)<m by omega);exact ⟨(v % m).toNat,by show _=_;rw [if_pos h];omega,fun _=>by omega⟩};{exact ⟨0,by show _=_;rw [if_neg h];rfl,fun h'=>absurd h' h⟩}
 obtain ⟨D',mc⟩:∃ D',Hid (aO k v I J P D=D'):=⟨_,ae rfl⟩;refine ⟨D',by rw [<-aa mc];exact jE hv he k r1 I J bP lP,?_⟩;intro g p c w0 w ps cs qs ds Qs h iu hd hS hN;have HP:=ae (ag bP (ag lP dP));have HV:=ae (ag hv he);have Fv:=hd.2.1;obtain ⟨W0,cA,b0,z0,C0⟩:=bg w (.int .u64 D.e) (.int .u64 D.g) (.int .u64 D.x) (.int .i64 D.t) (.slice ps D.ss.length cs) (.slice qs D.ns.length ds);obtain ⟨W1,fP,b1,z1,C1⟩:=bg W0 (.int .u64 0) (.int .u64 0) (.int .u64 0) (.int .i64 0) (.slice none 0 0) (.slice none 0 0);rw [z0] at C1 z1;have bW:=ai b0 b1;have H0:Hid (RA w0 W1 w.heap.size (w.heap.size+1) g p cd c t [.int .u64 D.e,.int .u64 D.g,.int .u64 D.x,.int .i64 D.t,.slice ps m cs,.slice qs n ds]/\de w0.heap.size W1 (.slice ps m cs) D.ss Qs/\jh w0.heap.size W1 (.slice qs n ds) D.ns):=by rw [<-aa en,<-aa em];exact ⟨⟨C0.below b1,C1,h.low bW h.lt,hd.dr (Dr.below bW h.lt),by omega,⟨by omega,by omega⟩,iu⟩,hS.fr (Fr.below (T:=[]) bW) (by decide),aR.fr hN (Fr.below (T:=[]) bW) (by decide)⟩
 obtain ⟨sb,il⟩:=aN w.heap.size;obtain ⟨rb,sV⟩:=aN (w.heap.size+1);rw [sV,il] at H0;have ko:=ae (ag il sV);clear b0 b1 bW z0 z1 C0 C1 hS hN hd h bP lP dP hv he Fv il sV;go_enter func84,ntmps84;go_wp2_with fail;rw [<-cA,<-fP,ko.2,ko.1];rw [aa en,aa em];clear cA fP W0;refine (cY g p cd c t W1 H0.1.fR hb hl).mono ?_;rintro r w1 ⟨rfl,h1,d1⟩;rw [aa ex];have H1:=ae (ag (H0.1.draw h1 d1) (ag (H0.2.1.fr d1.1 (by decide)) (aR.fr H0.2.2 d1.1 (by decide))));clear h1 d1 H0 W1;go_wp2_with fail;refine (cY g p cd c (t+1) w1 H1.1.fR hb hl).mono ?_;rintro r w2 ⟨rfl,h2,d2⟩;rw [aa ev];have H2:=ae (ag (H1.1.draw h2 d2) (ag (H1.2.1.fr d2.1 (by decide)) (aR.fr H1.2.2 d2.1 (by decide))));clear h2 d2 H1 w1 ko;obtain ⟨q0,q1,q2,q3,q4,q5,qf⟩:=H2.1.box.cells
 go_upto_if 17 with fail
 go_cut [7] (fun iv wc=>iv=.int .i64 I/\wc=w2)
 case first =>(
 as_aux_lemma=>
 have e1:=aa eI;by_cases h0:0<n;{
 rw [if_pos h0] at e1;have C8:(0:Int)<(n:Int):=by omega
 have Hx:¬ (n:Int)=0:=by omega
 have E1:=ae e1;clear e1;go_wp2;go_meet
 case rel=>exact ⟨by rw [<-aa E1],rfl⟩}
 {
 rw [if_neg h0] at e1;have n0:n=0:=by omega
 subst n0;have E1:=ae e1;clear e1;go_wp2;go_meet
 case rel=>exact ⟨by rw [<-aa E1],rfl⟩})
 case rest=>
 obtain ⟨rfl,ky⟩:=hcut;rw [ky];clear ky wc
 go_upto_if 26 with fail
 go_cut [8] (fun iv wc=>iv=.int .i64 J/\wc=w2)
 case first =>(
 as_aux_lemma=>
 have e1:=aa eJ;by_cases h0:0<m;{
 rw [if_pos h0] at e1;have C8:(0:Int)<(m:Int):=by omega
 have Hx:¬ (m:Int)=0:=by omega
 have E1:=ae e1;clear e1;go_wp2;go_meet
 case rel=>exact ⟨by rw [<-aa E1],rfl⟩}
 {
 rw [if_neg h0] at e1;have n0:m=0:=by omega
 subst n0;have E1:=ae e1;clear e1;go_wp2;go_meet
 case rel=>exact ⟨by rw [<-aa E1],rfl⟩})
 case rest=>
 obtain ⟨rfl,ky⟩:=hcut;rw [ky];clear ky wc
 go_upto_if 33 with fail
 go_cut [] (fun wc=>Hid (jS w0 wc sb rb g p cd c D'))
 case rest =>(
 as_aux_lemma=>
 obtain ⟨t9,p9,c9,q9,d9,R9,S9⟩:=aa hcut;clear q0 q1 q2 q3 q4 q5 qf H2;obtain ⟨Z,hZ⟩:=ar (aP wc rb (.int .u64 D'.e) (.int .u64 D'.g) (.int .u64 D'.x) (.int .i64 D'.t) (.slice p9 D'.ss.length c9) (.slice q9 D'.ns.length d9));have HZ:=ae (R9.fin hZ);have HS:=ae S9;obtain ⟨q0,q1,q2,q3,q4,q5,qf⟩:=R9.box.cells;obtain ⟨u0,u1,u2,u3,u4,u5,uf⟩:=R9.res.cells;clear R9 S9 hcut;unfold aP at hZ;go_wp2;rw [<-hZ];clear hZ q0 q1 q2 q3 q4 q5 qf u0 u1 u2 u3 u4 u5 uf;obtain ⟨s0,s1,s2,s3,s4,s5,sf⟩:=HZ.1.cells;refine bodyPost_ret (v:=cK D'.e D'.g D'.x D'.t (.slice p9 D'.ss.length c9) (.slice q9 D'.ns.length d9)) (by simp [results,results84,go_sem,s0,s1,s2,s3,s4,s5]) rfl ?_;exact ⟨_,_,_,_,rfl,fun w3 hk=>aa HS w3 (Kx.pre HZ.2.1 hk),HZ.2.2.2⟩)
 case first =>(
 have c9:k<22:=hk;by_cases Hb:k<4;{
 have:k=0\/k=1\/k=2\/k=3:=by omega
 rcases this with rfl | rfl | rfl | rfl;{
 as_aux_lemma=>
  have e:=aa mc;rw [show aO 0 v I J P D=(⟨D.e,4611686018427387904+v % 2,D.x,D.t,D.ss,D.ns⟩:SD) by unfold aO;rw [if_pos rfl]] at e;subst e;have HZ:=ae (H2.1.set 1 (by simp) (.int .u64 (4611686018427387904+v % 2)));go_wp2;go_meet
  case rel=>exact jS.sp (D:=(⟨D.e,4611686018427387904+v % 2,D.x,D.t,D.ss,D.ns⟩:SD)) HZ.1 (H2.2.1.fr HZ.2 (by decide)) (aR.fr H2.2.2 HZ.2 (by decide))}
 {
 as_aux_lemma=>
  have e:=aa mc;rw [show aO 1 v I J P D=(⟨D.e,D.g,4611686018427387904+v % 2,D.t,D.ss,D.ns⟩:SD) by unfold aO;rw [if_neg (by decide),if_pos rfl]] at e;subst e;have HZ:=ae (H2.1.set 2 (by simp) (.int .u64 (4611686018427387904+v % 2)));go_wp2;go_meet
  case rel=>exact jS.sp (D:=(⟨D.e,D.g,4611686018427387904+v % 2,D.t,D.ss,D.ns⟩:SD)) HZ.1 (H2.2.1.fr HZ.2 (by decide)) (aR.fr H2.2.2 HZ.2 (by decide))}
 {
 as_aux_lemma=>
  have e:=aa mc;rw [show aO 2 v I J P D=(⟨D.e,D.g,D.x,1000000+v % 2,D.ss,D.ns⟩:SD) by unfold aO;rw [if_neg (by decide),if_neg (by decide),if_pos rfl]] at e;subst e;have HZ:=ae (H2.1.set 3 (by simp) (.int .i64 (1000000+v % 2)));go_wp2;go_meet
  case rel=>exact jS.sp (D:=(⟨D.e,D.g,D.x,1000000+v % 2,D.ss,D.ns⟩:SD)) HZ.1 (H2.2.1.fr HZ.2 (by decide)) (aR.fr H2.2.2 HZ.2 (by decide))}
 {
 as_aux_lemma=>
  have e:=aa mc;rw [show aO 3 v I J P D=(⟨D.e,D.g,D.x,-1,D.ss,D.ns⟩:SD) by unfold aO;rw [if_neg (by decide),if_neg (by decide),if_neg (by decide),if_pos rfl]] at e;subst e;have HZ:=ae (H2.1.set 3 (by simp) (.int .i64 (-1)));go_wp2;go_meet
  case rel=>exact jS.sp (D:=(⟨D.e,D.g,D.x,-1,D.ss,D.ns⟩:SD)) HZ.1 (H2.2.1.fr HZ.2 (by decide)) (aR.fr H2.2.2 HZ.2 (by decide))}}
 {
 by_cases bq:n=0\/m=0;{
 have dK:D.ns.length=0\/D.ss.length=0:=by rw [aa en,aa em];exact bq
 have c0:k≠0:=by omega
 have c1:k≠1:=by omega
 have c2:k≠2:=by omega
 have c3:k≠3:=by omega
 have e:=aa mc;rw [show aO k v I J P D=(⟨4611686018427387904+v % 2,D.g,D.x,D.t,D.ss,D.ns⟩:SD) by unfold aO;rw [if_neg c0,if_neg c1,if_neg c2,if_neg c3,if_pos dK]] at e;subst e;have HZ:=ae (H2.1.set 0 (by simp) (.int .u64 (4611686018427387904+v % 2)));have d0:((k:Int)==0)=false:=by simp;omega
 have d1:((k:Int)==1)=false:=by simp;omega
 have d2:((k:Int)==2)=false:=by simp;omega
 have d3:((k:Int)==3)=false:=by simp;omega
 have Rc:((n:Int)==0)=decide (n=0):=by by_cases h:n=0<;>simp [h]
 have Fi:((m:Int)==0)=decide (m=0):=by by_cases h:m=0<;>simp [h]
 by_cases h0:n=0;{
 as_aux_lemma=>
  have Fh:((n:Int)==0)=true:=by simp [h0]
  clear Rc Fi h0 bq dK c0 c1 c2 c3;go_wp2;go_meet
  case rel=>exact jS.sp (D:=(⟨4611686018427387904+v % 2,D.g,D.x,D.t,D.ss,D.ns⟩:SD)) HZ.1 (H2.2.1.fr HZ.2 (by decide)) (aR.fr H2.2.2 HZ.2 (by decide))}
 {
 as_aux_lemma=>
  have Fh:((n:Int)==0)=false:=by simp;omega
  have ur:((m:Int)==0)=true:=by simp;omega
  clear Rc Fi h0 bq dK c0 c1 c2 c3;go_wp2;go_meet
  case rel=>exact jS.sp (D:=(⟨4611686018427387904+v % 2,D.g,D.x,D.t,D.ss,D.ns⟩:SD)) HZ.1 (H2.2.1.fr HZ.2 (by decide)) (aR.fr H2.2.2 HZ.2 (by decide))}}
 {
 have dK:¬ (D.ns.length=0\/D.ss.length=0):=by rw [aa en,aa em];exact bq
 have hI:I<n:=aa Hu (by omega);have hJ:J<m:=aa Ht (by omega);have U6:(I:Int)<(n:Int):=by omega
 have U4:(J:Int)<(m:Int):=by omega
 have Fh:((n:Int)==0)=false:=by simp;omega
 have ur:((m:Int)==0)=false:=by simp;omega
 obtain ⟨nd,aK⟩:∃ nd,D.ns[I]?=some nd:=⟨_,aE (by rw [aa en];exact hI)⟩;obtain ⟨s,hs⟩:∃ s,D.ss[J]?=some s:=⟨_,aE (by rw [aa em];exact hJ)⟩;obtain ⟨gn,P0,V0,Ww,U0,rfl,-,-,n0,n1,n2,n3,n4,n5,n6,n7,tP,tV,tH,tU,nf⟩:=aR.at H2.2.2 aK;obtain ⟨gs,Q0,rfl,-,-,hQ,s0,s1,s2,sQ,sf⟩:=de.at H2.2.1 hs;have jM:Hid (w0.heap.size<=gs):=(H2.2.1.row.lt gs rfl).1;have pM:Hid (w0.heap.size<=gn):=(H2.2.2.lt gn rfl).1;have TT:=ae (ag tP (ag tV (ag tH (ag tU (ag hQ sQ)))));have kM:=ae aK;have xv:=ae hs;clear tP tV tH tU hQ sQ;have:k=4\/k=5\/k=6\/k=7\/k=8\/k=9\/k=10\/k=11\/k=12\/k=13\/k=14\/k=15\/k=16\/k=17\/k=18\/k=19\/k=20\/k=21:=by omega
 clear bq c9 hk Hb;rcases this with rfl | rfl | rfl | rfl | rfl | rfl | rfl | rfl | rfl | rfl | rfl | rfl | rfl | rfl | rfl | rfl | rfl | rfl;{
 as_aux_lemma=>
  have e:=aa mc;rw [show aO 4 v I J P D=(⟨D.e,D.g,D.x,D.t,D.ss.set J (0,s.2.1,s.2.2),D.ns⟩:SD) by unfold aO;rw [if_neg (by decide),if_neg (by decide),if_neg (by decide),if_neg (by decide),if_neg dK,if_pos rfl];unfold xl;rw [hs]] at e;subst e;obtain ⟨S3,f3⟩:=H2.2.1.idn hs 0;have HZ:=ae (ag (H2.1.row f3 (by decide) (aa jM)) (ag S3 (aR.fr H2.2.2 f3 (by decide))));clear S3 f3;go_wp2;go_meet
  case rel=>exact jS.sp (D:=(⟨D.e,D.g,D.x,D.t,D.ss.set J (0,s.2.1,s.2.2),D.ns⟩:SD)) HZ.1 HZ.2.1 HZ.2.2}
 {
 as_aux_lemma=>
  have e:=aa mc;rw [show aO 5 v I J P D=(⟨D.e,D.g,D.x,D.t,D.ss.set J (s.1,1000015+v % 2,s.2.2),D.ns⟩:SD) by unfold aO;rw [if_neg (by decide),if_neg (by decide),if_neg (by decide),if_neg (by decide),if_neg dK,if_neg (by decide),if_pos rfl];unfold xl;rw [hs]] at e;subst e;obtain ⟨S3,f3⟩:=H2.2.1.dl hs (1000015+v % 2);have HZ:=ae (ag (H2.1.row f3 (by decide) (aa jM)) (ag S3 (aR.fr H2.2.2 f3 (by decide))));clear S3 f3;go_wp2;go_meet
  case rel=>exact jS.sp (D:=(⟨D.e,D.g,D.x,D.t,D.ss.set J (s.1,1000015+v % 2,s.2.2),D.ns⟩:SD)) HZ.1 HZ.2.1 HZ.2.2}
 {exact absurd cM (fun h=>h.elim (by decide) dK)};{exact absurd cM (fun h=>h.elim (by decide) dK)};{
 as_aux_lemma=>
  have e:=aa mc;rw [show aO 8 v I J P D=(⟨D.e,D.g,D.x,D.t,D.ss,D.ns.set I { nd with mode:=v % 4 }⟩:SD) by unfold aO;rw [if_neg (by decide),if_neg (by decide),if_neg (by decide),if_neg (by decide),if_neg dK,if_neg (by decide),if_neg (by decide),if_neg (by decide),if_neg (by decide),if_pos rfl];unfold qc;rw [aK]] at e;subst e;obtain ⟨N3,f3⟩:=aR.put H2.2.2 aK (j:=3) (by omega) (.int .i64 (v % 4)) { nd with mode:=v % 4 } (fun w' P V H U h1 h2 h3 h4 _=>⟨P,V,H,U,rfl,h1,h2,h3,h4⟩);have HZ:=ae (ag (H2.1.row f3 (by decide) (aa pM)) (ag (H2.2.1.fr f3 (by decide)) N3));clear N3 f3;go_wp2;go_meet
  case rel=>exact jS.sp (D:=(⟨D.e,D.g,D.x,D.t,D.ss,D.ns.set I { nd with mode:=v % 4 }⟩:SD)) HZ.1 HZ.2.1 HZ.2.2}
 {exact absurd cM (fun h=>h.elim (by decide) dK)};{exact absurd cM (fun h=>h.elim (by decide) dK)};{
 as_aux_lemma=>
  have e:=aa mc;rw [show aO 11 v I J P D=(⟨D.e,D.g,D.x,D.t,D.ss,D.ns.set I { nd with owner:=v % 5 }⟩:SD) by unfold aO;rw [if_neg (by decide),if_neg (by decide),if_neg (by decide),if_neg (by decide),if_neg dK,if_neg (by decide),if_neg (by decide),if_neg (by decide),if_neg (by decide),if_neg (by decide),if_neg (by decide),if_neg (by decide),if_pos rfl];unfold qc;rw [aK]] at e;subst e;obtain ⟨N3,f3⟩:=aR.put H2.2.2 aK (j:=2) (by omega) (.int .u64 (v % 5)) { nd with owner:=v % 5 } (fun w' P V H U h1 h2 h3 h4 _=>⟨P,V,H,U,rfl,h1,h2,h3,h4⟩);have HZ:=ae (ag (H2.1.row f3 (by decide) (aa pM)) (ag (H2.2.1.fr f3 (by decide)) N3));clear N3 f3;go_wp2;go_meet
  case rel=>exact jS.sp (D:=(⟨D.e,D.g,D.x,D.t,D.ss,D.ns.set I { nd with owner:=v % 5 }⟩:SD)) HZ.1 HZ.2.1 HZ.2.2}
 {
 as_aux_lemma=>
  have e:=aa mc;rw [show aO 12 v I J P D=(⟨D.e,D.g,D.x,D.t,D.ss,D.ns.set I { nd with gen:=D.g+v % 2 }⟩:SD) by unfold aO;rw [if_neg (by decide),if_neg (by decide),if_neg (by decide),if_neg (by decide),if_neg dK,if_neg (by decide),if_neg (by decide),if_neg (by decide),if_neg (by decide),if_neg (by decide),if_neg (by decide),if_neg (by decide),if_neg (by decide),if_pos rfl];unfold qc;rw [aK]] at e;subst e;have hw:IntKind.u64.wrap (D.g+v % 2)=D.g+v % 2:=IntWalk.u64_in _ (by have:=HV.1.g;omega);obtain ⟨N3,f3⟩:=aR.put H2.2.2 aK (j:=6) (by omega) (.int .u64 (D.g+v % 2)) { nd with gen:=D.g+v % 2 } (fun w' P V H U h1 h2 h3 h4 _=>⟨P,V,H,U,rfl,h1,h2,h3,h4⟩);have HZ:=ae (ag (H2.1.row f3 (by decide) (aa pM)) (ag (H2.2.1.fr f3 (by decide)) N3));clear N3 f3;go_wp2;go_meet
  case rel=>exact jS.sp (D:=(⟨D.e,D.g,D.x,D.t,D.ss,D.ns.set I { nd with gen:=D.g+v % 2 }⟩:SD)) HZ.1 HZ.2.1 HZ.2.2}
 {
 as_aux_lemma=>
  have e:=aa mc;rw [show aO 13 v I J P D=(⟨D.e,D.g,D.x,D.t,D.ss,D.ns.set I { nd with aD:=D.e+v % 2 }⟩:SD) by unfold aO;rw [if_neg (by decide),if_neg (by decide),if_neg (by decide),if_neg (by decide),if_neg dK,if_neg (by decide),if_neg (by decide),if_neg (by decide),if_neg (by decide),if_neg (by decide),if_neg (by decide),if_neg (by decide),if_neg (by decide),if_neg (by decide),if_pos rfl];unfold qc;rw [aK]] at e;subst e;have hw:IntKind.u64.wrap (D.e+v % 2)=D.e+v % 2:=IntWalk.u64_in _ (by have:=HV.1.e;have:=HV.2;omega);obtain ⟨N3,f3⟩:=aR.put H2.2.2 aK (j:=5) (by omega) (.int .u64 (D.e+v % 2)) { nd with aD:=D.e+v % 2 } (fun w' P V H U h1 h2 h3 h4 _=>⟨P,V,H,U,rfl,h1,h2,h3,h4⟩);have HZ:=ae (ag (H2.1.row f3 (by decide) (aa pM)) (ag (H2.2.1.fr f3 (by decide)) N3));clear N3 f3;go_wp2;go_meet
  case rel=>exact jS.sp (D:=(⟨D.e,D.g,D.x,D.t,D.ss,D.ns.set I { nd with aD:=D.e+v % 2 }⟩:SD)) HZ.1 HZ.2.1 HZ.2.2}
 {
 as_aux_lemma=>
  have e:=aa mc;rw [show aO 14 v I J P D=(⟨D.e,D.g,D.x,D.t,D.ss,D.ns.eraseIdx I⟩:SD) by unfold aO;rw [if_neg (by decide),if_neg (by decide),if_neg (by decide),if_neg (by decide),if_neg dK,if_neg (by decide),if_neg (by decide),if_neg (by decide),if_neg (by decide),if_neg (by decide),if_neg (by decide),if_neg (by decide),if_neg (by decide),if_neg (by decide),if_neg (by decide),if_pos rfl];rfl] at e;subst e;go_wp2_with fail;refine (nG D.e D.g D.x D.t (some ⟨gs,0,none⟩) m cs (some ⟨gn,0,none⟩) n ds D.ns en I w0.heap.size w2 (ae H2.2.2) (by omega)).mono ?_;rintro r w3 ⟨p3,c3',rfl,N3,b3⟩;obtain ⟨Z,hZ⟩:=ar (aP w3 sb (.int .u64 D.e) (.int .u64 D.g) (.int .u64 D.x) (.int .i64 D.t) (.slice (some ⟨gs,0,none⟩) m cs) (.slice p3 (D.ns.eraseIdx I).length c3'));have HZ:=ae (H2.1.below b3 |>.Y6 hZ);have S3:=ae (ag (H2.2.1.fr (Fr.below (T:=[]) b3) (by decide)) N3);have R3:=ae (H2.1.below b3);clear N3 b3 q0 q1 q2 q3 q4 q5 qf;obtain ⟨q0,q1,q2,q3,q4,q5,qf⟩:=R3.box.cells;unfold aP at hZ;go_wp2;rw [<-hZ];go_meet
  case rel=>exact jS.sp (D:=(⟨D.e,D.g,D.x,D.t,D.ss,D.ns.eraseIdx I⟩:SD)) HZ.1 (S3.1.fr HZ.2 (by decide)) (aR.fr S3.2 HZ.2 (by decide))}
 {exact absurd cM (fun h=>h.elim (by decide) dK)};{exact absurd cM (fun h=>h.elim (by decide) dK)};{exact absurd cM (fun h=>h.elim (by decide) dK)};{
 as_aux_lemma=>
  have e:=aa mc;rw [show aO 18 v I J P D=(⟨D.e,D.g,D.x,D.t,D.ss.set J (s.1,-1,s.2.2),D.ns⟩:SD) by unfold aO;rw [if_neg (by decide),if_neg (by decide),if_neg (by decide),if_neg (by decide),if_neg dK,if_neg (by decide),if_neg (by decide),if_neg (by decide),if_neg (by decide),if_neg (by decide),if_neg (by decide),if_neg (by decide),if_neg (by decide),if_neg (by decide),if_neg (by decide),if_neg (by decide),if_neg (by decide),if_neg (by decide),if_neg (by decide),if_pos rfl];unfold xl;rw [hs]] at e;subst e;obtain ⟨S3,f3⟩:=H2.2.1.dl hs (-1);have HZ:=ae (ag (H2.1.row f3 (by decide) (aa jM)) (ag S3 (aR.fr H2.2.2 f3 (by decide))));clear S3 f3;go_wp2;go_meet
  case rel=>exact jS.sp (D:=(⟨D.e,D.g,D.x,D.t,D.ss.set J (s.1,-1,s.2.2),D.ns⟩:SD)) HZ.1 HZ.2.1 HZ.2.2}
 {
 as_aux_lemma=>
  have e:=aa mc;rw [show aO 19 v I J P D=(⟨D.e,D.g,0,D.t,D.ss,D.ns⟩:SD) by unfold aO;rw [if_neg (by decide),if_neg (by decide),if_neg (by decide),if_neg (by decide),if_neg dK,if_neg (by decide),if_neg (by decide),if_neg (by decide),if_neg (by decide),if_neg (by decide),if_neg (by decide),if_neg (by decide),if_neg (by decide),if_neg (by decide),if_neg (by decide),if_neg (by decide),if_neg (by decide),if_neg (by decide),if_neg (by decide),if_neg (by decide),if_pos rfl]] at e;subst e;have HZ:=ae (H2.1.set 2 (by simp) (.int .u64 0));go_wp2;go_meet
  case rel=>exact jS.sp (D:=(⟨D.e,D.g,0,D.t,D.ss,D.ns⟩:SD)) HZ.1 (H2.2.1.fr HZ.2 (by decide)) (aR.fr H2.2.2 HZ.2 (by decide))}
 {
 as_aux_lemma=>
  have e:=aa mc;rw [show aO 20 v I J P D=(⟨D.e,D.g,D.x,D.t,D.ss++[(v % 5,0,[])],D.ns⟩:SD) by unfold aO;rw [if_neg (by decide),if_neg (by decide),if_neg (by decide),if_neg (by decide),if_neg dK,if_neg (by decide),if_neg (by decide),if_neg (by decide),if_neg (by decide),if_neg (by decide),if_neg (by decide),if_neg (by decide),if_neg (by decide),if_neg (by decide),if_neg (by decide),if_neg (by decide),if_neg (by decide),if_neg (by decide),if_neg (by decide),if_neg (by decide),if_neg (by decide),if_pos rfl]] at e;subst e;obtain ⟨Y,hY,bY,zY,CY,-⟩:=aj w2 #[.int .u64 (v % 5),.int .i64 0,.slice none 0 0] 35;have HY:=ae (ag (H2.1.below bY) (ag (H2.2.1.fr (Fr.below (T:=[]) bY) (by decide)) (ag (aR.fr H2.2.2 (Fr.below (T:=[]) bY) (by decide)) CY.1)));have lz:Hid ((D.ss.zip Qs).length=m):=by show _=_;rw [List.length_zip,H2.2.1.len,aa em];simp
  clear bY zY CY;go_wp2_with (at_builtin;rw [<-hY];refine fh rfl _ _ rfl w0.heap.size (.slice (some ⟨gs,0,none⟩) m cs) (D.ss.zip Qs) ((v % 5,0,[]),aq) m lz rfl HY.2.1.row w2.heap.size rfl rfl HY.2.2.2 (by omega) (by have:=HY.1.dr.2.1;exact this) ?_);intro p' c' w9 wh cT rj;rw [<-hY] at cT rj;have B9:Below w0.heap.size Y w9:=⟨cT.os,cT.tape,cT.output,cT.size,fun b hb=>cT.block b (by have:=HY.1.dr.2.1;omega) (fun e=>by simp only [Value.ownBlock,Option.some.injEq] at e;have:=aa jM;omega)⟩
  have S9:=ae (ag (HY.2.1.FV rj _ _ wh) (aR.fr HY.2.2.1 rj (by decide)));have R9:=ae (HY.1.fr rj (by decide) B9);clear wh cT rj B9 HY lz q0 q1 q2 q3 q4 q5 qf hY;obtain ⟨q0,q1,q2,q3,q4,q5,qf⟩:=R9.box.cells;have HZ:=ae (R9.set 4 (by simp) (.slice p' (m+1) c'));go_wp2;go_meet
  case rel=>exact jS.sp (D:=(⟨D.e,D.g,D.x,D.t,D.ss++[(v % 5,0,[])],D.ns⟩:SD)) HZ.1 (S9.1.fr HZ.2 (by decide)) (aR.fr S9.2 HZ.2 (by decide))}
 {exact absurd cM (fun h=>h.elim (by decide) dK)}}})
end Go.Proofs.YtcfcafeciggjeaaGreatDoor
