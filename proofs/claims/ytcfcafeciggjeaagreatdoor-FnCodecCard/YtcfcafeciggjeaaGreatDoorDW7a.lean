import Derived.Test.YtcfcafeciggjeaaGreatDoorK49
namespace Go.Proofs.YtcfcafeciggjeaaGreatDoor
set_option maxHeartbeats 25600000
set_option linter.all false
set_option maxRecDepth 100000
open Go.ChangeShapes Go.WideShapes Go.ChangeAt Go.RowKit Go.Deep Go.Proofs.Tryz
theorem GN (cd:List Int) (t:Nat) (hb:bM cd) (hl:cd.length<=500) (D:SD) (hv:VD D) (he:UD D) (Lx:∀ k:Nat,cd.getD t 0 % 22=k->k∈[0,1,2,3,4,5,8,11,12,13,14,18,19,20]\/(D.ns.length=0\/D.ss.length=0)):∃ D',BD D'/\DSp cd t D D':=by
 have r0:=cG cd hb t;have r1:=cG cd hb (t+1);obtain ⟨x,ex⟩:=aL (cd.getD t 0);obtain ⟨v,ev⟩:=aL (cd.getD (t+1) 0);rw [aa ex] at r0;rw [aa ev] at r1;obtain ⟨k,ek,hk⟩:∃ k:Nat,x % 22=k/\k<22:=⟨(x % 22).toNat,ab,ab⟩;have vR:=ae (Lx k (by rw [aa ex];exact ek));clear Lx;obtain ⟨P,bP,lP,dP⟩:=mU cd (t+1+1) hb hl;obtain ⟨n,en⟩:=aL D.ns.length;obtain ⟨m,em⟩:=aL D.ss.length;have J3:n<=200:=by rw [<-aa en];exact hv.nl
 have hm2:m<=50:=by rw [<-aa em];exact hv.sl
 obtain ⟨I,eI,hIl⟩:∃ I:Nat,Hid ((if 0<n then v % n else 0)=(I:Int))/\Hid (0<n->I<n):=by by_cases h:0<n;{have h1:=Int.emod_nonneg v (show (n:Int)≠0 by omega);have h2:=Int.emod_lt_of_pos v (show (0:Int)<n by omega);exact ⟨(v % n).toNat,by show _=_;rw [if_pos h];omega,fun _=>ab⟩};{exact ⟨0,by show _=_;rw [if_neg h];rfl,fun h'=>absurd h' h⟩}
 obtain ⟨J,eJ,hJl⟩:∃ J:Nat,Hid ((if 0<m then v % m else 0)=(J:Int))/\Hid (0<m->J<m):=by by_cases h:0<m;{have h1:=Int.emod_nonneg v (show (m:Int)≠0 by omega);have h2:=Int.emod_lt_of_pos v (show (0:Int)<m by omega);exact ⟨(v % m).toNat,by show _=_;rw [if_pos h];omega,fun _=>ab⟩};{exact ⟨0,by show _=_;rw [if_neg h];rfl,fun h'=>absurd h' h⟩}
 obtain ⟨D',uD⟩:=aL (bE k v I J P D);refine ⟨D',by rw [<-aa uD];exact Cw hv he k r1 I J bP lP,?_⟩;intro g p c w0 w ps cs qs ds Qs h mn hd hS hN;have HP:=ae (ag bP (ag lP dP));have HV:=ae (ag hv he);have z0':=hd.2.1;obtain ⟨W0,dh,b0,z0,C0⟩:=oR w D ps D.ss.length cs qs D.ns.length ds;obtain ⟨W1,iM,b1,z1,C1⟩:=iq W0;rw [z0] at C1 z1;have bW:=ah b0 b1;have H0:Hid (RA w0 W1 w.heap.size (w.heap.size+1) g p cd c t [.U D.e,.U D.g,.U D.x,.I D.t,.S ps m cs,.S qs n ds]/\SpS w0.heap.size W1 (.S ps m cs) D.ss Qs/\SpN w0.heap.size W1 (.S qs n ds) D.ns):=by rw [<-aa en,<-aa em];exact ⟨⟨C0.below b1,C1,h.low bW h.lt,hd.dr (Dr.below bW h.lt),ab,⟨ab,ab⟩,mn⟩,hS.fr (al bW),bS.fr hN (al bW)⟩
 obtain ⟨sb,tX⟩:=aH w.heap.size;obtain ⟨rb,WM⟩:=aH (w.heap.size+1);rw [WM,tX] at H0;have xW:=ae (ag tX WM);clear b0 b1 bW z0 z1 C0 C1 hS hN hd h bP lP dP hv he z0' tX WM;go_enter func84,ntmps84;go_wp2_with fail;rw [<-dh,<-iM,xW.2,xW.1];rw [aa en,aa em];clear dh iM W0;refine (fD g p cd c t W1 H0.1.jP hb hl).mono ?_;rintro r w1 ⟨rfl,h1,d1⟩;rw [aa ex];have H1:=ae (ag (H0.1.draw h1 d1) (ag (H0.2.1.fr d1.1) (bS.fr H0.2.2 d1.1)));clear h1 d1 H0 W1;go_wp2_with fail;refine (fD g p cd c (t+1) w1 H1.1.jP hb hl).mono ?_;rintro r w2 ⟨rfl,h2,d2⟩;rw [aa ev];have H2:=ae (ag (H1.1.draw h2 d2) (ag (H1.2.1.fr d2.1) (bS.fr H1.2.2 d2.1)));clear h2 d2 H1 w1 xW;obtain ⟨q0,q1,q2,q3,q4,q5,qf⟩:=H2.1.box.cells
 go_upto_if 17 with fail
 go_cut [7] (fun iv wc=>iv=.I I/\wc=w2)
 case first =>(
 as_aux_lemma=>
 have e1:=aa eI;by_cases h0:0<n;{
 rw [if_pos h0] at e1;have WJ:=ja 0 n;have h0n:¬ (n:Int)=0:=ab;have E1:=ae e1;clear e1;go_wp2;go_meet
 case rel=>exact ⟨by rw [<-aa E1],rfl⟩}
 {
 rw [if_neg h0] at e1;have n0:n=0:=ab;subst n0;have E1:=ae e1;clear e1;go_wp2;go_meet
 case rel=>exact ⟨by rw [<-aa E1],rfl⟩})
 case rest=>
 obtain ⟨rfl,Hg⟩:=hcut;rw [Hg];clear Hg wc
 go_upto_if 26 with fail
 go_cut [8] (fun iv wc=>iv=.I J/\wc=w2)
 case first =>(
 as_aux_lemma=>
 have e1:=aa eJ;by_cases h0:0<m;{
 rw [if_pos h0] at e1;have WJ:=ja 0 m;have h0n:¬ (m:Int)=0:=ab;have E1:=ae e1;clear e1;go_wp2;go_meet
 case rel=>exact ⟨by rw [<-aa E1],rfl⟩}
 {
 rw [if_neg h0] at e1;have n0:m=0:=ab;subst n0;have E1:=ae e1;clear e1;go_wp2;go_meet
 case rel=>exact ⟨by rw [<-aa E1],rfl⟩})
 case rest=>
 obtain ⟨rfl,Hg⟩:=hcut;rw [Hg];clear Hg wc
 go_upto_if 33 with fail
 go_cut [] (fun wc=>Hid (qp w0 wc sb rb g p cd c D'))
 case rest =>(
 as_aux_lemma=>
 obtain ⟨t9,p9,c9,q9,d9,R9,S9⟩:=aa hcut;clear q0 q1 q2 q3 q4 q5 qf H2;obtain ⟨Z,hZ⟩:=ax (bg wc rb (.U D'.e) (.U D'.g) (.U D'.x) (.I D'.t) (.S p9 D'.ss.length c9) (.S q9 D'.ns.length d9));have HZ:=ae (R9.fin hZ);have HS:=ae S9;obtain ⟨q0,q1,q2,q3,q4,q5,qf⟩:=R9.box.cells;obtain ⟨u0,u1,u2,u3,u4,u5,uf⟩:=R9.res.cells;clear R9 S9 hcut;unfold bg at hZ;go_wp2;rw [<-hZ];clear hZ q0 q1 q2 q3 q4 q5 qf u0 u1 u2 u3 u4 u5 uf;obtain ⟨s0,s1,s2,s3,s4,s5,sf⟩:=HZ.1.cells;refine bodyPost_ret (v:=cY D'.e D'.g D'.x D'.t (.S p9 D'.ss.length c9) (.S q9 D'.ns.length d9)) (by simp [results,results84,go_sem,s0,s1,s2,s3,s4,s5]) rfl ?_;exact ⟨_,_,_,_,rfl,fun w3 hk=>aa HS w3 (Kx.pre HZ.2.1 hk),HZ.2.2.2⟩)
 case first =>(
 have c9:k<22:=hk;by_cases PZ:k<4;{
 have:k=0\/k=1\/k=2\/k=3:=by omega
 rcases this with rfl | rfl | rfl | rfl;{
 as_aux_lemma=>
  have e:=aa uD;rw [show bE 0 v I J P D=(⟨D.e,4611686018427387904+v % 2,D.x,D.t,D.ss,D.ns⟩:SD) by unfold bE;rw [if_pos rfl]] at e;subst e;have HZ:=ae (H2.1.set 1 aU (.U (4611686018427387904+v % 2)));go_wp2;go_meet
  case rel=>exact qp.sp (D:=(⟨D.e,4611686018427387904+v % 2,D.x,D.t,D.ss,D.ns⟩:SD)) HZ.1 (H2.2.1.fr HZ.2) (bS.fr H2.2.2 HZ.2)}
 {
 as_aux_lemma=>
  have e:=aa uD;rw [show bE 1 v I J P D=(⟨D.e,D.g,4611686018427387904+v % 2,D.t,D.ss,D.ns⟩:SD) by unfold bE;rw [bc,if_pos rfl]] at e;subst e;have HZ:=ae (H2.1.set 2 aU (.U (4611686018427387904+v % 2)));go_wp2;go_meet
  case rel=>exact qp.sp (D:=(⟨D.e,D.g,4611686018427387904+v % 2,D.t,D.ss,D.ns⟩:SD)) HZ.1 (H2.2.1.fr HZ.2) (bS.fr H2.2.2 HZ.2)}
 {
 as_aux_lemma=>
  have e:=aa uD;rw [show bE 2 v I J P D=(⟨D.e,D.g,D.x,1000000+v % 2,D.ss,D.ns⟩:SD) by unfold bE;rw [bc,bc,if_pos rfl]] at e;subst e;have HZ:=ae (H2.1.set 3 aU (.I (1000000+v % 2)));go_wp2;go_meet
  case rel=>exact qp.sp (D:=(⟨D.e,D.g,D.x,1000000+v % 2,D.ss,D.ns⟩:SD)) HZ.1 (H2.2.1.fr HZ.2) (bS.fr H2.2.2 HZ.2)}
 {
 as_aux_lemma=>
  have e:=aa uD;rw [show bE 3 v I J P D=(⟨D.e,D.g,D.x,-1,D.ss,D.ns⟩:SD) by unfold bE;rw [bc,bc,bc,if_pos rfl]] at e;subst e;have HZ:=ae (H2.1.set 3 aU (.I (-1)));go_wp2;go_meet
  case rel=>exact qp.sp (D:=(⟨D.e,D.g,D.x,-1,D.ss,D.ns⟩:SD)) HZ.1 (H2.2.1.fr HZ.2) (bS.fr H2.2.2 HZ.2)}}
 {
 by_cases gd:n=0\/m=0;{
 have kX:D.ns.length=0\/D.ss.length=0:=by rw [aa en,aa em];exact gd
 have c0:k≠0:=ab;have c1:k≠1:=ab;have c2:k≠2:=ab;have c3:k≠3:=ab;have e:=aa uD;rw [show bE k v I J P D=(⟨4611686018427387904+v % 2,D.g,D.x,D.t,D.ss,D.ns⟩:SD) by unfold bE;rw [if_neg c0,if_neg c1,if_neg c2,if_neg c3,if_pos kX]] at e;subst e;have HZ:=ae (H2.1.set 0 aU (.U (4611686018427387904+v % 2)));have d0:((k:Int)==0)=false:=by simp;omega
 have d1:((k:Int)==1)=false:=by simp;omega
 have d2:((k:Int)==2)=false:=by simp;omega
 have d3:((k:Int)==3)=false:=by simp;omega
 have Mg:((n:Int)==0)=decide (n=0):=by by_cases h:n=0<;>simp [h]
 have Be:((m:Int)==0)=decide (m=0):=by by_cases h:m=0<;>simp [h]
 by_cases h0:n=0;{
 as_aux_lemma=>
  have RI:((n:Int)==0)=true:=by simp [h0]
  clear Mg Be h0 gd kX c0 c1 c2 c3;go_wp2;go_meet
  case rel=>exact qp.sp (D:=(⟨4611686018427387904+v % 2,D.g,D.x,D.t,D.ss,D.ns⟩:SD)) HZ.1 (H2.2.1.fr HZ.2) (bS.fr H2.2.2 HZ.2)}
 {
 as_aux_lemma=>
  have RI:((n:Int)==0)=false:=by simp;omega
  have xu:((m:Int)==0)=true:=by simp;omega
  clear Mg Be h0 gd kX c0 c1 c2 c3;go_wp2;go_meet
  case rel=>exact qp.sp (D:=(⟨4611686018427387904+v % 2,D.g,D.x,D.t,D.ss,D.ns⟩:SD)) HZ.1 (H2.2.1.fr HZ.2) (bS.fr H2.2.2 HZ.2)}}
 {
 have kX:¬ (D.ns.length=0\/D.ss.length=0):=by rw [aa en,aa em];exact gd
 have hI:I<n:=aa hIl ab;have hJ:J<m:=aa hJl ab;have hI':=aT I n;have hJ':=aT J m;have RI:((n:Int)==0)=false:=by simp;omega
 have xu:((m:Int)==0)=false:=by simp;omega
 obtain ⟨nd,aV⟩:∃ nd,D.ns[I]?=some nd:=⟨_,aK (by rw [aa en];exact hI)⟩;obtain ⟨s,hs⟩:∃ s,D.ss[J]?=some s:=⟨_,aK (by rw [aa em];exact hJ)⟩;obtain ⟨gn,P0,V0,H0',U0,rfl,-,-,n0,n1,n2,n3,n4,n5,n6,n7,tP,tV,tH,tU,nf⟩:=bS.at H2.2.2 aV;obtain ⟨gs,Q0,rfl,-,-,hQ,s0,s1,s2,sQ,sf⟩:=SpS.at H2.2.1 hs;have qN:Hid (w0.heap.size<=gs):=(H2.2.1.row.lt gs rfl).1;have xw:Hid (w0.heap.size<=gn):=(H2.2.2.lt gn rfl).1;have TT:=ae (ag tP (ag tV (ag tH (ag tU (ag hQ sQ)))));have ud:=ae aV;have Ov:=ae hs;clear tP tV tH tU hQ sQ;have:k=4\/k=5\/k=6\/k=7\/k=8\/k=9\/k=10\/k=11\/k=12\/k=13\/k=14\/k=15\/k=16\/k=17\/k=18\/k=19\/k=20\/k=21:=by omega
 clear gd c9 hk PZ;rcases this with rfl | rfl | rfl | rfl | rfl | rfl | rfl | rfl | rfl | rfl | rfl | rfl | rfl | rfl | rfl | rfl | rfl | rfl;{
 as_aux_lemma=>
  have e:=aa uD;rw [show bE 4 v I J P D=(⟨D.e,D.g,D.x,D.t,D.ss.set J (0,s.2.1,s.2.2),D.ns⟩:SD) by unfold bE;rw [bc,bc,bc,bc,if_neg kX,if_pos rfl];unfold BU;rw [hs]] at e;subst e;obtain ⟨S3,f3⟩:=H2.2.1.idn hs 0;have HZ:=ae (ag (H2.1.row f3 bl (aa qN)) (ag S3 (bS.fr H2.2.2 f3)));clear S3 f3;go_wp2;go_meet
  case rel=>exact qp.sp (D:=(⟨D.e,D.g,D.x,D.t,D.ss.set J (0,s.2.1,s.2.2),D.ns⟩:SD)) HZ.1 HZ.2.1 HZ.2.2}
 {
 as_aux_lemma=>
  have e:=aa uD;rw [show bE 5 v I J P D=(⟨D.e,D.g,D.x,D.t,D.ss.set J (s.1,1000015+v % 2,s.2.2),D.ns⟩:SD) by unfold bE;rw [bc,bc,bc,bc,if_neg kX,bc,if_pos rfl];unfold BU;rw [hs]] at e;subst e;obtain ⟨S3,f3⟩:=H2.2.1.dl hs (1000015+v % 2);have HZ:=ae (ag (H2.1.row f3 bl (aa qN)) (ag S3 (bS.fr H2.2.2 f3)));clear S3 f3;go_wp2;go_meet
  case rel=>exact qp.sp (D:=(⟨D.e,D.g,D.x,D.t,D.ss.set J (s.1,1000015+v % 2,s.2.2),D.ns⟩:SD)) HZ.1 HZ.2.1 HZ.2.2}
 {exact absurd vR (fun h=>h.elim bl kX)};{exact absurd vR (fun h=>h.elim bl kX)};{
 as_aux_lemma=>
  have e:=aa uD;rw [show bE 8 v I J P D=(⟨D.e,D.g,D.x,D.t,D.ss,D.ns.set I { nd with mode:=v % 4 }⟩:SD) by unfold bE;rw [bc,bc,bc,bc,if_neg kX,bc,bc,bc,bc,if_pos rfl];unfold ti;rw [aV]] at e;subst e;obtain ⟨N3,f3⟩:=bS.put H2.2.2 aV (j:=3) ab (.I (v % 4)) { nd with mode:=v % 4 } (fun w' P V H U h1 h2 h3 h4 _=>⟨P,V,H,U,rfl,h1,h2,h3,h4⟩);have HZ:=ae (ag (H2.1.row f3 bl (aa xw)) (ag (H2.2.1.fr f3) N3));clear N3 f3;go_wp2;go_meet
  case rel=>exact qp.sp (D:=(⟨D.e,D.g,D.x,D.t,D.ss,D.ns.set I { nd with mode:=v % 4 }⟩:SD)) HZ.1 HZ.2.1 HZ.2.2}
 {exact absurd vR (fun h=>h.elim bl kX)};{exact absurd vR (fun h=>h.elim bl kX)};{
 as_aux_lemma=>
  have e:=aa uD;rw [show bE 11 v I J P D=(⟨D.e,D.g,D.x,D.t,D.ss,D.ns.set I { nd with owner:=v % 5 }⟩:SD) by unfold bE;rw [bc,bc,bc,bc,if_neg kX,bc,bc,bc,bc,bc,bc,bc,if_pos rfl];unfold ti;rw [aV]] at e;subst e;obtain ⟨N3,f3⟩:=bS.put H2.2.2 aV (j:=2) ab (.U (v % 5)) { nd with owner:=v % 5 } (fun w' P V H U h1 h2 h3 h4 _=>⟨P,V,H,U,rfl,h1,h2,h3,h4⟩);have HZ:=ae (ag (H2.1.row f3 bl (aa xw)) (ag (H2.2.1.fr f3) N3));clear N3 f3;go_wp2;go_meet
  case rel=>exact qp.sp (D:=(⟨D.e,D.g,D.x,D.t,D.ss,D.ns.set I { nd with owner:=v % 5 }⟩:SD)) HZ.1 HZ.2.1 HZ.2.2}
 {
 as_aux_lemma=>
  have e:=aa uD;rw [show bE 12 v I J P D=(⟨D.e,D.g,D.x,D.t,D.ss,D.ns.set I { nd with gen:=D.g+v % 2 }⟩:SD) by unfold bE;rw [bc,bc,bc,bc,if_neg kX,bc,bc,bc,bc,bc,bc,bc,bc,if_pos rfl];unfold ti;rw [aV]] at e;subst e;have hw:IntKind.u64.wrap (D.g+v % 2)=D.g+v % 2:=IntWalk.u64_in _ (by have:=HV.1.g;omega);obtain ⟨N3,f3⟩:=bS.put H2.2.2 aV (j:=6) ab (.U (D.g+v % 2)) { nd with gen:=D.g+v % 2 } (fun w' P V H U h1 h2 h3 h4 _=>⟨P,V,H,U,rfl,h1,h2,h3,h4⟩);have HZ:=ae (ag (H2.1.row f3 bl (aa xw)) (ag (H2.2.1.fr f3) N3));clear N3 f3;go_wp2;go_meet
  case rel=>exact qp.sp (D:=(⟨D.e,D.g,D.x,D.t,D.ss,D.ns.set I { nd with gen:=D.g+v % 2 }⟩:SD)) HZ.1 HZ.2.1 HZ.2.2}
 {
 as_aux_lemma=>
  have e:=aa uD;rw [show bE 13 v I J P D=(⟨D.e,D.g,D.x,D.t,D.ss,D.ns.set I { nd with aB:=D.e+v % 2 }⟩:SD) by unfold bE;rw [bc,bc,bc,bc,if_neg kX,bc,bc,bc,bc,bc,bc,bc,bc,bc,if_pos rfl];unfold ti;rw [aV]] at e;subst e;have hw:IntKind.u64.wrap (D.e+v % 2)=D.e+v % 2:=IntWalk.u64_in _ (by have:=HV.1.e;have:=HV.2.1;omega);obtain ⟨N3,f3⟩:=bS.put H2.2.2 aV (j:=5) ab (.U (D.e+v % 2)) { nd with aB:=D.e+v % 2 } (fun w' P V H U h1 h2 h3 h4 _=>⟨P,V,H,U,rfl,h1,h2,h3,h4⟩);have HZ:=ae (ag (H2.1.row f3 bl (aa xw)) (ag (H2.2.1.fr f3) N3));clear N3 f3;go_wp2;go_meet
  case rel=>exact qp.sp (D:=(⟨D.e,D.g,D.x,D.t,D.ss,D.ns.set I { nd with aB:=D.e+v % 2 }⟩:SD)) HZ.1 HZ.2.1 HZ.2.2}
 {
 as_aux_lemma=>
  have e:=aa uD;rw [show bE 14 v I J P D=(⟨D.e,D.g,D.x,D.t,D.ss,D.ns.eraseIdx I⟩:SD) by unfold bE;rw [bc,bc,bc,bc,if_neg kX,bc,bc,bc,bc,bc,bc,bc,bc,bc,bc,if_pos rfl];rfl] at e;subst e;go_wp2_with fail;refine (qD D.e D.g D.x D.t (some ⟨gs,0,none⟩) m cs (some ⟨gn,0,none⟩) n ds D.ns en I w0.heap.size w2 (ae H2.2.2) ab).mono ?_;rintro r w3 ⟨p3,c3',rfl,N3,b3⟩;obtain ⟨Z,hZ⟩:=ax (bg w3 sb (.U D.e) (.U D.g) (.U D.x) (.I D.t) (.S (some ⟨gs,0,none⟩) m cs) (.S p3 (D.ns.eraseIdx I).length c3'));have HZ:=ae (H2.1.below b3 |>.aF4 hZ);have S3:=ae (ag (H2.2.1.fr (al b3)) N3);have R3:=ae (H2.1.below b3);clear N3 b3 q0 q1 q2 q3 q4 q5 qf;obtain ⟨q0,q1,q2,q3,q4,q5,qf⟩:=R3.box.cells;unfold bg at hZ;go_wp2;rw [<-hZ];go_meet
  case rel=>exact qp.sp (D:=(⟨D.e,D.g,D.x,D.t,D.ss,D.ns.eraseIdx I⟩:SD)) HZ.1 (S3.1.fr HZ.2) (bS.fr S3.2 HZ.2)}
 {exact absurd vR (fun h=>h.elim bl kX)};{exact absurd vR (fun h=>h.elim bl kX)};{exact absurd vR (fun h=>h.elim bl kX)};{
 as_aux_lemma=>
  have e:=aa uD;rw [show bE 18 v I J P D=(⟨D.e,D.g,D.x,D.t,D.ss.set J (s.1,-1,s.2.2),D.ns⟩:SD) by unfold bE;rw [bc,bc,bc,bc,if_neg kX,bc,bc,bc,bc,bc,bc,bc,bc,bc,bc,bc,bc,bc,bc,if_pos rfl];unfold BU;rw [hs]] at e;subst e;obtain ⟨S3,f3⟩:=H2.2.1.dl hs (-1);have HZ:=ae (ag (H2.1.row f3 bl (aa qN)) (ag S3 (bS.fr H2.2.2 f3)));clear S3 f3;go_wp2;go_meet
  case rel=>exact qp.sp (D:=(⟨D.e,D.g,D.x,D.t,D.ss.set J (s.1,-1,s.2.2),D.ns⟩:SD)) HZ.1 HZ.2.1 HZ.2.2}
 {
 as_aux_lemma=>
  have e:=aa uD;rw [show bE 19 v I J P D=(⟨D.e,D.g,0,D.t,D.ss,D.ns⟩:SD) by unfold bE;rw [bc,bc,bc,bc,if_neg kX,bc,bc,bc,bc,bc,bc,bc,bc,bc,bc,bc,bc,bc,bc,bc,if_pos rfl]] at e;subst e;have HZ:=ae (H2.1.set 2 aU (.U 0));go_wp2;go_meet
  case rel=>exact qp.sp (D:=(⟨D.e,D.g,0,D.t,D.ss,D.ns⟩:SD)) HZ.1 (H2.2.1.fr HZ.2) (bS.fr H2.2.2 HZ.2)}
 {
 as_aux_lemma=>
  have e:=aa uD;rw [show bE 20 v I J P D=(⟨D.e,D.g,D.x,D.t,D.ss++[(v % 5,0,[])],D.ns⟩:SD) by unfold bE;rw [bc,bc,bc,bc,if_neg kX,bc,bc,bc,bc,bc,bc,bc,bc,bc,bc,bc,bc,bc,bc,bc,bc,if_pos rfl]] at e;subst e;obtain ⟨Y,hY,bY,zY,CY,-⟩:=aj w2 #[.U (v % 5),.I 0,.S none 0 0] 35;have HY:=ae (ag (H2.1.below bY) (ag (H2.2.1.fr (al bY)) (ag (bS.fr H2.2.2 (al bY)) CY.1)));have lz:Hid ((D.ss.zip Qs).length=m):=by show _=_;rw [List.length_zip,H2.2.1.len,aa em];simp
  clear bY zY CY;go_wp2_with (at_builtin;rw [<-hY];refine gO rfl _ _ rfl w0.heap.size (.S (some ⟨gs,0,none⟩) m cs) (D.ss.zip Qs) ((v % 5,0,[]),ao) m lz rfl HY.2.1.row w2.heap.size rfl rfl HY.2.2.2 ab (by have:=HY.1.dr.2.1;exact this) ?_);intro p' c' w9 Oa fh uY;rw [<-hY] at fh uY;have B9:Below w0.heap.size Y w9:=⟨fh.os,fh.tape,fh.output,fh.size,fun b hb=>fh.block b (by have:=HY.1.dr.2.1;omega) (fun e=>by simp only [Value.ownBlock,Option.some.injEq] at e;have:=aa qN;omega)⟩
  have S9:=ae (ag (HY.2.1.KI uY _ _ Oa) (bS.fr HY.2.2.1 uY));have R9:=ae (HY.1.fr uY bl B9);clear Oa fh uY B9 HY lz q0 q1 q2 q3 q4 q5 qf hY;obtain ⟨q0,q1,q2,q3,q4,q5,qf⟩:=R9.box.cells;have HZ:=ae (R9.set 4 aU (.S p' (m+1) c'));go_wp2;go_meet
  case rel=>exact qp.sp (D:=(⟨D.e,D.g,D.x,D.t,D.ss++[(v % 5,0,[])],D.ns⟩:SD)) HZ.1 (S9.1.fr HZ.2) (bS.fr S9.2 HZ.2)}
 {exact absurd vR (fun h=>h.elim bl kX)}}})
end Go.Proofs.YtcfcafeciggjeaaGreatDoor
