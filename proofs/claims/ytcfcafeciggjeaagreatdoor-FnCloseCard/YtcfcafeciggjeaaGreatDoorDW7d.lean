import Derived.Test.YtcfcafeciggjeaaGreatDoorK46
import Derived.Great.BuildSlice
namespace Go.Proofs.YtcfcafeciggjeaaGreatDoor
set_option maxHeartbeats 25600000
set_option linter.unusedVariables false
set_option linter.unusedSimpArgs false
set_option maxRecDepth 100000
open Go.ChangeShapes Go.WideShapes Go.ChangeAt Go.RowKit Go.Deep Go.Proofs.Tryz
variable {a:Act} {l:Array Bool} {o oi:Oper} {w:World}
def wpE (P:Program) (md:Region.Mode) (ops:Array Oper) (Q:Exit->Act->World->Prop) (S:World->Prop) (x:Nat):Nat->Array Bool->Act->World->Prop
 | 0,l,a,w=>Region.ready md ops l=[]/\Q .normal a w
 | n+1,l,a,w=>(Region.ready md ops l=[]->Q .normal a w)/\∀ i∈Region.ready md ops l,wpOp P ops Q i (fun a' w'=>(i=x\/S w')/\wpE P md ops Q S x n (l.setIfInBounds i true) a' w') a w
section
variable {P:Program} {md:Region.Mode} {ops:Array Oper} {Q:Exit->Act->World->Prop} {S:World->Prop} {x:Nat}
theorem aa2:∀ (n:Nat) (l:Array Bool) (a:Act) (w:World),wpE P md ops Q S x n l a w->wpAny P md ops Q n l a w
 | 0,_,_,_,h=>h
 | n+1,_,_,_,h=>⟨h.1,fun i hi=>wpOp_mono (fun a' w' k=>aa2 n _ a' w' k.2) (h.2 i hi)⟩
theorem aa3 {i:Nat} {v:Value} (hi:ops[i]?=some oi) (hs:∀ (j:Nat) (o:Oper) cs b,ops[j]?=some o->o.op≠.select cs b) (hQ:∀ c a w,Q (.panic c) (a.put oi.dst v) w->Q (.panic c) a w) (hx:∀ o,ops[x]?=some o->∃ e∈o.after,Region.binds md e=true/\e.on=i) :
  ∀ (n:Nat) (l:Array Bool) (a:Act) (w:World),(∀ j oj,ops[j]?=some oj->j≠i->l.getD j true=false->(∀ e∈oj.after,Region.binds md e=true->e.on≠i)->oi.apart ops oj=true)->i∈Region.ready md ops l->YieldsIf P ops S oi v a->S w->wpE P md ops Q S x n (l.setIfInBounds i true) (a.put oi.dst v) w->wpE P md ops Q S x (n+1) l a w:=by
 intro n
 induction n with
 | zero=>
  intro l a w _ hr hy hS H;refine ⟨fun e=>(by rw [e] at hr;cases hr),fun j hj=>?_⟩;by_cases e:j=i;{rw [e];exact hy.wpOp hi hS ⟨.inr hS,H⟩};{have k:=ready_mono hj e;rw [H.1] at k;cases k}
 | succ n ih=>
  intro l a w hf hr hy hS H;refine ⟨fun e=>(by rw [e] at hr;cases hr),fun j hj=>?_⟩;by_cases e:j=i;{rw [e];exact hy.wpOp hi hS ⟨.inr hS,H⟩};{
 obtain ⟨ac5,oj,hoj,Bn⟩:=mem_ready.1 hj;have lG:∀ z∈oj.after,Region.binds md z=true->z.on≠i:=fun z hz hb hzi=>by have k1:=Bn z hz hb;have k0:=(mem_ready.1 hr).1;rw [hzi] at k1;by_cases hl:i<l.size;{simp [hl] at k0 k1;rw [k0] at k1;cases k1};{simp [Array.getElem?_eq_none (Nat.le_of_not_lt hl)] at k1}
 have hjx:j≠x:=fun ex=>by subst ex;obtain ⟨z,hz,hb,hzi⟩:=hx oj hoj;exact lG z hz hb hzi
 refine wpOp_mono (fun a' w' k=>?_) (wpOp_putIf hoj (hf j oj hoj e ac5 lG) (fun cs b=>hs i oi cs b hi) (fun cs b=>hs j oj cs b hoj) hQ hy (H.2 j (ready_mono hj e)));have UN:S w':=k.2.1.resolve_left hjx;refine ⟨.inr UN,ih (l.setIfInBounds j true) a' w' (fun k' ok hk hki Kt hn=>hf k' ok hk hki ?_ hn) (ready_mono hr (Ne.symm e)) k.1 UN ?_⟩;{by_cases hjk:j=k';{rw [<-hjk];exact ac5};{rw [getD_set_ne true hjk] at Kt;exact Kt}};{rw [Array.setIfInBounds_comm _ _ e];exact k.2.2}}
theorem aa6 {n:Nat} (h:Q .normal a w) (hr:Region.ready md ops l=[]:=by kernel_rfl):wpE P md ops Q S x n l a w:=by
 cases n with
 | zero=>exact ⟨hr,h⟩
 | succ n=>exact ⟨fun _=>h,by rw [hr];simp⟩
theorem xX (i:Nat) {n:Nat} 
  (h:∀ K':Act->World->Prop,Shut (∀ a w,(i=x\/S w)->((i=x\/S w)->wpE P md ops Q S x n (l.setIfInBounds i true) a w)->K' a w)->if Region.wanted o (yielded ops a.tmps)=true then Oper.wp P o a w K' Q else K' (a.put o.dst undef) w)
  (hi:ops[i]?=some o:=by (simp only [List.getElem?_toArray,List.getElem?_cons_succ,List.getElem?_cons_zero];rfl)) (hr:Region.ready md ops l=[i]:=by kernel_rfl):wpE P md ops Q S x (n+1) l a w:=by
 refine ⟨fun e=>?_,fun j hj=>?_⟩;{rw [hr] at e;cases e};{rw [hr] at hj;obtain rfl:=List.mem_singleton.1 hj;exact wpOp_step hi (fun K' hK=>h K' (fun a w hS hW=>hK a w ⟨hS,hW hS⟩))}
theorem tkE (i:Nat) {v:Value} {n:Nat} {l:Array Bool} {a:Act} (hS:S w)
  (hi:ops[i]?=some oi:=by (simp only [List.getElem?_toArray,List.getElem?_cons_succ,List.getElem?_cons_zero];rfl))
  (hs:Region.noSelect ops=true:=by kernel_rfl) (hf:Region.free md ops l i=true:=by kernel_rfl) (hr:(Region.ready md ops l).contains i=true:=by kernel_rfl)
  (hx:((ops[x]?.map fun o=>o.after.toList.any fun e=>Region.binds md e&&e.on==i).getD false)=true:=by kernel_rfl)
  (hQ:∀ c a w,Q (.panic c) (a.put oi.dst v) w->Q (.panic c) a w:=by exact fun _ _ _ h=>h) (hg:Region.wanted oi (yielded ops a.tmps)=true:=by rfl)
  (hy:∀ w,S w->(execOp a.eval oi).run P w=.ok (.value v) w:=by (intro w' pO;(try dsimp only at pO);go_simp;try with_reducible rfl))
  (h:wpE P md ops Q S x n (l.setIfInBounds i true) (a.put oi.dst v) w):wpE P md ops Q S x (n+1) l a w:=
 aa3 hi (Region.noSelect_spec hs) hQ (fun o ho=>by rw [ho] at hx;simp only [Option.map_some,Option.getD_some,List.any_eq_true,Bool.and_eq_true,beq_iff_eq] at hx;obtain ⟨e,he,h1,h2⟩:=hx;exact ⟨e,by simpa using he,h1,h2⟩) n l a w (Region.free_spec hi hf) (by simpa using hr) (Or.inl ⟨hg,hy⟩) hS h
theorem TL (x:Nat) {id:Nat} (hS:S w.drew) (h:S w.drew->wpE P .any ops Q S x ops.size (Array.replicate ops.size false) a w.drew) (hm:P.follows .mixedOrders=true:=by kernel_rfl):(Code.region id ops true).wp P Q a w:=
 wp_region_any hm (aa2 _ _ _ _ (h hS))
end
theorem aa7 {ops:Array Oper} {K:Act->World->Prop} {Q:Exit->Act->World->Prop} {E:Prop} (r:Nat) (ho:o.op=.buildSlice 25 1 #[(0,.tmp r)]) (jw:o.guard=none) (v0 v1 v2 v3 v4 v5 v6 v7:Value) (hv:a.eval (.tmp r)=.agg #[v0,v1,v2,v3,v4,v5,v6,v7])
  (h:K (a.put o.dst (.slice (some ⟨w.heap.size,0,none⟩) 1 1)) (w.alloc (.cells #[v0,v1,v2,v3,v4,v5,v6,v7] 38))):if Region.wanted o (yielded ops a.tmps)=true then Oper.wp prog o a w K Q else E:=by
 obtain ⟨iN,hiN,zN0,zN1,zN2⟩:=info_parts Tryz.infoNod;have hw:Region.wanted o (yielded ops a.tmps)=true:=by simp [Region.wanted,jw]
 rw [if_pos hw];refine wp_buildSlice 25 38 1 _ ho #[v0,v1,v2,v3,v4,v5,v6,v7] iN _ underlying25 hiN zN0 (by rw [zN1];decide) (by rw [zN1];decide) ?_ h;rw [zN1];simp only [List.map_toArray,List.map_cons,List.map_nil,hv]
 kernel_rfl
theorem JO (cd:List Int) (t:Nat) (hb:bQ cd) (hl:cd.length<=500) (D:SD) (hv:VD D) (he:0<=D.e) (ib:∀ k:Nat,cd.getD t 0 % 22=k->k∈[15]/\¬ (D.ns.length=0\/D.ss.length=0)):∃ D',BD D'/\NJ cd t D D':=by
 have r0:=aV cd hb t;have r1:=aV cd hb (t+1);obtain ⟨x,ex⟩:∃ x,Hid (cd.getD t 0=x):=⟨_,ae rfl⟩;obtain ⟨v,ev⟩:∃ v,Hid (cd.getD (t+1) 0=v):=⟨_,ae rfl⟩;rw [aa ex] at r0;rw [aa ev] at r1;obtain ⟨k,ek,hk⟩:∃ k:Nat,x % 22=k/\k<22:=⟨(x % 22).toNat,by omega,by omega⟩;have cM:=ae (ib k (by rw [aa ex];exact ek));clear ib;obtain ⟨P,bP,lP,dP⟩:=dW cd (t+1+1) hb hl;obtain ⟨n,en⟩:∃ n,Hid (D.ns.length=n):=⟨_,ae rfl⟩;obtain ⟨m,em⟩:∃ m,Hid (D.ss.length=m):=⟨_,ae rfl⟩;have zR:n<=200:=by rw [<-aa en];exact hv.nl
 have Re:m<=50:=by rw [<-aa em];exact hv.sl
 obtain ⟨I,eI,Hu⟩:∃ I:Nat,Hid ((if 0<n then v % n else 0)=(I:Int))/\Hid (0<n->I<n):=by by_cases h:0<n;{have h1:=Int.emod_nonneg v (show (n:Int)≠0 by omega);have h2:=Int.emod_lt_of_pos v (show (0:Int)<n by omega);exact ⟨(v % n).toNat,by show _=_;rw [if_pos h];omega,fun _=>by omega⟩};{exact ⟨0,by show _=_;rw [if_neg h];rfl,fun h'=>absurd h' h⟩}
 obtain ⟨J,eJ,Ht⟩:∃ J:Nat,Hid ((if 0<m then v % m else 0)=(J:Int))/\Hid (0<m->J<m):=by by_cases h:0<m;{have h1:=Int.emod_nonneg v (show (m:Int)≠0 by omega);have h2:=Int.emod_lt_of_pos v (show (0:Int)<m by omega);exact ⟨(v % m).toNat,by show _=_;rw [if_pos h];omega,fun _=>by omega⟩};{exact ⟨0,by show _=_;rw [if_neg h];rfl,fun h'=>absurd h' h⟩}
 obtain ⟨D',mc⟩:∃ D',Hid (aO k v I J P D=D'):=⟨_,ae rfl⟩;refine ⟨D',by rw [<-aa mc];exact jE hv he k r1 I J bP lP,?_⟩;intro g p c w0 w ps cs qs ds Qs h iu hd hS hN;have HP:=ae (ag bP (ag lP dP));have HV:=ae (ag hv he);have Fv:=hd.2.1;obtain ⟨W0,cA,b0,z0,C0⟩:=bg w (.int .u64 D.e) (.int .u64 D.g) (.int .u64 D.x) (.int .i64 D.t) (.slice ps D.ss.length cs) (.slice qs D.ns.length ds);obtain ⟨W1,fP,b1,z1,C1⟩:=bg W0 (.int .u64 0) (.int .u64 0) (.int .u64 0) (.int .i64 0) (.slice none 0 0) (.slice none 0 0);rw [z0] at C1 z1;have bW:=ai b0 b1;have H0:Hid (RA w0 W1 w.heap.size (w.heap.size+1) g p cd c t [.int .u64 D.e,.int .u64 D.g,.int .u64 D.x,.int .i64 D.t,.slice ps m cs,.slice qs n ds]/\de w0.heap.size W1 (.slice ps m cs) D.ss Qs/\jh w0.heap.size W1 (.slice qs n ds) D.ns):=by rw [<-aa en,<-aa em];exact ⟨⟨C0.below b1,C1,h.low bW h.lt,hd.dr (Dr.below bW h.lt),by omega,⟨by omega,by omega⟩,iu⟩,hS.fr (Fr.below (T:=[]) bW) (by decide),aR.fr hN (Fr.below (T:=[]) bW) (by decide)⟩
 obtain ⟨sb,il⟩:=aN w.heap.size;obtain ⟨rb,sV⟩:=aN (w.heap.size+1);rw [sV,il] at H0;have ko:=ae (ag il sV);clear b0 b1 bW z0 z1 C0 C1 hS hN hd h bP lP dP hv he Fv il sV;go_enter func84,ntmps84;go_wp2_with fail;rw [<-cA,<-fP,ko.2,ko.1];rw [aa en,aa em];clear cA fP W0;refine (cY g p cd c t W1 H0.1.fR hb hl).mono ?_;rintro r w1 ⟨rfl,h1,d1⟩;rw [aa ex];have H1:=ae (ag (H0.1.draw h1 d1) (ag (H0.2.1.fr d1.1 (by decide)) (aR.fr H0.2.2 d1.1 (by decide))));clear h1 d1 H0 W1;go_wp2_with fail;refine (cY g p cd c (t+1) w1 H1.1.fR hb hl).mono ?_;rintro r w2 ⟨rfl,h2,d2⟩;rw [aa ev];have H2:=ae (ag (H1.1.draw h2 d2) (ag (H1.2.1.fr d2.1 (by decide)) (aR.fr H1.2.2 d2.1 (by decide))));clear h2 d2 H1 w1 ko;obtain ⟨q0,q1,q2,q3,q4,q5,qf⟩:=H2.1.box.cells
 go_upto_if 17 with fail
 go_cut [7] (fun iv wc=>iv=.int .i64 I/\wc=w2)
 case first =>(
 as_aux_lemma=>
 have e1:=aa eI;by_cases h0:0<n;{
 rw [if_pos h0] at e1;have C8:(0:Int)<(n:Int):=by omega
 have Hx:¬ (n:Int)=0:=by omega
 have E1:=ae e1;clear e1;go_wp2;go_meet
 case rel=>exact ⟨by rw [<-aa E1],rfl⟩}
 {
 rw [if_neg h0] at e1;have n0:n=0:=by omega
 subst n0;have E1:=ae e1;clear e1;go_wp2;go_meet
 case rel=>exact ⟨by rw [<-aa E1],rfl⟩})
 case rest=>
 obtain ⟨rfl,ky⟩:=hcut;rw [ky];clear ky wc
 go_upto_if 26 with fail
 go_cut [8] (fun iv wc=>iv=.int .i64 J/\wc=w2)
 case first =>(
 as_aux_lemma=>
 have e1:=aa eJ;by_cases h0:0<m;{
 rw [if_pos h0] at e1;have C8:(0:Int)<(m:Int):=by omega
 have Hx:¬ (m:Int)=0:=by omega
 have E1:=ae e1;clear e1;go_wp2;go_meet
 case rel=>exact ⟨by rw [<-aa E1],rfl⟩}
 {
 rw [if_neg h0] at e1;have n0:m=0:=by omega
 subst n0;have E1:=ae e1;clear e1;go_wp2;go_meet
 case rel=>exact ⟨by rw [<-aa E1],rfl⟩})
 case rest=>
 obtain ⟨rfl,ky⟩:=hcut;rw [ky];clear ky wc
 go_upto_if 33 with fail
 go_cut [] (fun wc=>Hid (jS w0 wc sb rb g p cd c D'))
 case rest =>(
 as_aux_lemma=>
 obtain ⟨t9,p9,c9,q9,d9,R9,S9⟩:=aa hcut;clear q0 q1 q2 q3 q4 q5 qf H2;obtain ⟨Z,hZ⟩:=ar (aP wc rb (.int .u64 D'.e) (.int .u64 D'.g) (.int .u64 D'.x) (.int .i64 D'.t) (.slice p9 D'.ss.length c9) (.slice q9 D'.ns.length d9));have HZ:=ae (R9.fin hZ);have HS:=ae S9;obtain ⟨q0,q1,q2,q3,q4,q5,qf⟩:=R9.box.cells;obtain ⟨u0,u1,u2,u3,u4,u5,uf⟩:=R9.res.cells;clear R9 S9 hcut;unfold aP at hZ;go_wp2;rw [<-hZ];clear hZ q0 q1 q2 q3 q4 q5 qf u0 u1 u2 u3 u4 u5 uf;obtain ⟨s0,s1,s2,s3,s4,s5,sf⟩:=HZ.1.cells;refine bodyPost_ret (v:=cK D'.e D'.g D'.x D'.t (.slice p9 D'.ss.length c9) (.slice q9 D'.ns.length d9)) (by simp [results,results84,go_sem,s0,s1,s2,s3,s4,s5]) rfl ?_;exact ⟨_,_,_,_,rfl,fun w3 hk=>aa HS w3 (Kx.pre HZ.2.1 hk),HZ.2.2.2⟩)
 case first =>(
 have c9:k<22:=hk;by_cases Hb:k<4;{
 have:k=0\/k=1\/k=2\/k=3:=by omega
 rcases this with rfl | rfl | rfl | rfl;{exact absurd cM.1 (by decide)};{exact absurd cM.1 (by decide)};{exact absurd cM.1 (by decide)};{exact absurd cM.1 (by decide)}};{
 by_cases bq:n=0\/m=0;{
 have dK:D.ns.length=0\/D.ss.length=0:=by rw [aa en,aa em];exact bq
 have c0:k≠0:=by omega
 have c1:k≠1:=by omega
 have c2:k≠2:=by omega
 have c3:k≠3:=by omega
 exact absurd dK cM.2};{
 have dK:¬ (D.ns.length=0\/D.ss.length=0):=by rw [aa en,aa em];exact bq
 have hI:I<n:=aa Hu (by omega);have hJ:J<m:=aa Ht (by omega);have U6:(I:Int)<(n:Int):=by omega
 have U4:(J:Int)<(m:Int):=by omega
 have Fh:((n:Int)==0)=false:=by simp;omega
 have ur:((m:Int)==0)=false:=by simp;omega
 obtain ⟨nd,aK⟩:∃ nd,D.ns[I]?=some nd:=⟨_,aE (by rw [aa en];exact hI)⟩;obtain ⟨s,hs⟩:∃ s,D.ss[J]?=some s:=⟨_,aE (by rw [aa em];exact hJ)⟩;obtain ⟨gn,P0,V0,Ww,U0,rfl,-,-,n0,n1,n2,n3,n4,n5,n6,n7,tP,tV,tH,tU,nf⟩:=aR.at H2.2.2 aK;obtain ⟨gs,Q0,rfl,-,-,hQ,s0,s1,s2,sQ,sf⟩:=de.at H2.2.1 hs;have jM:Hid (w0.heap.size<=gs):=(H2.2.1.row.lt gs rfl).1;have pM:Hid (w0.heap.size<=gn):=(H2.2.2.lt gn rfl).1;have TT:=ae (ag tP (ag tV (ag tH (ag tU (ag hQ sQ)))));have kM:=ae aK;have xv:=ae hs;clear tP tV tH tU hQ sQ;have:k=4\/k=5\/k=6\/k=7\/k=8\/k=9\/k=10\/k=11\/k=12\/k=13\/k=14\/k=15\/k=16\/k=17\/k=18\/k=19\/k=20\/k=21:=by omega
 clear bq c9 hk Hb;rcases this with rfl | rfl | rfl | rfl | rfl | rfl | rfl | rfl | rfl | rfl | rfl | rfl | rfl | rfl | rfl | rfl | rfl | rfl;{exact absurd cM.1 (by decide)};{exact absurd cM.1 (by decide)};{exact absurd cM.1 (by decide)};{exact absurd cM.1 (by decide)};{exact absurd cM.1 (by decide)};{exact absurd cM.1 (by decide)};{exact absurd cM.1 (by decide)};{exact absurd cM.1 (by decide)};{exact absurd cM.1 (by decide)};{exact absurd cM.1 (by decide)};{exact absurd cM.1 (by decide)};{
 as_aux_lemma=>
  have e:=aa mc;rw [show aO 15 v I J P D=(⟨D.e,D.g,D.x,D.t,D.ss,D.ns++[nd]⟩:SD) by unfold aO;rw [if_neg (by decide),if_neg (by decide),if_neg (by decide),if_neg (by decide),if_neg dK,if_neg (by decide),if_neg (by decide),if_neg (by decide),if_neg (by decide),if_neg (by decide),if_neg (by decide),if_neg (by decide),if_neg (by decide),if_neg (by decide),if_neg (by decide),if_neg (by decide),if_pos rfl];unfold YN;rw [aK]] at e;subst e;have Ag:Hid (nd.path.length<=1048576/\nd.value.length<=1048576/\nd.holders.length<=1048576/\nd.watchers.length<=1048576):=by have a:=(HV.1.bd HV.2).n nd (aF (aa kM));exact ⟨by omega,by omega,by omega,by omega⟩
  go_wp2_with fail;obtain ⟨vA,bM⟩:=ar w2.drew;have bA:Below w2.heap.size w2 vA:=by rw [bM];exact ay.drew
  have HA:=ae (ag (H2.1.below bA) (ag (H2.2.1.fr (Fr.below (T:=[]) bA) (by decide)) (aR.fr H2.2.2 (Fr.below (T:=[]) bA) (by decide))));refine wp_region_noPanic ?_;refine TL 11 (S:=fun w'=>w'.cell? ⟨sb,5,none⟩=some (.slice (some ⟨gn,0,none⟩) n ds)) (by rw [<-bM];exact HA.1.box.cells.2.2.2.2.2.1) (fun hS=>?_);rw [<-bM] at hS ⊢;clear bM bA q0 q1 q2 q3 q4 q5 qf s0 s1 s2 sf n0 n1 n2 n3 n4 n5 n6 n7 nf;obtain ⟨Da,P1,V1,H1,U1,eg,-,-,n0,n1,n2,n3,n4,n5,n6,n7,tP,tV,tH,tU,nf⟩:=aR.at HA.2.2 kM;simp only [Option.some.injEq,Addr.mk.injEq,and_true] at eg;subst eg;obtain ⟨pP,cP,rfl⟩:=tP.ew;obtain ⟨pV,cV,rfl⟩:=tV.ew;obtain ⟨pH,cH,rfl⟩:=tH.ew;obtain ⟨pU,cU,rfl⟩:=tU.ew;have T6:=ae (ag tP.1 (ag tV.1 (ag tH.1 tU.1)));have NN6:=ae (ag n0 (ag n1 (ag n2 (ag n3 (ag n4 (ag n5 (ag n6 (ag n7 nf))))))));clear n0 n1 n2 n3 n4 n5 n6 n7 nf tP tV tH tU;refine tkE 0 hS (h:=?_);simp only [Act.put,xa,xb,xc];refine tkE 1 hS (h:=?_);simp only [Act.put,xa,xb,xc];refine tkE 2 hS (h:=?_);simp only [Act.put,xa,xb,xc];refine tkE 3 hS (h:=?_);simp only [Act.put,xa,xb,xc];refine tkE 4 hS (h:=?_);simp only [Act.put,xa,xb,xc];refine tkE 5 hS (h:=?_);simp only [Act.put,xa,xb,xc];refine xX 6 (fun KK hK=>?_);obtain ⟨n0,n1,n2,n3,n4,n5,n6,n7,nf⟩:=aa NN6;go_simp;refine hK.out _ _ (.inr HA.1.box.cells.2.2.2.2.2.1) (fun hS=>?_);clear hS hK KK n0 n1 n2 n3 n4 n5 n6 n7 nf
  (try simp only [Act.put,xa,xb,xc])
  refine xX 7 (fun KK hK=>?_);refine fw (ka nd pP pV pH pU cP cV cH cU _ _ _ _ (ae rfl) (ae rfl) (ae rfl) (ae rfl) vA T6.1 T6.2.1 T6.2.2.1 T6.2.2.2 Ag.1 Ag.2.1 Ag.2.2.1 Ag.2.2.2) ?_;rintro r v1 ⟨a0,b0,a1,b1,a4,b4,a7,b7,rfl,t0,t1,t4,t7,bb⟩;refine ⟨_,rfl,?_⟩;have HB:=ae (ag (HA.1.below bb) (ag (HA.2.1.fr (Fr.below (T:=[]) bb) (by decide)) (aR.fr HA.2.2 (Fr.below (T:=[]) bb) (by decide))));have TZ:=ae (ag t0 (ag t1 (ag (t4.mono (B':=w0.heap.size) HA.1.dr.2.1) (t7.mono (B':=w0.heap.size) HA.1.dr.2.1))));refine hK.out _ _ (.inr HB.1.box.cells.2.2.2.2.2.1) (fun hS=>?_);clear hS hK KK t0 t1 t4 t7 bb
  (try simp only [Act.put,xa,xb,xc])
  refine xX 8 (fun KK hK=>?_);refine aa7 _ (by rfl) (by rfl) _ _ _ _ _ _ _ _ (by rfl) ?_;obtain ⟨v2,fM,b2,z2,CY,-⟩:=aj v1 #[.slice a0 nd.path.length b0,.slice a1 nd.value.length b1,.int .u64 nd.owner,.int .i64 nd.mode,.slice a4 nd.holders.length b4,.int .u64 nd.aD,.int .u64 nd.gen,.slice a7 nd.watchers.length b7] 38;rw [<-fM];have HC:=ae (ag (HB.1.below b2) (ag (HB.2.1.fr (Fr.below (T:=[]) b2) (by decide)) (aR.fr HB.2.2 (Fr.below (T:=[]) b2) (by decide))));have T8:=ae (show fD w0.heap.size v2 nd [.slice a0 nd.path.length b0,.slice a1 nd.value.length b1,.int .u64 nd.owner,.int .i64 nd.mode,.slice a4 nd.holders.length b4,.int .u64 nd.aD,.int .u64 nd.gen,.slice a7 nd.watchers.length b7] from ⟨_,_,_,_,rfl,TZ.1.fr (Fr.below (T:=[]) b2) (by decide),TZ.2.1.fr (Fr.below (T:=[]) b2) (by decide),TZ.2.2.1.fr (Fr.below (T:=[]) b2) (by decide),TZ.2.2.2.fr (Fr.below (T:=[]) b2) (by decide)⟩);have qz:=ae CY.1;refine hK.out _ _ (.inr HC.1.box.cells.2.2.2.2.2.1) (fun hS=>?_);clear hS hK KK fM CY b2 z2
  (try simp only [Act.put,xa,xb,xc])
  obtain ⟨iN,hiN,zN0,zN1,zN2⟩:=info_parts Tryz.infoNod;refine xX 9 (fun KK hK=>?_);refine cO (by rfl) _ _ 25 (by rfl) w0.heap.size 38 iN _ 8 128 underlying25 hiN zN0 zN1 zN2 rfl (by decide) (.slice (some ⟨gn,0,none⟩) n ds) D.ns n en (by rfl) HC.2.2 v1.heap.size nd [.slice a0 nd.path.length b0,.slice a1 nd.value.length b1,.int .u64 nd.owner,.int .i64 nd.mode,.slice a4 nd.holders.length b4,.int .u64 nd.aD,.int .u64 nd.gen,.slice a7 nd.watchers.length b7] (by rfl) (aa T8) rfl (fun j u hu=>(aa qz) j u hu) (fun u hu=>by simp at hu;rcases hu with rfl | rfl | rfl | rfl | rfl | rfl | rfl | rfl<;>rfl) (fun w' hf=>fD.fr hf (by decide) (by decide)) (by omega) (by omega) HC.1.dr.2.1 ?_;intro p' c' w9 qJ cT f9 _;have B9:Below w0.heap.size v2 w9:=⟨cT.os,cT.tape,cT.output,cT.size,fun b hb=>cT.block b (by have:=HC.1.dr.2.1;omega) (fun e=>by simp only [Value.ownBlock,Option.some.injEq] at e;have:=aa pM;omega)⟩
  have HD:=ae (ag (HC.1.fr f9 (by decide) B9) (ag (HC.2.1.fr f9 (by decide)) qJ));refine hK.out _ _ (.inr HD.1.box.cells.2.2.2.2.2.1) (fun hS=>?_);replace hS:=hS.resolve_left (by decide);clear hK KK qJ cT f9 B9
  (try simp only [Act.put,xa,xb,xc])
  refine tkE 10 hS (h:=?_);simp only [Act.put,xa,xb,xc];refine xX 11 (fun KK hK=>?_);obtain ⟨q0,q1,q2,q3,q4,q5,qf⟩:=HD.1.box.cells;have HZ:=ae (HD.1.set 5 (by simp) (.slice p' (n+1) c'));obtain ⟨Z,hZ⟩:=ar (w9.setCell ⟨sb,5,none⟩ (.slice p' (n+1) c'));rw [<-hZ] at HZ;have HW:=ae (ag (HD.2.1.fr HZ.2 (by decide)) (aR.fr HD.2.2 HZ.2 (by decide)));go_simp;rw [<-hZ];refine hK.out _ _ (.inl rfl) (fun hS=>?_);clear hK KK q0 q1 q2 q3 q4 q5 qf hZ;refine aa6 ?_;refine aX ?_;clear hS;go_wp2;go_meet
  case rel=>exact jS.sp (D:=(⟨D.e,D.g,D.x,D.t,D.ss,D.ns++[nd]⟩:SD)) HZ.1 HW.1 HW.2}
 {exact absurd cM.1 (by decide)};{exact absurd cM.1 (by decide)};{exact absurd cM.1 (by decide)};{exact absurd cM.1 (by decide)};{exact absurd cM.1 (by decide)};{exact absurd cM.1 (by decide)}}})
end Go.Proofs.YtcfcafeciggjeaaGreatDoor
