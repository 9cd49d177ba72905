import Derived.Test.YtcfcafeciggjeaaGreatDoorK22
import Derived.Test.YtcfcafeciggjeaaGreatDoorK28
namespace Go.Proofs.YtcfcafeciggjeaaGreatDoor
set_option maxHeartbeats 6400000
set_option linter.unusedVariables false
set_option linter.unusedSimpArgs false
set_option maxRecDepth 100000
open Go.ChangeShapes Go.WideShapes Go.ChangeAt Go.RowKit Go.Maps Go.Proofs.Tryz
variable {B b bn bs g hh i k uu:Nat} {D:SD} {L:List Nat} {cs:Array Value} {es:List Ev} {id:Int} {ls:List (List Value)} {nd nd':aA} {s:List Int} {ss:List aL} {ty:TypeId} {v:Value} {w w' w0:World}
theorem Ee (n:Nat) (w:World) (hn:n<=2097152) :
  Calls prog 264 #[.slice none 0 0,.int .i64 n] w fun e w'=>∃ p' c',e=.returned (.slice p' 0 c')/\w'.ownsRow w.heap.size 49 2 (.slice p' 0 c') 0 []/\Below w.heap.size w w':=by
 obtain ⟨i,hi,mX,ik,jv⟩:=info_parts Tryz.infoEv;by_cases h:n=0;{subst h;go_enter func264,ntmps264;go_wp2;go_ret;exact ⟨none,0,rfl,World.ownsRow_nil _ _ _ _,Below.refl _ _⟩};{
 have hp:(0:Int)<(n:Int):=by omega
 have hr:=Lib.run_append_nil_zeros (P:=prog) w 33 3 33 49 i (.agg #[.int .i64 0,.slice none 0 0]) .i64 .i64 underlying33 underlying3 hi mX n (by omega) (by omega) (by omega) (by rw [jv];omega);have HR:=ae hr;have nS:=grownCap_ge w n 0 49;have wN:=grownCap_le_maxLen w n 0 49 (by unfold maxLen;omega);generalize grownCap w n 0 49=cc at HR nS wN;go_enter func264,ntmps264;go_wp2_with (at_builtin;refine Lib.wpList_append_run _ rfl _ _ _ _ rfl _ _ rfl rfl _ _ (by exact HR) ?_);unfold maxLen at wN;go_wp2;go_ret;have hs:(Builtin.zeroCells #[Value.int IntKind.i64 0,Value.slice none 0 0] n++Builtin.zeroCells #[Value.int IntKind.i64 0,Value.slice none 0 0] (cc-n)).size=cc*2:=by rw [Array.size_append,size_zeroCells,size_zeroCells];simp;omega
 exact ⟨_,cc,rfl,World.ownsRow_made (base:=w.heap.size) (e:=49) (size:=2) w _ cc ax (by unfold maxLen;omega) hs,(ay.alloc ax _).drew⟩}
def Wc (ls:List (List Value)) (N:Nat):Prop:=ls.flatten.length=N*2
def tA (w:World) (g:Nat) (vs:List Value) (ls:List (List Value)):Prop:=vs.length=ls.length/\∀ j v l,vs[j]?=some v->ls[j]?=some l->w.cell? ⟨g,j,none⟩=some v/\(∀ u∈l,u.oneCell'=true)/\∃ n p c,l.length=n*2/\v=.slice p n c/\(l=[]\/∃ a,p=some a/\∀ i u,l[i]?=some u->w.cell? (a.add i)=some u)
theorem tA.below {vs:List Value} (h:tA w g vs ls) (hb:Below w.heap.size w w'):tA w' g vs ls:=by
 refine ⟨h.1,fun j v l e1 e2=>?_⟩;obtain ⟨h1,h2,n,p,c,h3,h4,h5⟩:=h.2 j v l e1 e2;refine ⟨af h1 hb,h2,n,p,c,h3,h4,h5.imp id fun ⟨a,ea,ha⟩=>⟨a,ea,fun i u hu=>?_⟩⟩;have hc:=ha i u hu;exact (hb.cell (p:=a.add i) (World.block_lt_of_cell? w _ hc)).trans hc
theorem sT {l:List Value} (h:ls[k]?=some l):(ls.take (k+1)).flatten=(ls.take k).flatten++l:=by
 rw [List.take_add_one,h,List.flatten_append];simp
theorem pB (ls:List (List Value)) (k:Nat):(ls.take k).flatten.length<=ls.flatten.length:=by
 have e:ls.flatten=(ls.take k).flatten++(ls.drop k).flatten:=by rw [<-List.flatten_append,List.take_append_drop]
 rw [e,List.length_append];omega
theorem yY (g:Nat) (vs:List Value) (ls:List (List Value)) (w:World) (h:tA w g vs ls) (hl:ls.flatten.length<=2097152) (hk:ls.length<=1000) :
  Calls prog 263 #[.slice (some ⟨g,0,none⟩) ls.length ls.length] w fun e w'=>∃ N p' c',e=.returned (.slice p' N c')/\Wc ls N/\w'.ownsRow w.heap.size 49 2 (.slice p' N c') N ls.flatten/\Below w.heap.size w w':=by
 obtain ⟨i,hi,mX,ik,jv⟩:=info_parts Tryz.infoEv;have HI:=ae (ag hi (ag mX (ag ik jv)));have HH:=ae fun (w':World) (hb:Below w.heap.size w w')=>h.below hb;obtain ⟨nn,Qc⟩:∃ nn,Hid (ls.length=nn):=⟨_,ae rfl⟩;rw [aa Qc] at hk ⊢;go_enter func263,ntmps263;go_wp2
 go_loopw [3,11] (fun s i wr=>∃ k N:Nat,k<=nn/\i=.int .i64 k/\s=.int .i64 N/\Hid ((ls.take k).flatten.length=N*2)/\wr=w) (fun _ i _=>nn-(intOf i).toNat)
 case atStart=>exact ⟨0,0,Nat.zero_le _,rfl,rfl,(by show _=_;simp),rfl⟩
 case round =>(
 obtain ⟨k,N,oe,rfl,rfl,hN,rfl⟩:=hrel;have Hi:=pB ls k;rw [aa hN] at Hi;by_cases br:k<nn;{
 have bt:(k:Int)<(nn:Int):=by omega
 obtain ⟨l,e1⟩:∃ l,ls[k]?=some l:=⟨_,aE (by rw [aa Qc];exact br)⟩;obtain ⟨Jj,vh⟩:=aa HH _ ay;obtain ⟨v,e2⟩:∃ v,vs[k]?=some v:=⟨_,aE (by rw [Jj,aa Qc];exact br)⟩;obtain ⟨c1,-,n,p,c,h3,rfl,-⟩:=vh k v l e2 e1;have cF:=sT e1;have E1:=ae (by rw [cF,List.length_append,aa hN,h3];omega:(ls.take (k+1)).flatten.length=(N+n)*2);have Hh:=pB ls (k+1);rw [aa E1] at Hh;go_wp2;go_roundw
 case rel=>exact ⟨k+1,N+n,by omega,by go_num,by go_num,E1,by first | rfl | trivial⟩
 case measure=>simp [intOf];omega}
 {
 have ek:k=nn:=by omega
 subst ek;have bt:¬ (k:Int)<(k:Int):=by omega
 have e9:=aa hN;rw [List.take_of_length_le (by rw [aa Qc];omega)] at e9;have E9:=ae e9;go_wp2_with fail;obtain ⟨wo,rfl⟩:=ar wr;refine (Ee N wo (by omega)).mono ?_;rintro e w1 ⟨p1,c1,rfl,o1,bf⟩;have O1:=ae o1;have B1:=ae bf;go_wp2
 go_loopw [6,27] (fun v i w2=>∃ (j M:Nat) (po:Option Addr) (co:Nat),j<=k/\i=.int .i64 j/\v=.slice po M co/\Hid ((ls.take j).flatten.length=M*2)/\Hid (w2.ownsRow wo.heap.size 49 2 (.slice po M co) M (ls.take j).flatten)/\Hid (Below wo.heap.size wo w2)) (fun _ i _=>k-(intOf i).toNat)
 case atStart=>exact ⟨0,0,p1,c1,Nat.zero_le _,rfl,rfl,(by show _=_;simp),by simpa using O1,B1⟩
 case round =>(
 obtain ⟨j,M,po,co,hj,rfl,rfl,hM,ho,aS⟩:=hrel;have ab6:=pB ls j;rw [aa hM] at ab6;have z2:=aS.size;by_cases Ea:j<k;{
 have Uf:(j:Int)<(k:Int):=by omega
 obtain ⟨l,e1⟩:∃ l,ls[j]?=some l:=⟨_,aE (by rw [aa Qc];exact Ea)⟩;obtain ⟨Jj,vh⟩:=aa HH _ aS;obtain ⟨v,e2⟩:∃ v,vs[j]?=some v:=⟨_,aE (by rw [Jj,aa Qc];exact Ea)⟩;obtain ⟨c2,GS,n,p,c,h3,rfl,gw⟩:=vh j v l e2 e1;have cF:=sT e1;have E1:=ae (by rw [cF,List.length_append,aa hM,h3];omega:(ls.take (j+1)).flatten.length=(M+n)*2);have Hh:=pB ls (j+1);rw [aa E1] at Hh;have HS:=ae cF;have H3:=ae h3;have HO:=ae GS;cases p with
 | none=>
  have el:l=[]:=gw.resolve_right (fun ⟨a,ea,_⟩=>by cases ea);subst el;have en0:n=0:=by have:=aa H3;simp at this;omega
  subst en0;have HA:=ae (dx (P:=prog) wr wo.heap.size 33 33 49 i 2 underlying33 HI.1 _ _ _ c ho);go_wp2_with (at_builtin;refine Lib.wpList_append_run _ rfl _ _ _ _ rfl _ _ rfl rfl _ _ (by exact HA) ?_);go_roundw
  case rel=>exact ⟨j+1,M,po,co,by omega,by go_num,rfl,by simpa using E1,(by show World.ownsRow _ _ _ _ _ _ _;rw [aa HS];simpa using aa ho),aS⟩
  case measure=>simp [intOf];omega
 | some ad=>
  have tQ:∀ (jj:Nat) (u:Value),l[jj]?=some u->wr.cell? (ad.add jj)=some u:=by rcases gw with rfl | ⟨a,ea,ha⟩;{intro jj u hu;simp at hu};{cases ea;exact ha}
  go_wp2_with (at_builtin;refine wpList_append_own _ rfl _ _ 33 rfl wo.heap.size 49 i _ 2 32 underlying33 HI.1 HI.2.1 HI.2.2.1 HI.2.2.2 rfl (by decide) _ _ _ rfl ho ad n c l rfl H3 tQ HO (by unfold maxLen;omega) (by omega) aS.size ?_);intro v' w3 bj hg _;have b3:=ae (aS.grown hg aS.size (fun k hk=>(World.ownsRow.lt ho k hk).1));obtain ⟨p',c',rfl⟩:∃ p' c',v'=.slice p' (M+n) c':=by rcases bj.2 with ⟨rfl,h0⟩ | ⟨g',cap,cur,rfl,-⟩;{exact ⟨none,0,by rw [h0]⟩};{exact ⟨_,_,rfl⟩}
  have HW:=ae bj;go_wp2;go_roundw
  case rel=>exact ⟨j+1,M+n,p',c',by omega,by go_num,rfl,E1,(by show World.ownsRow _ _ _ _ _ _ _;rw [aa HS];exact aa HW),b3⟩
  case measure=>simp [intOf];omega}
 {
 have ej:j=k:=by omega
 subst ej;have Uf:¬ (j:Int)<(j:Int):=by omega
 have e8:=aa ho;have e7:=aa hM;rw [List.take_of_length_le (by rw [aa Qc];omega)] at e8 e7;have HE:=ae (ag e8 e7);go_wp2;go_ret;exact ⟨M,po,co,rfl,HE.2,HE.1,aS⟩})})
def Qi (w0 w:World) (e:Ev) (c:List Value):Prop:=∃ P,c=[.int .i64 e.1,P]/\AB w0 w P e.2/\fV P
theorem Qi.fr {T:List TypeId} (hf:Fr T w w') (ht:5∉T) (e:Ev) (c:List Value) (h:Qi w0 w e c):Qi w0 w' e c:=by
 obtain ⟨P,h1,h2,h3⟩:=h;exact ⟨P,h1,h2.fr hf ht,h3⟩
theorem Nc {cs:List (List Value)} (h2:∀ c∈cs,c.length=2):cs.flatten.length=cs.length*2:=by
 induction cs with
 | nil=>rfl
 | cons c r ih=>rw [List.flatten_cons,List.length_append,h2 c (by simp),ih (fun d hd=>h2 d (by simp [hd])),List.length_cons];omega
theorem AQ.cells {p:Option Addr} {n c:Nat} (h:AQ w0 w (.slice p n c) es):n=es.length/\∃ cs:List (List Value),cs.length=es.length/\(∀ c∈cs,c.length=2)/\(∀ (i:Nat) (e:Ev) (c:List Value),es[i]?=some e->cs[i]?=some c->Qi w0 w e c)/\(cs.flatten=[]\/∃ a,p=some a/\∀ i u,cs.flatten[i]?=some u->w.cell? (a.add i)=some u):=by
 obtain ⟨p',c',e,h⟩:=h;simp only [Value.slice.injEq] at e;obtain ⟨rfl,en,rfl⟩:=e;refine ⟨en,?_⟩;rcases h with rfl | ⟨b,o,rfl,-,h⟩;{exact ⟨[],rfl,fun c hc=>by simp at hc,fun i e c he=>by simp at he,.inl rfl⟩};{
 have key:∀ (es:List Ev) (o:Nat),(∀ i e,es[i]?=some e->w.cell? ⟨b,o+i*2,none⟩=some (.int .i64 e.1)/\∃ u,w.cell? ⟨b,o+i*2+1,none⟩=some u/\AB w0 w u e.2/\fV u)->∃ cs:List (List Value),cs.length=es.length/\(∀ c∈cs,c.length=2)/\(∀ (i:Nat) (e:Ev) (c:List Value),es[i]?=some e->cs[i]?=some c->Qi w0 w e c)/\∀ i u,cs.flatten[i]?=some u->w.cell? ⟨b,o+i,none⟩=some u:=by
  intro es
  induction es with
  | nil=>intro o h;exact ⟨[],rfl,fun c hc=>by simp at hc,fun i e c he=>by simp at he,fun i u hu=>by simp at hu⟩
  | cons e r ih=>
   intro o h;obtain ⟨cs,h1,h2,h3,h4⟩:=ih (o+2) (fun i e he=>by have:=h (i+1) e (by simpa using he);rw [show o+(i+1)*2=o+2+i*2 by omega] at this;exact this)
   obtain ⟨k0,u,k1,k2,k3⟩:=h 0 e rfl;refine ⟨[.int .i64 e.1,u]::cs,by simp [h1],fun c hc=>?_,fun i e' c he hc=>?_,fun i v hv=>?_⟩;{
 rcases List.mem_cons.1 hc with rfl | hc;{rfl}
 {exact h2 c hc}};{
 cases i with
 | zero=>simp at he hc;subst he hc;exact ⟨u,rfl,k2,k3⟩
 | succ i=>exact h3 i e' c (by simpa using he) (by simpa using hc)}
   {
 match i,hv with
 | 0,hv=>simp at hv;subst hv;simpa using k0
 | 1,hv=>simp at hv;subst hv;simpa using k1
 | i+2,hv=>
  have:=h4 i v (by simpa using hv);rw [show o+(i+2)=o+2+i by omega];exact this}
 obtain ⟨cs,h1,h2,h3,h4⟩:=key es o h;exact ⟨cs,h1,h2,h3,.inr ⟨_,rfl,fun i u hu=>by rw [Addr.add_lit];exact h4 i u hu⟩⟩}
theorem AQ.Y9 (h:RT (Qi w0) 49 2 B w v es):AQ w0 w v es:=by
 obtain ⟨p,c,rfl,-,-,hp⟩:=RT.form h;refine ⟨p,c,rfl,?_⟩;by_cases h0:es=[];{exact .inl h0};{obtain ⟨g,rfl⟩:=hp (List.length_pos_iff.2 h0);obtain ⟨cur,hc⟩:=h.gS g rfl;refine .inr ⟨g,0,rfl,.inr ⟨cur,_,hc⟩,fun i e he=>?_⟩;obtain ⟨cs,-,⟨P,rfl,h1,h2⟩,iH,-⟩:=RT.at h he;rw [Nat.zero_add];exact ⟨iH 0 _ rfl,P,iH 1 _ rfl,h1,h2⟩}
theorem Gm {s:aL} (h:PE w0 w g s):∃ pq cq,w.heap[g]?=some (.cells #[.int .u64 s.1,.int .i64 s.2.1,.slice pq s.2.2.length cq] 35)/\AQ w0 w (.slice pq s.2.2.length cq) s.2.2/\(∀ o,w.frozen? ⟨g,o,none⟩=false):=by
 obtain ⟨-,u,h1,h2⟩:=h;obtain ⟨p,c,rfl,h3⟩:=id h2;exact ⟨p,c,h1,h2,fun o=>by simp [World.frozen?,h1]⟩
theorem yL {w5:World} {s:aL} {v':Value} {q':List Ev} (be:Below w0.heap.size w0 w) (hE:PE w0 w g s) (hb:Below w.heap.size w w5) (hq:AQ w0 w5 v' q'):One w0 w (w5.setCell ⟨g,2,none⟩ v') g/\PE w0 (w5.setCell ⟨g,2,none⟩ v') g (s.1,s.2.1,q'):=by
 obtain ⟨h0,u,h1,h2⟩:=hE;have h5:=(hb.block g (aI h1)).trans h1;have f:Fr [35] w5 (w5.setCell ⟨g,2,none⟩ v'):=Fr.set h5 (by simp);have cL:Below w0.heap.size w5 (w5.setCell ⟨g,2,none⟩ v'):=ay.setCell (p:=⟨g,2,none⟩) h0 _;refine ⟨⟨(hb.mono be.size).trans cL,fun z hz bq=>(dt _ _ _ _ bq).trans (hb.block z hz),fun cur ty m hc=>?_⟩,h0,v',by simp [World.setCell,Array.getElem?_modify,h5],hq.fr cL f (by decide)⟩;rw [h1] at hc;simp at hc;simp [<-hc.2.1]
theorem Di {z:Nat} {pq pe:Option Addr} {nq cq ge:Nat} {ev:Ev} {Pv:Value} (hQ:AQ w0 w (.slice pq nq cq) es) (hv:AB w0 w Pv ev.2) (hc:fV Pv) (hn:nq<=1000) (h0:w.cell? ⟨z,0,none⟩=some (.slice pq nq cq)) (h1:w.cell? ⟨z,1,none⟩=some (.slice (some ⟨ge,0,none⟩) 1 1)) (k0:w.cell? ⟨ge,0,none⟩=some (.int .i64 ev.1)) (k1:w.cell? ⟨ge,1,none⟩=some Pv) :
  Calls prog 263 #[.slice (some ⟨z,0,none⟩) 2 2] w fun r w'=>∃ p' c',r=.returned (.slice p' (nq+1) c')/\AQ w0 w' (.slice p' (nq+1) c') (es++[ev])/\Below w.heap.size w w':=by
 obtain ⟨en,cs,g1,g2,g3,g4⟩:=hQ.cells;have GS:Pv.oneCell'=true:=by
  obtain ⟨_,_,_,rfl,-⟩:=hc
  rfl
 have hf:=Nc g2;have hPE:tA w z [.slice pq nq cq,.slice (some ⟨ge,0,none⟩) 1 1] [cs.flatten,[.int .i64 ev.1,Pv]]:=by
  refine ⟨rfl,fun j v l e1 e2=>?_⟩
  match j,e1,e2 with
  | 0,e1,e2=>
   simp at e1 e2;subst e1 e2;refine ⟨h0,fun u hu=>?_,nq,pq,cq,by rw [hf,g1,en],rfl,g4⟩;obtain ⟨l,hl,hul⟩:=List.mem_flatten.1 hu;obtain ⟨i,hi⟩:=List.mem_iff_getElem?.1 hl;obtain ⟨e,he⟩:∃ e,es[i]?=some e:=⟨_,aE (by rw [<-g1];exact (aJ.1 hi).1)⟩;obtain ⟨P,rfl,-,⟨_,_,_,rfl,-⟩⟩:=g3 i e l he hi;simp at hul;rcases hul with rfl | rfl<;>rfl
  | 1,e1,e2=>
   simp at e1 e2;subst e1 e2;refine ⟨h1,fun u hu=>?_,1,some ⟨ge,0,none⟩,1,rfl,rfl,.inr ⟨_,rfl,fun i u hu=>?_⟩⟩;{
 simp at hu;rcases hu with rfl | rfl;{rfl}
 {exact GS}};{
 rw [Addr.add_lit,Nat.zero_add]
 match i,hu with
 | 0,hu=>simp at hu;subst hu;exact k0
 | 1,hu=>simp at hu;subst hu;exact k1}
 have Hi:([cs.flatten,[.int .i64 ev.1,Pv]]:List (List Value)).flatten=(cs++[[.int .i64 ev.1,Pv]]).flatten:=by simp
 have hlen:([cs.flatten,[.int .i64 ev.1,Pv]]:List (List Value)).flatten.length=(nq+1)*2:=by
  rw [Hi,Nc (fun c hc=>by rcases List.mem_append.1 hc with hc | hc;{exact g2 c hc};{simp at hc;subst hc;rfl}),List.length_append,g1,<-en]
  rfl
 refine (yY z [.slice pq nq cq,.slice (some ⟨ge,0,none⟩) 1 1] [cs.flatten,[.int .i64 ev.1,Pv]] w hPE (by rw [hlen];omega) (by simp)).mono ?_;rintro r w' ⟨N,p',c',rfl,hN,ho,hb⟩;have eN:N=nq+1:=by unfold Wc at hN;rw [hlen] at hN;omega
 subst eN;refine ⟨p',c',rfl,AQ.Y9 (B:=w.heap.size) ⟨cs++[[.int .i64 ev.1,Pv]],by simp [g1],fun c hc=>?_,?_,fun i y c hy iH=>?_⟩,hb⟩;{rcases List.mem_append.1 hc with hc | hc;{exact g2 c hc};{simp at hc;subst hc;rfl}};{rw [<-Hi,List.length_append,<-en];exact ho};{
 have j6:Fr [] w w':=Fr.below hb;by_cases hi:i<es.length;{rw [List.getElem?_append_left hi] at hy;rw [List.getElem?_append_left (by omega)] at iH;exact Qi.fr j6 (by simp) _ _ (g3 i y c hy iH)};{
 have ei:i=es.length:=by have:=(aJ.1 hy).1;simp at this;omega
 subst ei;rw [List.getElem?_append_right ax,Nat.sub_self] at hy;rw [List.getElem?_append_right (by omega),g1,Nat.sub_self] at iH;simp at hy iH;subst hy iH;exact ⟨Pv,rfl,hv.fr j6 (by simp),hc⟩}}
theorem One.ofB (be:Below w0.heap.size w0 w) (hb:Below w.heap.size w w') (hg:w.heap[g]?=some (.cells cs ty)) (ht:ty∈[35,137,132]):One w0 w w' g:=by
 refine ⟨hb.mono be.size,fun z hz _=>hb.block z hz,fun cur JF m hc=>?_⟩;rw [hg] at hc;simp at hc;rw [<-hc.2.1];exact ht
theorem PE.below {s:aL} (h:PE w0 w g s) (be:Below w0.heap.size w0 w) (hb:Below w.heap.size w w'):PE w0 w' g s:=by
 obtain ⟨h0,u,h1,h2⟩:=h;exact ⟨h0,u,(hb.block g (aI h1)).trans h1,h2.fr (hb.mono be.size) (Fr.below (T:=[]) hb) (by simp)⟩
theorem Qa (w:World) (gs:Nat) (s:aL) (K:Int) (P:List Int) (pe:Option Addr) (ne ce:Nat) (be:Hid (Below w0.heap.size w0 w)) (hE:Hid (PE w0 w gs s)) (hP:Hid (AB w0 w (.slice pe ne ce) P)) (hc:Hid (fV (.slice pe ne ce))) (hq:s.2.2.length<=1000) :
  Calls prog 262 #[.pointer (some ⟨gs,0,none⟩),.agg #[.int .i64 K,.slice pe ne ce]] w fun r w'=>One w0 w w' gs/\PE w0 w' gs (s.1,s.2.1,fx s.2.2 (K,P))/\∃ v,r=.returned v:=by
 obtain ⟨pq,cq,gc,hQ,gf⟩:=Gm hE;obtain ⟨nq,Ei⟩:∃ nq,Hid (s.2.2.length=nq):=⟨_,ae rfl⟩;rw [aa Ei] at gc hQ hq;have c2:w.cell? ⟨gs,2,none⟩=some (.slice pq nq cq):=aC gc 2;have jM:gs<w.heap.size:=aI gc;obtain ⟨W0,cA,b0,z0,C0,T0⟩:=aj w #[.int .i64 K,.slice pe ne ce] 49;have Jz:=ae C0;have B0:=ae b0;have HQ:=ae (hQ.fr (b0.mono be.size) (Fr.below (T:=[]) b0) (by simp));have Wk:=ae (hP.fr (Fr.below (T:=[]) b0) (by simp));have c2a:=fun (ob:Obj)=>af c2 ((Below.refl w.heap.size w).alloc ax ob);have c2w:=ae c2;have gfw:=ae gf;clear C0 b0 T0 hQ gf;go_enter func262,ntmps262;have HGC:=ae gc;clear gc;by_cases h7:nq<7;{
 have XK:(nq:Int)<7:=by omega
 have OY:fx s.2.2 (K,P)=s.2.2++[(K,P)]:=by rw [fx,aa Ei,if_pos h7]
 rw [OY];go_wp2_with fail;rw [<-cA];clear cA c2a OY;obtain ⟨vA,bM⟩:=ar W0.drew;have cg:Below W0.heap.size W0 vA:=by rw [bM];exact ay.drew
 have BA:=ae cg;have HC:=ae (fun (v:World) (hv:Below W0.heap.size W0 v)=>ag (ag (af (Jz.1 0 _ rfl) hv) (af (Jz.1 1 _ rfl) hv)) (ag (af (aa c2w) (ai (aa B0) hv)) (ag (HQ.fr ((Below.mono hv (by have:=B0.size;have:=be.size;omega))) (Fr.below (T:=[]) hv) (by simp)) (ag (Wk.fr (Fr.below (T:=[]) hv) (by simp)) (ai (aa B0) hv)))));refine wp_region_noPanic ?_;refine wp_region_held_drew (S:=fun w'=>w'.cell? ⟨w.heap.size,0,none⟩=some (.int .i64 K)/\w'.cell? ⟨w.heap.size,1,none⟩=some (.slice pe ne ce)) (by kernel_rfl) (by rw [<-bM];exact (aa HC vA cg).1) (fun hS=>?_);rw [<-bM] at hS ⊢;clear bM cg;refine gp 0 1 2 3 hS ?_;refine tn 5 hS ?_;refine ry [4,6] ?_;refine cn (fun KK hK=>?_) ?_;rotate_left;refine cn (fun KK hK=>?_) ?_;rotate_left;exact AllReadyH.nil;have cq:=(aa HC vA BA).2.1;go_simp;refine bm hK (by exact (aa HC vA BA).1) fun hS=>?_;clear hK KK cq;refine ry [6] ?_;refine cn (fun KK hK=>?_) ?_;rotate_left;exact AllReadyH.nil
 rotate_right
 go_simp;obtain ⟨Z,hZ,bZ,zZ,CZ,-⟩:=aj vA #[.int .i64 K,.slice pe ne ce] 49;rw [<-hZ];have B1:=ae (ai BA bZ);have Mf:=ae CZ;refine bm hK (by exact (aa HC Z B1).1) fun hS=>?_;clear hK KK hZ bZ CZ;rotate_left;go_simp;obtain ⟨Z,hZ,bZ,zZ,CZ,-⟩:=aj vA #[.int .i64 K,.slice pe ne ce] 49;rw [<-hZ];have B1:=ae (ai BA bZ);have Mf:=ae CZ;refine bm hK (by exact (aa HC Z B1).1) fun hS=>?_;clear hK KK hZ bZ CZ;refine ry [4] ?_;refine cn (fun KK hK=>?_) ?_;rotate_left;exact AllReadyH.nil
 rotate_right
 have cq:=(aa HC Z B1).2.1;go_simp;refine bm hK (by exact (aa HC Z B1).1) fun hS=>?_;clear hK KK cq
 all_goals (
  refine ry [7] ?_;refine cn (fun KK hK=>?_) ?_;rotate_left;exact AllReadyH.nil
  rotate_right
  go_simp;obtain ⟨Y,hY,bY,zY,CY,-⟩:=aj Z #[.slice pq nq cq,.slice (some ⟨vA.heap.size,0,none⟩) 1 1] 33;rw [<-hY];rw [zZ] at CY;have B2:=ae (ai B1 bY);have Dz:=ae (ag CY (Mf.below (by omega) bY));refine bm hK (by exact (aa HC Y B2).1) fun hS=>?_;clear hK KK hY bY CY;refine ry [8] ?_;refine cn (fun KK hK=>?_) ?_;rotate_left;exact AllReadyH.nil
  rotate_right
  refine fw (Di (ev:=(K,P)) (pe:=pe) (aa HC Y B2).2.2.1 (aa HC Y B2).2.2.2.1 hc hq (Dz.1.1 0 _ rfl) (Dz.1.1 1 _ rfl) (Dz.2.1 0 _ rfl) (Dz.2.1 1 _ rfl)) ?_;rintro r w5 ⟨p',c',rfl,TD,j7⟩;refine ⟨_,rfl,?_⟩;have B5:=ae (ai B2 j7);have QT:=ae TD;refine bm hK (by exact (aa HC w5 B5).1) fun hS=>?_;clear hK KK TD j7;refine dQ 9 10 hS ?_;refine ry [11] ?_;refine cn (fun KK hK=>?_) ?_;rotate_left;exact AllReadyH.nil
  rotate_right
  obtain ⟨-,c25,-,-,RF⟩:=aa HC w5 B5;have f25:=(RF.frozen (p:=⟨gs,2,none⟩) jM).trans (aa gfw 2);have BW5:=ae RF;clear RF;go_simp;have G:=ae (yL be hE BW5 QT);have kS:∀ o,(w5.setCell ⟨gs,2,none⟩ (.slice p' (nq+1) c')).cell? ⟨w.heap.size,o,none⟩=w5.cell? ⟨w.heap.size,o,none⟩:=fun o=>ah (dt _ _ _ _ (by show w.heap.size≠gs;omega)) _;refine bm hK (by exact ⟨(kS 0).trans hS.1,(kS 1).trans hS.2⟩) fun hS=>?_;clear hK KK c25 f25 kS;refine wpAnyH_done (by kernel_rfl) ?_ _;refine aX ?_;clear hS;go_wp2
  go_end0
  exact ⟨G.1,G.2,_,rfl⟩)}
 {
 have XK:¬ (nq:Int)<7:=by omega
 by_cases h8:nq=7;{
 have OY:fx s.2.2 (K,P)=s.2.2++[(4,[])]:=by rw [fx,aa Ei,if_neg h7,if_pos h8]
 rw [OY];have P8:((nq:Int)==7)=true:=by simp;omega
 obtain ⟨Z,hZ,bZ,zZ,CZ,-⟩:=aj W0 #[.int .i64 4,.slice none 0 0] 49;obtain ⟨Y,hY,bY,zY,CY,-⟩:=aj Z #[.slice pq nq cq,.slice (some ⟨W0.heap.size,0,none⟩) 1 1] 33;have BY:=ae (ai bZ bY);have Dz:=ae (ag CY (CZ.below (by omega) bY));have QY:=ae (HQ.fr (BY.mono (by have:=B0.size;have:=be.size;omega)) (Fr.below (T:=[]) (aa BY)) (by simp));have c2b:=fun (ob oc:Obj)=>af (c2a ob) (ay.alloc ax oc);rw [zZ] at CY Dz;have HW:=ae (ag cA (ag hZ hY));rw [z0] at Dz zZ CY;clear CY CZ cA hZ hY bZ bY OY h7 h8;go_wp2_with fail;obtain ⟨cA,hZ,hY⟩:=aa HW;rw [z0] at hY;rw [<-cA,<-hZ,<-hY];clear cA hZ hY HW c2a c2b;refine (Di (w:=Y) (ev:=(4,[])) (pe:=none) QY (.inr (TB.nil _)) ⟨none,0,0,rfl,Nat.le_refl _,Nat.zero_le _⟩ hq (Dz.1.1 0 _ rfl) (Dz.1.1 1 _ rfl) (Dz.2.1 0 _ rfl) (Dz.2.1 1 _ rfl)).mono ?_;rintro r w5 ⟨p',c',rfl,TD,j7⟩;have Mj:=ae (ai (ai B0 BY) j7);have c25:=af c2w Mj;have f25:=(Mj.frozen (p:=⟨gs,2,none⟩) jM).trans (aa gfw 2);have G:=ae (yL be hE Mj TD);clear TD j7;go_wp2
 go_end0
 exact ⟨G.1,G.2,_,rfl⟩};{
 have OY:fx s.2.2 (K,P)=s.2.2:=by rw [fx,aa Ei,if_neg h7,if_neg h8]
 rw [OY];have P8:((nq:Int)==7)=false:=by simp;omega
 go_wp2
 go_end0
 rw [<-cA];exact ⟨One.ofB (aa be) (aa B0) (aa HGC) (by simp),hE.below (aa be) (aa B0),_,rfl⟩}}
theorem eh.del {D:DataW Unit} {l:List (Lit × Nat)} (h:eh D l) {k:Lit} (hi:l[i]?=some (k,g)) (hd:∀ (j:Nat) (p:Lit × Nat),l[j]?=some p->p.1=k->j=i):eh (D.del k) (l.eraseIdx i):=by
 have gN:∀ p,p∈l.eraseIdx i↔p∈l/\p.1≠k:=fun p=>by
  rw [List.mem_eraseIdx_iff_getElem?];constructor;{rintro ⟨j,hj,e⟩;exact ⟨aF e,fun e2=>hj (hd j p e e2)⟩};{
 rintro ⟨hp,bq⟩;obtain ⟨j,hj⟩:=List.mem_iff_getElem?.1 hp;refine ⟨j,fun e=>bq ?_,hj⟩;subst e;rw [hi] at hj;cases hj
 rfl}
 refine ⟨fun k'=>?_,fun p hp z=>?_⟩;{by_cases e:k'=k;{subst e;rw [has_del_same];constructor;{intro hh;cases hh};{rintro ⟨p,hp,e2⟩;exact absurd e2 ((gN p).1 hp).2}};{rw [has_del_other e,h.hs k'];constructor;{rintro ⟨p,hp,rfl⟩;exact ⟨p,(gN p).2 ⟨hp,e⟩,rfl⟩};{rintro ⟨p,hp,rfl⟩;exact ⟨p,((gN p).1 hp).1,rfl⟩}}};{obtain ⟨h1,h2⟩:=(gN p).1 hp;rw [atKey_del_other h2];exact h.at' p h1 z}
theorem pW {α β γ:Type} (f:α->β->γ):∀ (l:List α) (m:List β) (i:Nat),l.length=m.length->List.zipWith f (l.eraseIdx i) (m.eraseIdx i)=(List.zipWith f l m).eraseIdx i
 | [],[],i,_=>by simp
 | a::l,c::m,0,_=>by simp
 | a::l,c::m,i+1,h=>by simp [pW f l m i (by simpa using h)]
section
variable {w0 w w':World} {b bs bn:Nat} {D:SD} {SB NB HB UB:List Nat}
theorem PS.Cf (h:PS w0 w b bs bn D SB NB HB UB) {i g hh uu z:Nat} (hi:D.ns[i]?=some nd) (hg:NB[i]?=some g) (mB:HB[i]?=some hh) (mY:UB[i]?=some uu) (hz:z=g\/z=hh\/z=uu) (O:One w0 w w' z) (hp:nd'.path=nd.path) (hN:PN w0 w' g hh uu nd'):PS w0 w' b bs bn { D with ns:=D.ns.set i nd' } SB NB HB UB:=by
 obtain ⟨-,⟨V0,gc,-⟩,q3,q4⟩:=h.lu i nd g hh uu hi hg mB mY;obtain ⟨es3,c3,m3⟩:=q3.at;obtain ⟨es4,c4,m4⟩:=q4.at;obtain ⟨d0,d1,d2,d3,d4,d5⟩:=h.hu;have vg:=(aJ.1 hi).1;have hhm:=aF mB;have Zu:=aF mY;have nc:∀ {y:Nat} {cs:Array Value} {ty:TypeId},w.heap[y]?=some (.cells cs ty)->(ty≠137\/y≠g)->y≠z:=fun {y cs ty} hy ht e=>by rcases hz with rfl | rfl | rfl;{rcases ht with ht | ht;{rw [e,gc] at hy;simp at hy;exact ht hy.2.symm};{exact ht e}};{rw [e,m3] at hy;cases hy};{rw [e,m4] at hy;cases hy}
 have nm:∀ {y:Nat} {es:Array MapEntry} {c:Nat},w.heap[y]?=some (.map es c)->y≠hh->y≠uu->y≠z:=fun {y es c} hy h1 h2 e=>by rcases hz with rfl | rfl | rfl;{rw [e,gc] at hy;cases hy};{exact h1 e};{exact h2 e}
 refine ⟨h.be.trans O.b,O.obj h.hd (nc h.hd (.inl (by decide))),h.qU,?_,fun j s1 g1 iQ fN=>?_,h.snd,by rw [List.length_set];exact h.sw,by rw [List.length_set];exact h.hlen,by rw [List.length_set];exact h.ua,?_,fun j ia gb h1 u1 iQ fN CL CE=>?_,h.Mt,h.lo,h.Ad⟩;{obtain ⟨M,n,o,r⟩:=h.qT;obtain ⟨es,c,hm⟩:=ownsMap_at o;exact ⟨M,n,O.map o (nm hm (fun e=>(d1 _ hhm).1 e.symm) (fun e=>(d2 _ Zu).1 e.symm)),r⟩};{have q:=h.ox j s1 g1 iQ fN;obtain ⟨-,u,h1,-⟩:=id q;exact q.aM O (nc h1 (.inl (by decide)))};{
 obtain ⟨M,n,o,hn,m,hs⟩:=h.mu;obtain ⟨es,c,hm⟩:=ownsMap_at o;refine ⟨M,n,O.map o (nm hm (fun e=>(d1 _ hhm).2 e.symm) (fun e=>(d2 _ Zu).2 e.symm)),hn,?_,by simp only [List.length_set];exact hs⟩;have e:List.zipWith (fun (nd:aA) g=>(bL nd.path,g)) (D.ns.set i nd') NB=List.zipWith (fun (nd:aA) g=>(bL nd.path,g)) D.ns NB:=by refine List.ext_getElem? fun j=>?_;rw [List.getElem?_zipWith,List.getElem?_zipWith,List.getElem?_set];by_cases ej:i=j;{subst ej;rw [if_pos rfl,if_pos vg,hi,hg];simp [hp]};{simp [ej]}
 rw [e];exact m};{simp only [List.getElem?_set] at iQ;by_cases ej:i=j;{subst ej;rw [hg] at fN;rw [mB] at CL;rw [mY] at CE;cases fN;cases CL;cases CE;simp [vg] at iQ;subst iQ;exact hN};{simp [ej] at iQ;have q:=h.lu j ia gb h1 u1 iQ fN CL CE;obtain ⟨-,⟨V,q1,-⟩,p3,p4⟩:=id q;obtain ⟨es,c,m5⟩:=p3.at;obtain ⟨Vl,c',m6⟩:=p4.at;have ej':¬ j=i:=fun e=>ej e.symm;exact q.aM O (nc q1 (.inr (vY h.Mt fN hg ej'))) (nm m5 (vY d3 CL mB ej') (d5 _ (aF CL) _ Zu)) (nm m6 (fun e=>d5 _ hhm _ (aF CE) e.symm) (vY d4 CE mY ej'))}}
theorem PS.aj4 (h:PS w0 w b bs bn D SB NB HB UB) (hi:D.ns[i]?=some nd) (O:One w0 w w' bn) (hd:∀ (j:Nat) (z:aA),D.ns[j]?=some z->bL z.path=bL nd.path->j=i)
  (hM:∀ M n,w.ownsMap prog 9 aQ bn n M->w'.ownsMap prog 9 aQ bn n (M.del (bL nd.path))):PS w0 w' b bs bn { D with ns:=D.ns.eraseIdx i } SB (NB.eraseIdx i) (HB.eraseIdx i) (UB.eraseIdx i):=by
 obtain ⟨g,hh,uu,hg,mB,mY,-⟩:=h.nat hi;obtain ⟨d0,d1,d2,d3,d4,d5⟩:=h.hu;obtain ⟨M,n,o,hn,m,hs⟩:=h.mu;obtain ⟨es0,c0,m0⟩:=ownsMap_at o;have vg:=(aJ.1 hi).1;have nc:∀ {y:Nat} {cs:Array Value} {ty:TypeId},w.heap[y]?=some (.cells cs ty)->y≠bn:=fun {y cs ty} hy e=>by rw [e,m0] at hy;cases hy
 have hz:(List.zipWith (fun (nd:aA) g=>(bL nd.path,g)) D.ns NB)[i]?=some (bL nd.path,g):=by rw [List.getElem?_zipWith,hi,hg]
 have hdz:∀ (j:Nat) (p:Lit × Nat),(List.zipWith (fun (nd:aA) g=>(bL nd.path,g)) D.ns NB)[j]?=some p->p.1=bL nd.path->j=i:=fun j p hj e=>by
  rw [List.getElem?_zipWith] at hj;cases ha:D.ns[j]? with
  | none=>rw [ha] at hj;cases hj
  | some a=>
   cases hc:NB[j]? with
   | none=>rw [ha,hc] at hj;cases hj
   | some c=>
    rw [ha,hc] at hj;cases hj;exact hd j a ha e
 have el:∀ {l:List Nat},l.length=D.ns.length->(l.eraseIdx i).length=(D.ns.eraseIdx i).length:=fun hl=>by rw [List.length_eraseIdx,List.length_eraseIdx,hl]
 refine ⟨h.be.trans O.b,O.obj h.hd (nc h.hd),h.qU,?_,fun j s1 g1 iQ fN=>?_,h.snd,el h.sw,el h.hlen,el h.ua,⟨_,n,hM M n o,hn,?_,?_⟩,fun j ia gb h1 u1 iQ fN CL CE=>?_,h.Mt.sublist (List.eraseIdx_sublist _ _),h.lo,?_⟩;{obtain ⟨M,n,o,r⟩:=h.qT;exact ⟨M,n,O.map o d0,r⟩};{have q:=h.ox j s1 g1 iQ fN;obtain ⟨-,u,h1,-⟩:=id q;exact q.aM O (nc h1)};{rw [pW _ _ _ _ h.sw.symm];exact m.del hz hdz};{have Bg:Maps.has M (bL nd.path)=true:=(m.hs _).2 ⟨_,aF hz,rfl⟩;have:=size_del (k:=bL nd.path) (oH o lD);rw [Bg] at this;simp only [if_true] at this;simp only [List.length_eraseIdx,vg,if_true];omega};{
 rw [List.getElem?_eraseIdx] at iQ fN CL CE;obtain ⟨j',GO,dV,hh2,hu2⟩:∃ j',D.ns[j']?=some ia/\NB[j']?=some gb/\HB[j']?=some h1/\UB[j']?=some u1:=by by_cases hj:j<i;{rw [if_pos hj] at iQ fN CL CE;exact ⟨j,iQ,fN,CL,CE⟩};{rw [if_neg hj] at iQ fN CL CE;exact ⟨j+1,iQ,fN,CL,CE⟩}
 have q:=h.lu j' ia gb h1 u1 GO dV hh2 hu2;obtain ⟨-,⟨V,q1,-⟩,p3,p4⟩:=id q;exact q.aM O (nc q1) (d1 _ (aF hh2)).2 (d2 _ (aF hu2)).2};{exact h.Ad.sublist (((List.eraseIdx_sublist HB i).append (List.eraseIdx_sublist UB i)).cons_cons bn |>.cons_cons bs)}
theorem PS.aj3 (h:PS w0 w b bs bn D SB NB HB UB) {s:aL} (hi:D.ss[i]?=some s) (O:One w0 w w' bs) (hd:∀ (j:Nat) (z:aL),D.ss[j]?=some z->z.1=s.1->j=i)
  (hM:∀ M n,w.ownsMap prog 23 aQ bs n M->w'.ownsMap prog 23 aQ bs n (M.del (.int .u64 s.1))):PS w0 w' b bs bn { D with ss:=D.ss.eraseIdx i } (SB.eraseIdx i) NB HB UB:=by
 obtain ⟨g,hg,-⟩:=h.sat hi;obtain ⟨d0,d1,d2,d3,d4,d5⟩:=h.hu;obtain ⟨M,n,o,hn,m,hs⟩:=h.qT;obtain ⟨es0,c0,m0⟩:=ownsMap_at o;have vg:=(aJ.1 hi).1;have nc:∀ {y:Nat} {cs:Array Value} {ty:TypeId},w.heap[y]?=some (.cells cs ty)->y≠bs:=fun {y cs ty} hy e=>by rw [e,m0] at hy;cases hy
 have hz:(List.zipWith (fun (s:aL) g=>(Lit.int .u64 s.1,g)) D.ss SB)[i]?=some (.int .u64 s.1,g):=by rw [List.getElem?_zipWith,hi,hg]
 have hdz:∀ (j:Nat) (p:Lit × Nat),(List.zipWith (fun (s:aL) g=>(Lit.int .u64 s.1,g)) D.ss SB)[j]?=some p->p.1=.int .u64 s.1->j=i:=fun j p hj e=>by
  rw [List.getElem?_zipWith] at hj;cases ha:D.ss[j]? with
  | none=>rw [ha] at hj;cases hj
  | some a=>
   cases hc:SB[j]? with
   | none=>rw [ha,hc] at hj;cases hj
   | some c=>
    rw [ha,hc] at hj;cases hj;exact hd j a ha (by simpa using e)
 refine ⟨h.be.trans O.b,O.obj h.hd (nc h.hd),by rw [List.length_eraseIdx,List.length_eraseIdx,h.qU],⟨_,n,hM M n o,hn,?_,?_⟩,fun j s1 g1 iQ fN=>?_,h.snd.sublist (List.eraseIdx_sublist _ _),h.sw,h.hlen,h.ua,?_,fun j ia gb h1 u1 iQ fN CL CE=>?_,h.Mt,h.lo,h.Ad⟩;{rw [pW _ _ _ _ h.qU.symm];exact m.del hz hdz};{have Bg:Maps.has M (.int .u64 s.1)=true:=(m.hs _).2 ⟨_,aF hz,rfl⟩;have:=size_del (k:=.int .u64 s.1) (oH o gD);rw [Bg] at this;simp only [if_true] at this;simp only [List.length_eraseIdx,vg,if_true];omega};{
 rw [List.getElem?_eraseIdx] at iQ fN;obtain ⟨j',GO,dV⟩:∃ j',D.ss[j']?=some s1/\SB[j']?=some g1:=by by_cases hj:j<i;{rw [if_pos hj] at iQ fN;exact ⟨j,iQ,fN⟩};{rw [if_neg hj] at iQ fN;exact ⟨j+1,iQ,fN⟩}
 have q:=h.ox j' s1 g1 GO dV;obtain ⟨-,u,h1,-⟩:=id q;exact q.aM O (nc h1)};{obtain ⟨M,n,o,r⟩:=h.mu;exact ⟨M,n,O.map o (fun e=>d0 e.symm),r⟩};{have q:=h.lu j ia gb h1 u1 iQ fN CL CE;obtain ⟨-,⟨V,q1,-⟩,p3,p4⟩:=id q;exact q.aM O (nc q1) (d1 _ (aF CL)).1 (d2 _ (aF CE)).1}
end
structure xu (ss:List aL):Prop where
 pw:ss.Pairwise (fun s s'=>s.1<s'.1)
 rg:∀ s∈ss,0<=s.1/\s.1<18446744073709551616
 ql:∀ s∈ss,s.2.2.length<=8
theorem uS {q:List Ev} (ev:Ev) (h:q.length<=8):(fx q ev).length<=8:=by
 unfold fx;split;{simp;omega};{split;{simp;omega};{exact h}}
theorem qp (ss:List aL) (id:Int) (ev:Ev):(jf ss id ev).map (·.1)=ss.map (·.1):=by
 unfold jf;rw [List.map_map];refine List.map_congr_left fun s _=>?_;simp only [Function.comp];split<;>rfl
theorem xu.Lk (h:xu ss) (id:Int) (ev:Ev):xu (jf ss id ev):=by
 refine ⟨?_,fun s hs=>?_,fun s hs=>?_⟩;{have:=h.pw;rw [<-List.pairwise_map (f:=fun s:aL=>s.1) (R:=(·<·))] at this ⊢;rw [qp];exact this};{obtain ⟨s0,h0,rfl⟩:=List.mem_map.1 hs;split<;>exact h.rg s0 h0}
 {obtain ⟨s0,h0,rfl⟩:=List.mem_map.1 hs;split;{exact uS ev (h.ql s0 h0)};{exact h.ql s0 h0}}
theorem yM (h:ss.Pairwise (fun s s'=>s.1<s'.1)) {s:aL} (hi:ss[i]?=some s) (ev:Ev):jf ss s.1 ev=ss.set i (s.1,s.2.1,fx s.2.2 ev):=by
 refine List.ext_getElem? fun j=>?_;unfold jf;rw [List.getElem?_map,List.getElem?_set];by_cases ej:i=j;{subst ej;rw [if_pos rfl,if_pos (aJ.1 hi).1,hi];simp};{
 rw [if_neg ej];cases hj:ss[j]? with
 | none=>rfl
 | some s'=>
  have bq:¬ s'.1=s.1:=fun e=>by have D6:=List.pairwise_iff_getElem.1 h;obtain ⟨l1,v1⟩:=aJ.1 hi;obtain ⟨l2,v2⟩:=aJ.1 hj;rcases Nat.lt_trichotomy i j with hh | hh | hh;{have:=D6 i j l1 l2 hh;rw [v1,v2] at this;omega};{exact ej hh};{have:=D6 j i l2 l1 hh;rw [v1,v2] at this;omega}
  simp [bq]}
theorem jC (ids:List Int) (ev:Ev):∀ ss:List aL,(gH ss ids ev).map (·.1)=ss.map (·.1):=by
 unfold gH
 induction ids with
 | nil=>intro ss;rfl
 | cons a r ih=>intro ss;rw [List.foldl_cons,ih,qp]
theorem Ly (w:World) {l:List Int} (hB:bQ l) (hl:l.length<=1048576):∃ p' c' W,(convert 9 22 (.string (aY l))).run prog w=.ok (.slice p' l.length c') W/\TB W (.slice p' l.length c') l/\Below w.heap.size w W:=by
 have du:=Lib.run_convert_string_bytes (P:=prog) w 9 22 5 (aY l) underlying9 underlying22 underlying5;rw [cW] at du;refine ⟨_,_,_,du,⟨⟨_,_,rfl,.inr ⟨w.heap.size,0,rfl,fun j hj=>?_⟩⟩,fun b hb=>.inr ?_,_,_,_,rfl,grownCap_ge _ _ _ _,grownCap_le_maxLen _ _ _ _ (by unfold maxLen;omega)⟩,⟨rfl,rfl,rfl,by rw [Lib.bytesWorld_size];omega,fun k hk=>Lib.bytesWorld_at_old _ _ _ _ hk⟩⟩;{rw [Nat.zero_add,Lib.bytesWorld_cell _ _ _ _ (by rw [cW];exact hj),vu hB j hj]};{simp only [Value.ownBlock,Option.some.injEq] at hb;subst hb;exact ⟨_,_,Lib.bytesWorld_at_new w 5 (aY l)⟩}
theorem PS.look {SB NB HB UB:List Nat} (h:PS w0 w b bs bn D SB NB HB UB) {s:aL} (hi:D.ss[i]?=some s) (hr:0<=s.1/\s.1<18446744073709551616):∃ g,SB[i]?=some g/\PE w0 w g s/\(Instr.lookup 129 (.map (some bs)) (.int .u64 s.1) false).run prog w=.ok (.pointer (some ⟨g,0,none⟩)) w:=by
 obtain ⟨g,hg,hE⟩:=h.sat hi;obtain ⟨M,n,o,-,m,-⟩:=h.qT;exact ⟨g,hg,hE,xY o m (aF (i:=i) (by rw [List.getElem?_zipWith,hi,hg])) hr⟩
theorem PS.Gw {SB NB HB UB:List Nat} (h:PS w0 w b bs bn D SB NB HB UB) (hi:D.ns[i]?=some nd) (hl:nd.path.length<=1048576):∃ g hh uu,NB[i]?=some g/\HB[i]?=some hh/\UB[i]?=some uu/\PN w0 w g hh uu nd/\(Instr.lookup 130 (.map (some bn)) (.string (aY nd.path)) false).run prog w=.ok (.pointer (some ⟨g,0,none⟩)) w:=by
 obtain ⟨g,hh,uu,hg,mB,mY,hN⟩:=h.nat hi;obtain ⟨M,n,o,-,m,-⟩:=h.mu;exact ⟨g,hh,uu,hg,mB,mY,hN,xZ o m (aF (i:=i) (by rw [List.getElem?_zipWith,hi,hg])) hl⟩
theorem PN.cells {h u:Nat} (k:PN w0 w g h u nd):∃ V,AB w0 w V nd.value/\w.heap[g]?=some (.cells #[V,.int .u64 nd.owner,.int .i64 nd.mode,.map (some h),.int .u64 nd.aD,.int .u64 nd.gen,.map (some u)] 137)/\w.cell? ⟨g,0,none⟩=some V/\w.cell? ⟨g,1,none⟩=some (.int .u64 nd.owner)/\w.cell? ⟨g,2,none⟩=some (.int .i64 nd.mode)/\w.cell? ⟨g,3,none⟩=some (.map (some h))/\w.cell? ⟨g,4,none⟩=some (.int .u64 nd.aD)/\w.cell? ⟨g,5,none⟩=some (.int .u64 nd.gen)/\w.cell? ⟨g,6,none⟩=some (.map (some u))/\∀ o,w.frozen? ⟨g,o,none⟩=false:=by
 obtain ⟨V,h1,h2⟩:=k.aB;exact ⟨V,h2,h1,aC h1 0,aC h1 1,aC h1 2,aC h1 3,aC h1 4,aC h1 5,aC h1 6,fun o=>by simp [World.frozen?,h1]⟩
theorem PS.gw {SB NB HB UB:List Nat} (h:PS w0 w b bs bn D SB NB HB UB):w.cell? ⟨b,0,none⟩=some (.int .u64 D.e)/\w.cell? ⟨b,1,none⟩=some (.int .u64 D.g)/\w.cell? ⟨b,2,none⟩=some (.int .u64 D.x)/\w.cell? ⟨b,3,none⟩=some (.int .i64 D.t)/\w.cell? ⟨b,4,none⟩=some (.map (some bs))/\w.cell? ⟨b,5,none⟩=some (.map (some bn))/\∀ o,w.frozen? ⟨b,o,none⟩=false:=
 ⟨aC h.hd 0,aC h.hd 1,aC h.hd 2,aC h.hd 3,aC h.hd 4,aC h.hd 5,fun o=>by simp [World.frozen?,h.hd]⟩
structure NT (ss:List aL) (nd:aA):Prop where
 VH:bQ nd.path
 pl:nd.path.length<=1048576
 Q9:nd.watchers.Pairwise (·<·)
 DA:nd.watchers.length<=1048576
 xz:∀ i∈nd.watchers,∃ s∈ss,s.1=i
theorem Cy {ss':List aL} (h:ss'.map (·.1)=ss.map (·.1)) {i:Int} (hi:∃ s∈ss,s.1=i):∃ (j:Nat) (s:aL),ss'[j]?=some s/\s.1=i:=by
 obtain ⟨s,hs,rfl⟩:=hi;have:s.1∈ss'.map (·.1):=by rw [h];exact List.mem_map.2 ⟨s,hs,rfl⟩
 obtain ⟨s',vZ,e⟩:=List.mem_map.1 this;obtain ⟨j,hj⟩:=List.mem_iff_getElem?.1 vZ;exact ⟨j,s',hj,e⟩
theorem Kh {ss:List Int} (h:Q.LY B w v ss):∃ p c gk,v=.slice p ss.length c/\B<=gk/\∀ (j:Nat) (x:Int),ss[j]?=some x->p=some ⟨gk,0,none⟩/\gk<w.heap.size/\w.cell? ⟨gk,j,none⟩=some (.int .u64 x):=by
 rcases h with ⟨rfl,rfl⟩ | ⟨g,cap,rfl,hB,br,hu⟩;{exact ⟨none,0,B,rfl,Nat.le_refl _,fun j x hx=>by simp at hx⟩};{refine ⟨_,cap,g,rfl,hB,fun j x hx=>⟨rfl,br,?_⟩⟩;have:=hu j (by simpa using (aJ.1 hx).1);have h2:=this.1;simpa [hx] using h2}
theorem One.SR {z:Nat} (be:Below w0.heap.size w0 w) (hg:w.grownBy w' (some z)) (hz:w0.heap.size<=z) (hm:∃ es c,w.heap[z]?=some (.map es c)):One w0 w w' z:=by
 refine ⟨(Below.refl w0.heap.size w).grown hg be.size (fun b e=>by cases e;exact hz),fun y hy bq=>hg.block y hy (fun e=>bq (by cases e;rfl)),fun cur ty m hc=>?_⟩;obtain ⟨es,c,hm⟩:=hm;rw [hm] at hc;cases hc
theorem PS.Mq {SB NB HB UB:List Nat} (h:PS w0 w b bs bn D SB NB HB UB) (hi:D.ns[i]?=some nd) (hg:NB[i]?=some g) (mB:HB[i]?=some hh) (mY:UB[i]?=some uu) (O:One w0 w w' uu) (hs:SM w' uu s):PS w0 w' b bs bn { D with ns:=D.ns.set i { nd with watchers:=s } } SB NB HB UB:=by
 obtain ⟨lo,⟨V,q1,q2⟩,q3,q4⟩:=h.lu i nd g hh uu hi hg mB mY;obtain ⟨es,c,m4⟩:=q4.at;refine h.Cf hi hg mB mY (.inr (.inr rfl)) O rfl ⟨lo,⟨V,O.obj q1 (fun e=>?_),q2.fr O.fr (by decide)⟩,q3.aM O (h.hu.2.2.2.2.2 _ (aF mB) _ (aF mY)),hs⟩;rw [e,m4] at q1;cases q1
theorem PS.Rh {SB NB HB UB:List Nat} (h:PS w0 w b bs bn D SB NB HB UB) (hi:D.ns[i]?=some nd) (hg:NB[i]?=some g) (mB:HB[i]?=some hh) (mY:UB[i]?=some uu) (O:One w0 w w' hh) (hs:SM w' hh s):PS w0 w' b bs bn { D with ns:=D.ns.set i { nd with holders:=s } } SB NB HB UB:=by
 obtain ⟨lo,⟨V,q1,q2⟩,q3,q4⟩:=h.lu i nd g hh uu hi hg mB mY;obtain ⟨es,c,m3⟩:=q3.at;refine h.Cf hi hg mB mY (.inr (.inl rfl)) O rfl ⟨lo,⟨V,O.obj q1 (fun e=>?_),q2.fr O.fr (by decide)⟩,hs,q4.aM O (fun e=>h.hu.2.2.2.2.2 _ (aF mB) _ (aF mY) e.symm)⟩;rw [e,m3] at q1;cases q1
abbrev T3:List TypeId:=[35,137,132]
def PL (b bs bn:Nat) (SB NB HB UB:List Nat):List Nat:=b::bs::bn::(SB++(NB++(HB++UB)))
def Kb (L:List Nat) (w w':World):Prop:=∀ z,z<w.heap.size->z∉L->w'.heap[z]?=w.heap[z]?
theorem Kb.below (h:Below w.heap.size w w'):Kb L w w':=fun z hz _=>h.block z hz
theorem Kb.trans {w1 w2:World} (h:Kb L w w1) (h2:Kb L w1 w2) (hs:w.heap.size<=w1.heap.size):Kb L w w2:=fun z hz hn=>(h2 z (by omega) hn).trans (h z hz hn)
theorem Kb.mono {L':List Nat} (h:Kb L w w') (hs:∀ z∈L,z∈L'):Kb L' w w':=fun z hz hn=>h z hz (fun hm=>hn (hs z hm))
theorem One.kb (O:One w0 w w' g) (hg:g∈L):Kb L w w':=fun z hz hn=>O.k z hz (fun e=>hn (e▸hg))
theorem FK (w:World) (b bs bn:Nat) (D:SD) (SB NB HB UB:List Nat) (h:Hid (PS w0 w b bs bn D SB NB HB UB)) (k:Nat) (nd:aA) (hk:Hid (D.ns[k]?=some nd)) (kd:Int) (hS:Hid (xu D.ss)) (hT:Hid (NT D.ss nd)) :
  Calls prog 261 #[.pointer (some ⟨b,0,none⟩),.int .i64 kd,.string (aY nd.path)] w fun r w'=>PS w0 w' b bs bn (cX D k kd) SB NB HB UB/\(Fr T3 w w'/\Kb (PL b bs bn SB NB HB UB) w w')/\∃ v,r=.returned v:=by
 obtain ⟨g,hh,uu,hg,mB,mY,hN,hlk⟩:=h.Gw hk hT.pl;obtain ⟨V,-,-,-,-,-,-,-,-,n6,-⟩:=hN.cells;obtain ⟨-,-,-,-,-,h5,-⟩:=h.gw;obtain ⟨M,nn,oM,Rc,sM,zM⟩:=hN.Mq;have Cb:=ae (ag hg (ag mB mY));have iu:g<w.heap.size:=by obtain ⟨V,hb,-⟩:=hN.aB;exact aI hb
 go_enter func261,ntmps261;go_wp2_with fail;refine (Q.jU uu nn M w oM (by rw [zM];exact hT.DA)).mono ?_;rintro r w1 ⟨v,ws,rfl,hA,hK,bf⟩;have XQ:ws=nd.watchers:=kh hA.lt hT.Q9 fun x=>by rw [hA.mem x,sM];simp
 subst XQ;obtain ⟨p,c,gk,rfl,hgk,dC⟩:=Kh hK;obtain ⟨m,em⟩:∃ m,Hid (nd.watchers.length=m):=⟨_,ae rfl⟩;rw [aa em];have uJ:=ae dC;have P1:=ae (h.below bf);have F1:=ae (Fr.below (T:=T3) bf);have K1:=ae (Kb.below (L:=PL b bs bn SB NB HB UB) bf);have z1:=bf.size;have hm:m<=1048576:=by rw [<-aa em];exact hT.DA
 go_wp2
 go_loopw [21] (fun iv wr=>∃ (j:Nat) (SS:List aL),j<=m/\iv=.int .i64 j/\Hid (gH D.ss (nd.watchers.take j) (kd,nd.path)=SS)/\Hid (PS w0 wr b bs bn { D with ss:=SS } SB NB HB UB)/\Hid (xu SS)/\Hid (Fr T3 w wr)/\Hid (wr.heap[gk]?=w1.heap[gk]?)/\Hid (w1.heap.size<=wr.heap.size)/\Hid (Kb (PL b bs bn SB NB HB UB) w wr)) (fun iv _=>m-(intOf iv).toNat)
 case atStart=>exact ⟨0,D.ss,Nat.zero_le _,rfl,(by show _=_;rfl),P1,hS,F1,(by show _=_;rfl),Nat.le_refl _,K1⟩
 case round =>(
 obtain ⟨j,SS,hj,rfl,hSS,hP,UM,U9,hGK,Kr,hKB⟩:=hrel;obtain ⟨-,-,-,-,h4,h5,-⟩:=hP.gw;by_cases br:j<m;{
 have bt:(j:Int)<(m:Int):=by omega
 obtain ⟨x,hx⟩:∃ x,nd.watchers[j]?=some x:=⟨_,aE (by rw [aa em];exact br)⟩;obtain ⟨rfl,aY3,MT⟩:=aa uJ j x hx;have aZ2:=(ah hGK j).trans MT;obtain ⟨i,s,hi,rfl⟩:=Cy (ss':=SS) (by rw [<-aa hSS];exact jC _ _ _) (hT.xz x (aF hx));obtain ⟨gs,jM,hE,Rf⟩:=hP.look hi (UM.rg s (aF hi));obtain ⟨pc,cc,W,hcv,hTB,hbW⟩:=Ly wr hT.VH hT.pl;have aY1:gs<w.heap.size:=by obtain ⟨s0,GP⟩:∃ s0,D.ss[i]?=some s0:=⟨_,aE (by rw [<-h.qU];exact (aJ.1 jM).1)⟩;obtain ⟨-,u,hc,-⟩:=h.ox i s0 gs GP jM;exact aI hc
 have hSn:=rS (ss:=D.ss) (ev:=(kd,nd.path)) hx;rw [aa hSS,yM UM.pw hi] at hSn;have Js:=ae hSn;have PW:=ae (hP.below hbW);have SO2:=UM.Lk s.1 (kd,nd.path);rw [yM UM.pw hi] at SO2;have am3:=ae SO2;have qy:=ae (ag hi jM);have HTB:=ae hTB;have ql:=UM.ql s (aF hi);have RO:=ae hbW;go_wp2_with fail;refine (Qa (w0:=w0) W gs s kd nd.path pc _ cc (ae PW.be) (ae (PW.ox i s gs qy.1 qy.2)) (ae (.inr HTB)) (ae HTB.2.2) (by omega)).mono ?_;rintro r w5 ⟨O5,E5,v5,rfl⟩;have P5:=ae (PS.FI (s':=(s.1,s.2.1,fx s.2.2 (kd,nd.path))) PW qy.1 qy.2 O5 rfl E5);have G5:=ae (((O5.k gk (by have:=RO.size;have:=aa Kr;omega) (by omega)).trans (RO.block gk (by have:=aa Kr;omega))).trans hGK);have Z5:=ae (by have:=O5.b.size;have:=RO.size;have:=aa Kr;omega:w1.heap.size<=w5.heap.size);have F5:=ae ((U9.trans (Fr.below (T:=T3) RO)).trans O5.fr);have K5:=ae ((hKB.trans (Kb.below (aa RO)) U9.1).trans (O5.kb (by simp [PL,aF qy.2])) (by have:=RO.size;have:=U9.1;omega));go_wp2;go_roundw
 case rel=>exact ⟨j+1,_,by omega,by go_num,Js,P5,am3,F5,G5,Z5,K5⟩
 case measure=>simp [intOf];omega}
 {
 have bt:¬ (j:Int)<(m:Int):=by omega
 have e1:=aa hSS;rw [List.take_of_length_le (by rw [aa em];omega)] at e1;have hN5:=hP.lu k nd g hh uu hk Cb.1 Cb.2.1 Cb.2.2;obtain ⟨V,-,-,-,-,-,-,-,-,n6,-⟩:=hN5.cells;obtain ⟨M5,n5,o5,-,-,-⟩:=hN5.Mq;obtain ⟨vv,w5,du,TI,sO,hs5⟩:=DI underlying84 o5 0;have HN5:=ae hN5;have HO5:=ae (ag TI (ag sO hs5));have H5:=ae o5;go_wp2
 go_end0
 have O:=One.SR hP.be HO5.2.1 HN5.lo.2.2 (ownsMap_at H5);have hQ:=PS.Mq (s:=[]) hP hk Cb.1 Cb.2.1 Cb.2.2 O ⟨_,0,HO5.1,by omega,cI.nil,rfl⟩;refine ⟨?_,⟨U9.trans O.fr,hKB.trans (O.kb (by simp [PL,aF Cb.2.2])) U9.1⟩,_,rfl⟩;unfold cX;rw [aa hk];simp only [e1];exact hQ})
theorem cI.has {D:DataW Unit} (h:cI D s) (id:Int):Maps.has D (.int .u64 id)=s.contains id:=by
 rw [Bool.eq_iff_iff,h];simp
theorem jk {x:Int}:x∈ju s id↔x∈s/\x≠id:=by
 unfold ju;simp
theorem qB (h:s.Pairwise (·<·)):(ju s id).Pairwise (·<·):=h.filter _
theorem nB:∀ {s:List Int} {id x:Int},x∈jA s id↔x=id\/x∈s
 | [],id,x=>by simp [jA]
 | y::r,id,x=>by
  unfold jA;split;{rw [List.mem_cons,jk];by_cases e:x=id<;>simp [e]}
  {rw [List.mem_cons,nB,List.mem_cons];constructor;{rintro (h | h | h);{exact .inr (.inl h)};{exact .inl h};{exact .inr (.inr h)}};{rintro (h | h | h);{exact .inr (.inl h)};{exact .inl h};{exact .inr (.inr h)}}}
theorem uK:∀ {s:List Int} {id:Int},s.Pairwise (·<·)->(jA s id).Pairwise (·<·)
 | [],id,_=>by simp [jA]
 | y::r,id,h=>by
  unfold jA;obtain ⟨h1,h2⟩:=List.pairwise_cons.1 h;split;{
 rename_i hle
 refine List.pairwise_cons.2 ⟨fun z hz=>?_,qB h⟩;obtain ⟨ik,jv⟩:=jk.1 hz;rcases List.mem_cons.1 ik with rfl | ik;{omega};{have:=h1 z ik;omega}};{
 rename_i hle
 refine List.pairwise_cons.2 ⟨fun z hz=>?_,uK h2⟩;rcases nB.1 hz with rfl | hz;{omega};{exact h1 z hz}}
theorem Am (s:List Int) (id:Int):(jA s id).length<=s.length+1:=by
 induction s with
 | nil=>simp [jA]
 | cons y r ih=>
  unfold jA;split;{have:=kP (y::r) id;simp at this ⊢;omega};{simp;omega}
theorem SM.del {w w':World} {h n:Nat} {D:DataW Unit} (hs:cI D s) (hp:s.Pairwise (·<·)) (hn:n<=2097152) (o:w'.ownsMap prog 23 unitElem h n (D.del (.int .u64 id))):SM w' h (ju s id):=by
 refine SM.of o hn (fun k=>?_) (gV (qB hp));by_cases e:k=.int .u64 id;{subst e;rw [has_del_same];constructor;{intro hh;cases hh};{rintro ⟨i,hi,e⟩;simp at e;exact absurd e.symm (jk.1 hi).2}};{rw [has_del_other e,hs k];constructor;{rintro ⟨i,hi,rfl⟩;exact ⟨i,jk.2 ⟨hi,fun e2=>e (by rw [e2])⟩,rfl⟩};{rintro ⟨i,hi,rfl⟩;exact ⟨i,(jk.1 hi).1,rfl⟩}}
theorem SM.put {w w':World} {h n:Nat} {D:DataW Unit} (hs:cI D s) (hD:IsMap D) (hp:s.Pairwise (·<·)) (hn:n<=2097152) {d:DataW Unit} (o:w'.ownsMap prog 23 unitElem h n (D.put (.int .u64 id) d)):SM w' h (jA s id):=by
 refine SM.of o hn (fun k=>?_) (gV (uK hp));rw [(cI.put hs hD id d) k];constructor;{rintro ⟨i,hi,rfl⟩;exact ⟨i,nB.2 (by simp at hi;exact hi.symm),rfl⟩};{rintro ⟨i,hi,rfl⟩;exact ⟨i,by have:=nB.1 hi;simp;exact this.symm,rfl⟩}
theorem Hk (w:World) (g hh uu:Nat) (nd:aA) (hN:Hid (PN w0 w g hh uu nd)) (id:Int) (hid:0<=id/\id<18446744073709551616) (B:Bool) (eB:Hid (nd.holders.contains id=B)) :
  Calls prog 258 #[.pointer (some ⟨g,0,none⟩),.int .u64 id] w fun r w'=>r=.returned (.bool B)/\Below w.heap.size w w':=by
 obtain ⟨V,-,-,-,-,-,n3,-⟩:=hN.cells;obtain ⟨D,n,o,hn,hs,hz⟩:=hN.Rh;have dC:=keyOf_int_mk underlying23 (kU hid);have hB:Maps.has D (.int .u64 id)=B:=(hs.has id).trans eB;go_enter func258,ntmps258;go_wp2_with (first
  | (at_lookup;refine wpList_lookup_own_unit _ rfl _ _ 84 rfl 23 _ gD underlying84 (by kernel_rfl) hh n D rfl o _ _ rfl dC ?_;rw [hB])
  | go_in)
 go_ret;exact ⟨rfl,ay.alloc ax _⟩
def KD (ns:List aA):Prop:=∀ (i j:Nat) (a c:aA),ns[i]?=some a->ns[j]?=some c->bL a.path=bL c.path->i=j
theorem KD.set {ns:List aA} (h:KD ns) (hk:ns[k]?=some nd) (hp:nd'.path=nd.path):KD (ns.set k nd'):=fun i j a c ha hc e=>by
 have key:∀ (i:Nat) (a:aA),(ns.set k nd')[i]?=some a->∃ a0,ns[i]?=some a0/\a0.path=a.path:=fun i a ha=>by rw [List.getElem?_set] at ha;by_cases ei:k=i;{subst ei;rw [if_pos rfl,if_pos (aJ.1 hk).1] at ha;cases ha;exact ⟨nd,hk,hp.symm⟩};{rw [if_neg ei] at ha;exact ⟨a,ha,rfl⟩}
 obtain ⟨a0,h1,e1⟩:=key i a ha;obtain ⟨c0,h2,e2⟩:=key j c hc;exact h i j a0 c0 h1 h2 (by rw [e1,e2,e])
theorem Gi (w:World) (b bs bn:Nat) (D:SD) (SB NB HB UB:List Nat) (h:Hid (PS w0 w b bs bn D SB NB HB UB)) (k:Nat) (nd:aA) (hk:Hid (D.ns[k]?=some nd)) (hS:Hid (xu D.ss)) (hT:Hid (NT D.ss nd)) (hD:Hid (KD D.ns)) :
  Calls prog 260 #[.pointer (some ⟨b,0,none⟩),.string (aY nd.path)] w fun r w'=>PS w0 w' b bs bn (zO (cX D k 2) k) SB (NB.eraseIdx k) (HB.eraseIdx k) (UB.eraseIdx k)/\(Fr T3 w w'/\Kb (PL b bs bn SB NB HB UB) w w')/\∃ v,r=.returned v:=by
 go_enter func260,ntmps260;go_wp2_with fail;refine (FK w b bs bn D SB NB HB UB h k nd hk 2 hS hT).mono ?_;rintro r w1 ⟨hP,hF,v,rfl⟩;replace hF:=ae hF;have MF:(cX D k 2).ns=D.ns.set k { nd with watchers:=[] }:=by unfold cX;rw [aa hk]
 have oe:(cX D k 2).ns[k]?=some { nd with watchers:=[] }:=by rw [MF];exact bN (aa hk) _
 have Na:KD (cX D k 2).ns:=by rw [MF];exact hD.set (aa hk) rfl
 obtain ⟨-,-,-,-,-,h5,-⟩:=hP.gw;obtain ⟨M,n,o,-,-,-⟩:=hP.mu;have dC:keyOf prog 9 (.string (aY nd.path))=some (bL nd.path):=by rw [WideMaps.keyOf_string_mk underlying9 (by rw [cW];have:=hT.pl;unfold maxLen;omega),iJ]
 have HP:=ae (ag hP (ag oe Na));obtain ⟨w',du,ho,oU⟩:=o.drop lD underlying130 dC 0;have HT:=ae (ag ho oU);have O:=ae o;go_wp2
 go_end0
 have On:=One.SR HP.1.be HT.2.grown HP.1.lo.2.2 (ownsMap_at O);refine ⟨?_,⟨hF.1.trans On.fr,hF.2.trans (On.kb (by simp [PL])) hF.1.1⟩,_,rfl⟩;refine HP.1.aj4 HP.2.1 On (fun j z hz e=>HP.2.2 j k z _ hz HP.2.1 e) (fun M' n' o'=>?_);obtain ⟨w2,yr,um,-⟩:=o'.drop lD underlying130 dC 0;rw [du] at yr;cases yr;exact um
theorem PS.Zb {SB NB HB UB:List Nat} (h:PS w0 w b bs bn D SB NB HB UB) (hi:D.ns[i]?=some nd) (hg:NB[i]?=some g) (mB:HB[i]?=some hh) (mY:UB[i]?=some uu) (O:One w0 w w' g) (V:Value) (vl:List Int) (ow mo ep ge:Int) (hc:w'.heap[g]?=some (.cells #[V,.int .u64 ow,.int .i64 mo,.map (some hh),.int .u64 ep,.int .u64 ge,.map (some uu)] 137)) (hV:AB w0 w' V vl) :
  PS w0 w' b bs bn { D with ns:=D.ns.set i { nd with value:=vl,owner:=ow,mode:=mo,aD:=ep,gen:=ge } } SB NB HB UB:=by
 obtain ⟨lo,⟨V0,q1,-⟩,q3,q4⟩:=h.lu i nd g hh uu hi hg mB mY;obtain ⟨es,c,m3⟩:=q3.at;obtain ⟨Vl,c',m4⟩:=q4.at;refine h.Cf hi hg mB mY (.inl rfl) O rfl ⟨lo,⟨V,hc,hV⟩,q3.aM O (fun e=>?_),q4.aM O (fun e=>?_)⟩;{rw [e,q1] at m3;cases m3};{rw [e,q1] at m4;cases m4}
theorem One.ofC (be:Below w0.heap.size w0 w) (hb:Below g w w') (hg:w.heap[g]?=some (.cells cs ty)) (uv:w0.heap.size<=g) (ht:ty∈[35,137,132]) (hk:∀ z,z<w.heap.size->z≠g->w'.heap[z]?=w.heap[z]?):One w0 w w' g:=by
 refine ⟨hb.mono uv,hk,fun cur JF m hc=>?_⟩;rw [hg] at hc;simp at hc;rw [<-hc.2.1];exact ht
theorem yN {α:Type} (l:List α) (k:Nat) (a c:α):(l.set k a).set k c=l.set k c:=by simp
theorem DJ (w:World) (b bs bn:Nat) (D:SD) (SB NB HB UB:List Nat) (h:Hid (PS w0 w b bs bn D SB NB HB UB)) (k:Nat) (nd:aA) (hk:Hid (D.ns[k]?=some nd)) (hS:Hid (xu D.ss)) (hT:Hid (NT D.ss nd)) (id:Int) (hid:0<=id/\id<18446744073709551616) (Xp:Hid (nd.holders.Pairwise (·<·))) (hhl:nd.holders.length<=1048576) (MJ:Hid (nd.holders.contains id=true)) :
  Calls prog 259 #[.pointer (some ⟨b,0,none⟩),.string (aY nd.path),.int .u64 id] w fun r w'=>PS w0 w' b bs bn (cE D k id) SB NB HB UB/\(Fr T3 w w'/\Kb (PL b bs bn SB NB HB UB) w w')/\∃ v,r=.returned v:=by
 obtain ⟨g,hh,uu,hg,mB,mY,hN,hlk⟩:=h.Gw hk hT.pl;obtain ⟨V,hV,gc,-,n1,n2,n3,n4,n5,n6,nf⟩:=hN.cells;obtain ⟨-,-,-,-,-,h5,-⟩:=h.gw;obtain ⟨M,nn,oM,Rc,sM,zM⟩:=hN.Rh;have dC:=keyOf_int_mk underlying23 (kU hid);obtain ⟨w1,du,ho,oU⟩:=oM.drop gD underlying84 dC 0;have O1:=One.SR h.be oU.grown hN.lo.2.1 (ownsMap_at oM);have S1:=SM.del (w:=w) sM Xp Rc ho;have P1:=h.Rh hk hg mB mY O1 S1;have oe:=bN hk { nd with holders:=ju nd.holders id }
 obtain ⟨V1,UK,gc1,m0,m1,m2,m3,m4,m5,m6,mf⟩:=(P1.lu k _ g hh uu oe hg mB mY).cells;obtain ⟨M1,nn1,oM1,-,-,zM1⟩:=S1;have hlen:=oM1.len underlying84 3;rw [zM1] at hlen;obtain ⟨nl,iI⟩:∃ nl,Hid ((ju nd.holders id).length=nl):=⟨_,ae rfl⟩;rw [aa iI] at hlen;have Jv:=ae (ag P1 oe);have F1:=ae O1.fr;have K1:=ae (O1.kb (L:=PL b bs bn SB NB HB UB) (by simp [PL,aF mB]));have qy:=ae (ag hg (ag mB mY));have QX:=ae (ag gc1 UK);have glo:=hN.lo.1;go_enter func259,ntmps259;by_cases h0:nl=0;{
 subst h0;have lG:ju nd.holders id=[]:=List.length_eq_zero_iff.1 iI;obtain ⟨Z,hZ⟩:=ar (((w1.setCell ⟨g,2,none⟩ (.int .i64 0)).setCell ⟨g,4,none⟩ (.int .u64 0)).setCell ⟨g,5,none⟩ (.int .u64 0));have Tl:Z.heap[g]?=some (.cells #[V1,.int .u64 nd.owner,.int .i64 0,.map (some hh),.int .u64 0,.int .u64 0,.map (some uu)] 137):=by rw [hZ];simp [World.setCell,Array.getElem?_modify,QX.1]
 have bZ:Below g w1 Z:=by rw [hZ];exact ((ay.setCell (p:=⟨g,2,none⟩) ax _).setCell (p:=⟨g,4,none⟩) ax _).setCell (p:=⟨g,5,none⟩) ax _
 have kZ:∀ z,z<w1.heap.size->z≠g->Z.heap[z]?=w1.heap[z]?:=fun z _ bq=>by rw [hZ];iterate 3 rw [dt _ _ _ _ (show z≠_ from bq)]
 have OZ:=One.ofC Jv.1.be bZ QX.1 glo (by simp) kZ;have PZ:=Jv.1.Zb Jv.2 qy.1 qy.2.1 qy.2.2 OZ V1 nd.value nd.owner 0 0 0 Tl (QX.2.fr OZ.fr (by decide));simp only [yN,lG] at PZ;have HPZ:=ae PZ;have FZ:=ae (F1.trans OZ.fr);have KZ:=ae (K1.trans (OZ.kb (by simp [PL,aF qy.1])) F1.1);have Ug:=ae (bN hk { nd with holders:=[],mode:=0,aD:=0,gen:=0 });have fz2:=mf 2;have HJ:=mf 4;have Vh:=mf 5;go_wp2_with fail;rw [<-hZ];refine (FK Z b bs bn _ SB NB HB UB HPZ k { nd with holders:=[],mode:=0,aD:=0,gen:=0 } Ug 3 hS (ae ⟨hT.VH,hT.pl,hT.Q9,hT.DA,hT.xz⟩)).mono ?_;rintro r w5 ⟨PJ,Rs,v5,rfl⟩;replace Rs:=ae Rs;go_wp2
 go_end0
 refine ⟨?_,⟨FZ.trans Rs.1,KZ.trans Rs.2 FZ.1⟩,_,rfl⟩;unfold cE;rw [aa hk];simp only [aa MJ,if_true,lG];exact PJ};{
 have C8:(0:Int)<(nl:Int):=by omega
 go_wp2;refine bodyPost_ret (results_none (by rfl) _ _ _) rfl ?_;refine ⟨?_,⟨F1,K1⟩,_,rfl⟩;have bq:ju nd.holders id≠[]:=fun e=>h0 (by rw [<-aa iI,e];rfl);unfold cE;rw [aa hk];simp only [aa MJ,if_true,if_neg bq];exact Jv.1}

theorem Gq (e g x t:Int) (p:Option Addr) (n c:Nat) (q:Option Addr) (m d:Nat) (ss:List aL) (Qs:List Value) (ns:List aA) (en:Hid (ss.length=n)) (em:Hid (ns.length=m)) (B:Nat) (w:World) (hS:Hid (de B w (.slice p n c) ss Qs)) (hN:Hid (jh B w (.slice q m d) ns)) (hB:B<=w.heap.size) (hn:n<=1048576) (hx:0<=x/\x<=4611686018427387904) (ht:0<=t/\t<=1000000) :
  Calls prog 103 #[cK e g x t (.slice p n c) (.slice q m d)] w fun r w'=>QR B w w' r (jG ⟨e,g,x,t,ss,ns⟩).1 (jG ⟨e,g,x,t,ss,ns⟩).2:=by
 obtain ⟨W0,cA,b0,z0,C0⟩:=bg w (.int .u64 e) (.int .u64 g) (.int .u64 x) (.int .i64 t) (.slice p n c) (.slice q m d);obtain ⟨W1,fP,b1,z1,C1⟩:=bg W0 (.int .u64 0) (.int .u64 0) (.int .u64 0) (.int .i64 0) (.slice none 0 0) (.slice none 0 0);obtain ⟨W2,iY,b2,z2,C2⟩:=gP W1 (.int .i64 0) (.int .u64 0) (.int .u64 0) (.int .u64 0) (.int .i64 0) aq aq aq;rw [z0] at C1 z1;rw [z1] at C2 z2;have HC:=ae (ag ((C0.below b1).below b2) (ag (C1.below b2) C2));have bW:=ae (ai (ai b0 b1) b2);have HS:=ae (ag (hS.fr (Fr.below (T:=[]) (aa bW)) (by decide)) (hN.fr (Fr.below (T:=[]) (aa bW)) (by decide)));clear b0 b1 b2 C0 C1 C2;go_enter func103,ntmps103;by_cases XL:50<=n;{
 have af8:decide ((50:Int)<=(n:Int))=true:=by simp;omega
 have hI:jG ⟨e,g,x,t,ss,ns⟩=(⟨e,g,x,t,ss,ns⟩,qV 11):=by unfold jG;rw [if_pos (by simpa [aa en] using XL)]
 rw [hI];go_wp2_with fail;rw [<-cA,<-fP,<-iY];refine df _ 1 2 3 9 10 _ 11 w.heap.size (w.heap.size+1) (w.heap.size+1+1) e g x t p n c q m d (by kernel_rfl) rfl (fun _ _=>rfl) (fun _ _=>rfl) (fun _ _=>rfl) (fun _ _=>rfl) HC.1 HC.2.1 HC.2.2 (by omega) w.heap.size (by omega) (by omega) ?_;intro w' bf gF f1 fg;have HQ:=ae (QR.num (e:=e) (g:=g) (x:=x) (t:=t) en em HS.1 HS.2 (Fr.below bW) (bW.mono hB) f1 fg hB 11 0 0 0 0);clear cA fP iY f1 fg;obtain ⟨q0,q1,q2,q3,q4,q5,qf⟩:=bf.cells;obtain ⟨r0,r1,r2,r3,r4,r5,r6,r7,rf⟩:=gF.cells;simp only [Act.put,xa,xb,xc];go_wp2;exact bodyPost_ret (v:=.tuple #[cK e g x t (.slice p n c) (.slice q m d),fW 11 0 0 0 0 aq aq aq]) (by simp [results,results103,go_sem,q0,q1,q2,q3,q4,q5,r0,r1,r2,r3,r4,r5,r6,r7]) rfl (aa HQ)};{
 have af8:decide ((50:Int)<=(n:Int))=false:=by simp;omega
 by_cases rH:4611686018427387904<=x;{
 have Zp:decide (4611686018427387904<=x)=true:=by simp;omega
 have hI:jG ⟨e,g,x,t,ss,ns⟩=(⟨e,g,x,t,ss,ns⟩,qV 12):=by unfold jG;rw [if_neg (by simpa [aa en] using XL),if_pos rH]
 rw [hI];go_wp2_with fail;rw [<-cA,<-fP,<-iY];refine df _ 1 2 3 14 15 _ 12 w.heap.size (w.heap.size+1) (w.heap.size+1+1) e g x t p n c q m d (by kernel_rfl) rfl (fun _ _=>rfl) (fun _ _=>rfl) (fun _ _=>rfl) (fun _ _=>rfl) HC.1 HC.2.1 HC.2.2 (by omega) w.heap.size (by omega) (by omega) ?_;intro w' bf gF f1 fg;have HQ:=ae (QR.num (e:=e) (g:=g) (x:=x) (t:=t) en em HS.1 HS.2 (Fr.below bW) (bW.mono hB) f1 fg hB 12 0 0 0 0);clear cA fP iY f1 fg;obtain ⟨q0,q1,q2,q3,q4,q5,qf⟩:=bf.cells;obtain ⟨r0,r1,r2,r3,r4,r5,r6,r7,rf⟩:=gF.cells;simp only [Act.put,xa,xb,xc];go_wp2;exact bodyPost_ret (v:=.tuple #[cK e g x t (.slice p n c) (.slice q m d),fW 12 0 0 0 0 aq aq aq]) (by simp [results,results103,go_sem,q0,q1,q2,q3,q4,q5,r0,r1,r2,r3,r4,r5,r6,r7]) rfl (aa HQ)};{
 have Zp:decide (4611686018427387904<=x)=false:=by simp;omega
 have hI:jG ⟨e,g,x,t,ss,ns⟩=(⟨e,g,x+1,t,ss++[(x+1,t+10,[])],ns⟩,⟨0,x+1,0,0,t+10,[],[],[]⟩):=by unfold jG;rw [if_neg (by simpa [aa en] using XL),if_neg rH];rfl
 rw [hI];have wx:IntKind.u64.wrap (x+1)=x+1:=IntWalk.u64_in _ (by omega);have wt:IntKind.i64.wrap (t+10)=t+10:=IntWalk.i64_in _ (by omega);clear cA fP iY z0 z1 z2 HC HS bW;obtain ⟨V0,UL,b0,z0,C0⟩:=bg w (.int .u64 e) (.int .u64 g) (.int .u64 (x+1)) (.int .i64 t) (.slice p n c) (.slice q m d);obtain ⟨V1,UK,b1,z1,C1⟩:=bg V0 (.int .u64 0) (.int .u64 0) (.int .u64 0) (.int .i64 0) (.slice none 0 0) (.slice none 0 0);obtain ⟨V2,hV2,b2,z2,C2⟩:=gP V1 (.int .i64 0) (.int .u64 0) (.int .u64 0) (.int .u64 0) (.int .i64 0) aq aq aq;obtain ⟨V3,PF,b3,z3,C3,-⟩:=aj V2 #[.int .u64 (x+1),.int .i64 (t+10),.slice none 0 0] 35;rw [z0] at C1 z1;rw [z1] at C2 z2;rw [z2] at C3 z3;have HC:=ae (ag (((C0.below b1).below b2).below b3) (ag ((C1.below b2).below b3) (C2.below b3)));have bW:=ae (ai (ai (ai b0 b1) b2) b3);have HS:=ae (ag (hS.fr (Fr.below (T:=[]) (aa bW)) (by decide)) (hN.fr (Fr.below (T:=[]) (aa bW)) (by decide)));have Mi:=ae C3;have lz:Hid ((ss.zip Qs).length=n):=by show _=_;rw [List.length_zip,hS.len,aa en];simp
 have uv:Hid (∀ b,(Value.slice p n c).ownBlock=some b->B<=b/\b<w.heap.size):=fun b hb=>hS.row.lt b hb;clear b0 b1 b2 b3 C0 C1 C2 C3 z0 z1 z2;go_wp2_with (at_builtin;rw [<-UL,<-UK,<-hV2,<-PF];refine fh rfl _ _ rfl B (.slice p n c) (ss.zip Qs) ((x+1,t+10,[]),aq) n lz rfl HS.1.row (w.heap.size+1+1+1) rfl rfl Mi.1 (by omega) (by omega) ?_);intro p' c' w9 wh cT rj;rw [<-UL,<-UK,<-hV2,<-PF] at cT rj;have S9:=HS.1.FV rj _ _ wh;have N9:=aR.fr HS.2 rj (by decide);have B9:Below B w w9:=(bW.mono hB).grown cT (by omega) (fun b hb=>(aa uv b hb).1);have F9:Fr [49,35,38] w w9:=(Fr.below (aa bW)).trans (rj.sub (by simp));have X0:=HC.1.fr rj (by decide);have X1:=HC.2.1.fr rj (by decide);have X2:=HC.2.2.fr rj (by decide);obtain ⟨k0,k1,k2,k3,k4,k5,kf⟩:=X0.cells;obtain ⟨fA,bA,gA⟩:=X0.Vk (j:=4) F9 B9 ax hB (.slice p' (n+1) c');obtain ⟨Z,hZ⟩:=ar (w9.setCell ⟨w.heap.size,4,none⟩ (.slice p' (n+1) c'));have CZ:al Z w.heap.size [.int .u64 e,.int .u64 g,.int .u64 (x+1),.int .i64 t,.slice p' (n+1) c',.slice q m d]:=by rw [hZ];exact X0.1.da 4 (by simp) _
 have X1':=X1.nF (b:=w.heap.size) (j:=4) (u:=.slice p' (n+1) c') (by omega);rw [<-hZ] at fA bA gA X1';have X2':=X2.fr gA (by decide);have HZ:=ae (ag CZ (ag X1' X2'));have QP:=ae (ag (S9.fr gA (by decide)) (ag (aR.fr N9 gA (by decide)) (ag fA bA)));have zZ:w.heap.size+3<Z.heap.size+1:=by have:=X2'.1;have:=fA.1;have h9:=rj.1;have:=gA.1;omega
 clear wh cT rj S9 N9 B9 F9 X0 X1 X2 fA bA gA CZ X1' X2' UL UK hV2 PF HC HS Mi lz uv bW;go_wp2_with fail;rw [<-hZ];clear hZ k0 k1 k2 k3 k4 k5 kf;obtain ⟨vA,bM⟩:=ar Z.drew;have cg:Below Z.heap.size Z vA:=by rw [bM];exact ay.drew
 have HA:=ae (ag (HZ.1.below (by omega) cg) (ag (HZ.2.1.below cg) (HZ.2.2.below cg)));have BA:=ae cg;refine wp_region_noPanic ?_;refine wp_region_held_drew (S:=fun w'=>w'.cell? ⟨w.heap.size,0,none⟩=some (.int .u64 e)/\w'.cell? ⟨w.heap.size,1,none⟩=some (.int .u64 g)/\w'.cell? ⟨w.heap.size,2,none⟩=some (.int .u64 (x+1))/\w'.cell? ⟨w.heap.size,3,none⟩=some (.int .i64 t)/\w'.cell? ⟨w.heap.size,4,none⟩=some (.slice p' (n+1) c')/\w'.cell? ⟨w.heap.size,5,none⟩=some (.slice q m d)) (by kernel_rfl) (by rw [<-bM];exact ⟨HA.1.1 0 _ rfl,HA.1.1 1 _ rfl,HA.1.1 2 _ rfl,HA.1.1 3 _ rfl,HA.1.1 4 _ rfl,HA.1.1 5 _ rfl⟩) (fun hS=>?_);rw [<-bM] at hS ⊢;clear bM cg;refine gp 0 1 2 3 hS ?_;refine tn 4 hS ?_;refine aH 5 fun KK hK=>?_;obtain ⟨k0,k1,k2,k3,k4,k5,kf⟩:=HA.2.1.cells;go_simp;obtain ⟨X,hX⟩:=ar (aP vA (w.heap.size+1) (.int .u64 e) (.int .u64 g) (.int .u64 (x+1)) (.int .i64 t) (.slice p' (n+1) c') (.slice q m d));have bX:Below (w.heap.size+1) vA X:=by rw [hX];exact bH _ _ _ _ _ _ _ _
 have nw:=HA.2.1.put (.int .u64 e) (.int .u64 g) (.int .u64 (x+1)) (.int .i64 t) (.slice p' (n+1) c') (.slice q m d);have CX:=oE HA.1 (b:=w.heap.size+1) (by omega) (.int .u64 e) (.int .u64 g) (.int .u64 (x+1)) (.int .i64 t) (.slice p' (n+1) c') (.slice q m d);have fX:Fr [27] vA X:=by obtain ⟨-,cur,ht⟩:=HA.2.1;rw [hX];exact dJ ht
 rw [<-hX] at nw CX;have IT:=HA.2.2.fr fX (by decide);unfold aP at hX;rw [<-hX];have HX:=ae (ag nw (ag CX (ag IT (ag fX bX))));refine bm hK (by exact ⟨CX.1 0 _ rfl,CX.1 1 _ rfl,CX.1 2 _ rfl,CX.1 3 _ rfl,CX.1 4 _ rfl,CX.1 5 _ rfl⟩) fun hS=>?_;clear hK KK hX k0 k1 k2 k3 k4 k5 kf nw CX IT fX bX;refine aH 6 fun KK hK=>?_;obtain ⟨k0,k1,k2,k3,k4,k5,k6,k7,kf⟩:=HX.2.2.1.cells;go_simp;obtain ⟨Fm,fY⟩:=HX.2.2.1.put (.int .i64 0) (.int .u64 (x+1)) (.int .u64 0) (.int .u64 0) (.int .i64 (t+10)) aq aq aq;have bY:=aU X (w.heap.size+1+1) (.int .i64 0) (.int .u64 (x+1)) (.int .u64 0) (.int .u64 0) (.int .i64 (t+10)) aq aq aq;obtain ⟨Y,hY⟩:=ar (fk X (w.heap.size+1+1) (.int .i64 0) (.int .u64 (x+1)) (.int .u64 0) (.int .u64 0) (.int .i64 (t+10)) aq aq aq);rw [<-hY] at Fm fY bY;unfold fk aP at hY;rw [<-hY];have CY:=HX.2.1.bc (bY.block _ (by omega));have BY:=ae (ag (HX.1.fr fY (by decide)) (ag Fm (ag ((Fr.below (T:=[27,41]) (aa BA)).trans ((HX.2.2.2.1.sub (by simp)).trans (fY.sub (by simp)))) ((BA.mono (by omega)).trans ((HX.2.2.2.2.mono (Nat.le_succ _)).trans (bY.mono (by omega)))))));refine bm hK (by exact ⟨CY.1 0 _ rfl,CY.1 1 _ rfl,CY.1 2 _ rfl,CY.1 3 _ rfl,CY.1 4 _ rfl,CY.1 5 _ rfl⟩) fun hS=>?_;clear hK KK hY k0 k1 k2 k3 k4 k5 k6 k7 kf Fm fY bY CY;refine wpAnyH_done (by kernel_rfl) ?_ _;refine aX ?_;clear hS;obtain ⟨bf,gF,f1,fg⟩:=aa BY;have HQ:=ae (QR.num (e:=e) (g:=g) (x:=x+1) (t:=t) (ae (by rw [List.length_append,aa en];rfl)) em QP.1 QP.2.1 QP.2.2.1 QP.2.2.2 f1 fg hB 0 (x+1) 0 0 (t+10));clear f1 fg;obtain ⟨q0,q1,q2,q3,q4,q5,qf⟩:=bf.cells;obtain ⟨r0,r1,r2,r3,r4,r5,r6,r7,rf⟩:=gF.cells;go_wp2;exact bodyPost_ret (v:=.tuple #[cK e g (x+1) t (.slice p' (n+1) c') (.slice q m d),fW 0 (x+1) 0 0 (t+10) aq aq aq]) (by simp [results,results103,go_sem,q0,q1,q2,q3,q4,q5,r0,r1,r2,r3,r4,r5,r6,r7]) rfl (aa HQ)}}
end Go.Proofs.YtcfcafeciggjeaaGreatDoor
