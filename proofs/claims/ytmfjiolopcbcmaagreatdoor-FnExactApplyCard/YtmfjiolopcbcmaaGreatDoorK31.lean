import Derived.Test.YtmfjiolopcbcmaaGreatDoorK22
import Derived.Test.YtmfjiolopcbcmaaGreatDoorK30
namespace Go.Proofs.YtmfjiolopcbcmaaGreatDoor
set_option maxHeartbeats 6400000
set_option linter.unusedVariables false
set_option linter.unusedSimpArgs false
set_option maxRecDepth 100000
open Go.ChangeShapes Go.WideShapes Go.ChangeAt Go.RowKit Go.Maps Go.Proofs.Tryz
variable {B b bn bs g hh i k uu z:Nat} {D:SD} {L:List Nat} {cs:Array Value} {es:List Ev} {id:Int} {ls:List (List Value)} {nd nd':aA} {ns:List aA} {s:List Int} {ss:List aR} {ty:TypeId} {v:Value} {w w' w0:World}
theorem Ih (n:Nat) (w:World) (hn:n<=2097152) :
  Calls prog 248 #[.slice none 0 0,.int .i64 n] w fun e w'=>∃ p' c',e=.returned (.slice p' 0 c')/\w'.ownsRow w.heap.size 147 2 (.slice p' 0 c') 0 []/\Below w.heap.size w w':=by
 obtain ⟨i,hi,jG,gi,gP⟩:=info_parts Tryz.infoEv;by_cases h:n=0;{subst h;go_enter func248,ntmps248;go_wp2;go_ret;exact ⟨none,0,rfl,World.ownsRow_nil _ _ _ _,Below.refl _ _⟩};{
 have hp:(0:Int)<(n:Int):=by omega
 have hr:=Lib.run_append_nil_zeros (P:=prog) w 37 3 37 147 i (.agg #[.int .i64 0,.slice none 0 0]) .i64 .i64 underlying37 underlying3 hi jG n (by omega) (by omega) (by omega) (by rw [gP];omega);have HR:=ae hr;have oE:=grownCap_ge w n 0 147;have Qc:=grownCap_le_maxLen w n 0 147 (by unfold maxLen;omega);generalize grownCap w n 0 147=cc at HR oE Qc;go_enter func248,ntmps248;go_wp2_with (at_builtin;refine Lib.wpList_append_run _ rfl _ _ _ _ rfl _ _ rfl rfl _ _ (by exact HR) ?_);unfold maxLen at Qc;go_wp2;go_ret;have hs:(Builtin.zeroCells #[Value.int IntKind.i64 0,Value.slice none 0 0] n++Builtin.zeroCells #[Value.int IntKind.i64 0,Value.slice none 0 0] (cc-n)).size=cc*2:=by rw [Array.size_append,size_zeroCells,size_zeroCells];simp;omega
 exact ⟨_,cc,rfl,World.ownsRow_made (base:=w.heap.size) (e:=147) (size:=2) w _ cc ay (by unfold maxLen;omega) hs,(ar.alloc ay _).drew⟩}
def ae1 (ls:List (List Value)) (N:Nat):Prop:=ls.flatten.length=N*2
def vU (w:World) (g:Nat) (vs:List Value) (ls:List (List Value)):Prop:=vs.length=ls.length/\∀ j v l,vs[j]?=some v->ls[j]?=some l->w.cell? ⟨g,j,none⟩=some v/\(∀ u∈l,u.oneCell'=true)/\∃ n p c,l.length=n*2/\v=.slice p n c/\(l=[]\/∃ a,p=some a/\∀ i u,l[i]?=some u->w.cell? (a.add i)=some u)
theorem vU.below {vs:List Value} (h:vU w g vs ls) (hb:Below w.heap.size w w'):vU w' g vs ls:=by
 refine ⟨h.1,fun j v l e1 e2=>?_⟩;obtain ⟨h1,h2,n,p,c,h3,h4,h5⟩:=h.2 j v l e1 e2;refine ⟨af h1 hb,h2,n,p,c,h3,h4,h5.imp id fun ⟨a,ea,ha⟩=>⟨a,ea,fun i u hu=>?_⟩⟩;have hc:=ha i u hu;exact (hb.cell (p:=a.add i) (World.block_lt_of_cell? w _ hc)).trans hc
theorem vH {l:List Value} (h:ls[k]?=some l):(ls.take (k+1)).flatten=(ls.take k).flatten++l:=by
 rw [List.take_add_one,h,List.flatten_append];simp
theorem rq (ls:List (List Value)) (k:Nat):(ls.take k).flatten.length<=ls.flatten.length:=by
 have e:ls.flatten=(ls.take k).flatten++(ls.drop k).flatten:=by rw [<-List.flatten_append,List.take_append_drop]
 rw [e,List.length_append];omega
theorem Dr (g:Nat) (vs:List Value) (ls:List (List Value)) (w:World) (h:vU w g vs ls) (hl:ls.flatten.length<=2097152) (hk:ls.length<=1000) :
  Calls prog 247 #[.slice (some ⟨g,0,none⟩) ls.length ls.length] w fun e w'=>∃ N p' c',e=.returned (.slice p' N c')/\ae1 ls N/\w'.ownsRow w.heap.size 147 2 (.slice p' N c') N ls.flatten/\Below w.heap.size w w':=by
 obtain ⟨i,hi,jG,gi,gP⟩:=info_parts Tryz.infoEv;have HI:=ae (ag hi (ag jG (ag gi gP)));have HH:=ae fun (w':World) (hb:Below w.heap.size w w')=>h.below hb;obtain ⟨nn,VA⟩:∃ nn,Hid (ls.length=nn):=⟨_,ae rfl⟩;rw [aa VA] at hk ⊢;go_enter func247,ntmps247;go_wp2
 go_loopw [3,11] (fun s i wr=>∃ k N:Nat,k<=nn/\i=.int .i64 k/\s=.int .i64 N/\Hid ((ls.take k).flatten.length=N*2)/\wr=w) (fun _ i _=>nn-(intOf i).toNat)
 case atStart=>exact ⟨0,0,Nat.zero_le _,rfl,rfl,(by show _=_;simp),rfl⟩
 case round =>(
 obtain ⟨k,N,oo,rfl,rfl,hN,rfl⟩:=hrel;have gO:=rq ls k;rw [aa hN] at gO;by_cases aU:k<nn;{
 have aV:(k:Int)<(nn:Int):=by omega
 obtain ⟨l,e1⟩:∃ l,ls[k]?=some l:=⟨_,aH (by rw [aa VA];exact aU)⟩;obtain ⟨GH,Aj⟩:=aa HH _ ar;obtain ⟨v,e2⟩:∃ v,vs[k]?=some v:=⟨_,aH (by rw [GH,aa VA];exact aU)⟩;obtain ⟨c1,-,n,p,c,h3,rfl,-⟩:=Aj k v l e2 e1;have cF:=vH e1;have E1:=ae (by rw [cF,List.length_append,aa hN,h3];omega:(ls.take (k+1)).flatten.length=(N+n)*2);have Fe:=rq ls (k+1);rw [aa E1] at Fe;go_wp2;go_roundw
 case rel=>exact ⟨k+1,N+n,by omega,by go_num,by go_num,E1,by first | rfl | trivial⟩
 case measure=>simp [intOf];omega}
 {
 have ek:k=nn:=by omega
 subst ek;have aV:¬ (k:Int)<(k:Int):=by omega
 have e9:=aa hN;rw [List.take_of_length_le (by rw [aa VA];omega)] at e9;have E9:=ae e9;go_wp2_with fail;obtain ⟨wo,rfl⟩:=ax wr;refine (Ih N wo (by omega)).mono ?_;rintro e w1 ⟨p1,c1,rfl,o1,aK⟩;have O1:=ae o1;have B1:=ae aK;go_wp2
 go_loopw [6,27] (fun v i w2=>∃ (j M:Nat) (po:Option Addr) (co:Nat),j<=k/\i=.int .i64 j/\v=.slice po M co/\Hid ((ls.take j).flatten.length=M*2)/\Hid (w2.ownsRow wo.heap.size 147 2 (.slice po M co) M (ls.take j).flatten)/\Hid (Below wo.heap.size wo w2)) (fun _ i _=>k-(intOf i).toNat)
 case atStart=>exact ⟨0,0,p1,c1,Nat.zero_le _,rfl,rfl,(by show _=_;simp),by simpa using O1,B1⟩
 case round =>(
 obtain ⟨j,M,po,co,hj,rfl,rfl,hM,ho,aG⟩:=hrel;have aE3:=rq ls j;rw [aa hM] at aE3;have z2:=aG.size;by_cases tz:j<k;{
 have KJ:(j:Int)<(k:Int):=by omega
 obtain ⟨l,e1⟩:∃ l,ls[j]?=some l:=⟨_,aH (by rw [aa VA];exact tz)⟩;obtain ⟨GH,Aj⟩:=aa HH _ aG;obtain ⟨v,e2⟩:∃ v,vs[j]?=some v:=⟨_,aH (by rw [GH,aa VA];exact tz)⟩;obtain ⟨c2,H6,n,p,c,h3,rfl,cO⟩:=Aj j v l e2 e1;have cF:=vH e1;have E1:=ae (by rw [cF,List.length_append,aa hM,h3];omega:(ls.take (j+1)).flatten.length=(M+n)*2);have Fe:=rq ls (j+1);rw [aa E1] at Fe;have HS:=ae cF;have H3:=ae h3;have HO:=ae H6;cases p with
 | none=>
  have el:l=[]:=cO.resolve_right (fun ⟨a,ea,_⟩=>by cases ea);subst el;have en0:n=0:=by have:=aa H3;simp at this;omega
  subst en0;have HA:=ae (dJ (P:=prog) wr wo.heap.size 37 37 147 i 2 underlying37 HI.1 _ _ _ c ho);go_wp2_with (at_builtin;refine Lib.wpList_append_run _ rfl _ _ _ _ rfl _ _ rfl rfl _ _ (by exact HA) ?_);go_roundw
  case rel=>exact ⟨j+1,M,po,co,by omega,by go_num,rfl,by simpa using E1,(by show World.ownsRow _ _ _ _ _ _ _;rw [aa HS];simpa using aa ho),aG⟩
  case measure=>simp [intOf];omega
 | some ad=>
  have xZ:∀ (jj:Nat) (u:Value),l[jj]?=some u->wr.cell? (ad.add jj)=some u:=by rcases cO with rfl | ⟨a,ea,ha⟩;{intro jj u hu;simp at hu};{cases ea;exact ha}
  go_wp2_with (at_builtin;refine wpList_append_own _ rfl _ _ 37 rfl wo.heap.size 147 i _ 2 32 underlying37 HI.1 HI.2.1 HI.2.2.1 HI.2.2.2 rfl (by decide) _ _ _ rfl ho ad n c l rfl H3 xZ HO (by unfold maxLen;omega) (by omega) aG.size ?_);intro v' w3 aS hg _;have b3:=ae (aG.grown hg aG.size (fun k hk=>(World.ownsRow.lt ho k hk).1));obtain ⟨p',c',rfl⟩:∃ p' c',v'=.slice p' (M+n) c':=by rcases aS.2 with ⟨rfl,h0⟩ | ⟨g',cap,cur,rfl,-⟩;{exact ⟨none,0,by rw [h0]⟩};{exact ⟨_,_,rfl⟩}
  have HW:=ae aS;go_wp2;go_roundw
  case rel=>exact ⟨j+1,M+n,p',c',by omega,by go_num,rfl,E1,(by show World.ownsRow _ _ _ _ _ _ _;rw [aa HS];exact aa HW),b3⟩
  case measure=>simp [intOf];omega}
 {
 have ej:j=k:=by omega
 subst ej;have KJ:¬ (j:Int)<(j:Int):=by omega
 have e8:=aa ho;have e7:=aa hM;rw [List.take_of_length_le (by rw [aa VA];omega)] at e8 e7;have HE:=ae (ag e8 e7);go_wp2;go_ret;exact ⟨M,po,co,rfl,HE.2,HE.1,aG⟩})})
def VH (w0 w:World) (e:Ev) (c:List Value):Prop:=∃ P,c=[.int .i64 e.1,P]/\AB w0 w P e.2/\dh P
theorem VH.fr {T:List TypeId} (hf:Fr T w w') (ht:5∉T) (e:Ev) (c:List Value) (h:VH w0 w e c):VH w0 w' e c:=by
 obtain ⟨P,h1,h2,h3⟩:=h;exact ⟨P,h1,h2.fr hf ht,h3⟩
theorem Sx {cs:List (List Value)} (h2:∀ c∈cs,c.length=2):cs.flatten.length=cs.length*2:=by
 induction cs with
 | nil=>rfl
 | cons c r ih=>rw [List.flatten_cons,List.length_append,h2 c (by simp),ih (fun d hd=>h2 d (by simp [hd])),List.length_cons];omega
theorem AQ.cells {p:Option Addr} {n c:Nat} (h:AQ w0 w (.slice p n c) es):n=es.length/\∃ cs:List (List Value),cs.length=es.length/\(∀ c∈cs,c.length=2)/\(∀ (i:Nat) (e:Ev) (c:List Value),es[i]?=some e->cs[i]?=some c->VH w0 w e c)/\(cs.flatten=[]\/∃ a,p=some a/\∀ i u,cs.flatten[i]?=some u->w.cell? (a.add i)=some u):=by
 obtain ⟨p',c',e,h⟩:=h;simp only [Value.slice.injEq] at e;obtain ⟨rfl,en,rfl⟩:=e;refine ⟨en,?_⟩;rcases h with rfl | ⟨b,o,rfl,-,h⟩;{exact ⟨[],rfl,fun c hc=>by simp at hc,fun i e c he=>by simp at he,.inl rfl⟩};{
 have key:∀ (es:List Ev) (o:Nat),(∀ i e,es[i]?=some e->w.cell? ⟨b,o+i*2,none⟩=some (.int .i64 e.1)/\∃ u,w.cell? ⟨b,o+i*2+1,none⟩=some u/\AB w0 w u e.2/\dh u)->∃ cs:List (List Value),cs.length=es.length/\(∀ c∈cs,c.length=2)/\(∀ (i:Nat) (e:Ev) (c:List Value),es[i]?=some e->cs[i]?=some c->VH w0 w e c)/\∀ i u,cs.flatten[i]?=some u->w.cell? ⟨b,o+i,none⟩=some u:=by
  intro es
  induction es with
  | nil=>intro o h;exact ⟨[],rfl,fun c hc=>by simp at hc,fun i e c he=>by simp at he,fun i u hu=>by simp at hu⟩
  | cons e r ih=>
   intro o h;obtain ⟨cs,h1,h2,h3,h4⟩:=ih (o+2) (fun i e he=>by have:=h (i+1) e (by simpa using he);rw [show o+(i+1)*2=o+2+i*2 by omega] at this;exact this)
   obtain ⟨k0,u,k1,k2,k3⟩:=h 0 e rfl;refine ⟨[.int .i64 e.1,u]::cs,by simp [h1],fun c hc=>?_,fun i e' c he hc=>?_,fun i v hv=>?_⟩;{
 rcases List.mem_cons.1 hc with rfl | hc;{rfl}
 {exact h2 c hc}};{
 cases i with
 | zero=>simp at he hc;subst he hc;exact ⟨u,rfl,k2,k3⟩
 | succ i=>exact h3 i e' c (by simpa using he) (by simpa using hc)}
   {
 match i,hv with
 | 0,hv=>simp at hv;subst hv;simpa using k0
 | 1,hv=>simp at hv;subst hv;simpa using k1
 | i+2,hv=>
  have:=h4 i v (by simpa using hv);rw [show o+(i+2)=o+2+i by omega];exact this}
 obtain ⟨cs,h1,h2,h3,h4⟩:=key es o h;exact ⟨cs,h1,h2,h3,.inr ⟨_,rfl,fun i u hu=>by rw [Addr.add_lit];exact h4 i u hu⟩⟩}
theorem AQ.ax6 (h:RT (VH w0) 147 2 B w v es):AQ w0 w v es:=by
 obtain ⟨p,c,rfl,-,-,hp⟩:=RT.form h;refine ⟨p,c,rfl,?_⟩;by_cases h0:es=[];{exact .inl h0};{obtain ⟨g,rfl⟩:=hp (List.length_pos_iff.2 h0);obtain ⟨cur,hc⟩:=h.yE g rfl;refine .inr ⟨g,0,rfl,.inr ⟨cur,_,hc⟩,fun i e he=>?_⟩;obtain ⟨cs,-,⟨P,rfl,h1,h2⟩,jA,-⟩:=RT.at h he;rw [Nat.zero_add];exact ⟨jA 0 _ rfl,P,jA 1 _ rfl,h1,h2⟩}
theorem JS {s:aR} (h:PE w0 w g s):∃ pq cq,w.heap[g]?=some (.cells #[.int .u64 s.1,.int .i64 s.2.1,.slice pq s.2.2.length cq] 95)/\AQ w0 w (.slice pq s.2.2.length cq) s.2.2/\(∀ o,w.frozen? ⟨g,o,none⟩=false):=by
 obtain ⟨-,u,h1,h2⟩:=h;obtain ⟨p,c,rfl,h3⟩:=id h2;exact ⟨p,c,h1,h2,fun o=>by simp [World.frozen?,h1]⟩
theorem C8 {w5:World} {s:aR} {v':Value} {q':List Ev} (be:Below w0.heap.size w0 w) (hE:PE w0 w g s) (hb:Below w.heap.size w w5) (hq:AQ w0 w5 v' q'):One w0 w (w5.setCell ⟨g,2,none⟩ v') g/\PE w0 (w5.setCell ⟨g,2,none⟩ v') g (s.1,s.2.1,q'):=by
 obtain ⟨h0,u,h1,h2⟩:=hE;have h5:=(hb.block g (aI h1)).trans h1;have f:Fr [95] w5 (w5.setCell ⟨g,2,none⟩ v'):=Fr.set h5 (by simp);have bu:Below w0.heap.size w5 (w5.setCell ⟨g,2,none⟩ v'):=ar.setCell (p:=⟨g,2,none⟩) h0 _;refine ⟨⟨(hb.mono be.size).trans bu,fun z hz bm=>(dr _ _ _ _ bm).trans (hb.block z hz),fun cur ty m hc=>?_⟩,h0,v',by simp [World.setCell,Array.getElem?_modify,h5],hq.fr bu f (by decide)⟩;rw [h1] at hc;simp at hc;simp [<-hc.2.1]
theorem GP {pq pe:Option Addr} {nq cq ge:Nat} {ev:Ev} {Pv:Value} (hQ:AQ w0 w (.slice pq nq cq) es) (hv:AB w0 w Pv ev.2) (hc:dh Pv) (hn:nq<=1000) (h0:w.cell? ⟨z,0,none⟩=some (.slice pq nq cq)) (h1:w.cell? ⟨z,1,none⟩=some (.slice (some ⟨ge,0,none⟩) 1 1)) (k0:w.cell? ⟨ge,0,none⟩=some (.int .i64 ev.1)) (k1:w.cell? ⟨ge,1,none⟩=some Pv) :
  Calls prog 247 #[.slice (some ⟨z,0,none⟩) 2 2] w fun r w'=>∃ p' c',r=.returned (.slice p' (nq+1) c')/\AQ w0 w' (.slice p' (nq+1) c') (es++[ev])/\Below w.heap.size w w':=by
 obtain ⟨en,cs,g1,g2,g3,g4⟩:=hQ.cells;have H6:Pv.oneCell'=true:=by
  obtain ⟨_,_,_,rfl,-⟩:=hc
  rfl
 have hf:=Sx g2;have hPE:vU w z [.slice pq nq cq,.slice (some ⟨ge,0,none⟩) 1 1] [cs.flatten,[.int .i64 ev.1,Pv]]:=by
  refine ⟨rfl,fun j v l e1 e2=>?_⟩
  match j,e1,e2 with
  | 0,e1,e2=>
   simp at e1 e2;subst e1 e2;refine ⟨h0,fun u hu=>?_,nq,pq,cq,by rw [hf,g1,en],rfl,g4⟩;obtain ⟨l,hl,hul⟩:=List.mem_flatten.1 hu;obtain ⟨i,hi⟩:=List.mem_iff_getElem?.1 hl;obtain ⟨e,he⟩:∃ e,es[i]?=some e:=⟨_,aH (by rw [<-g1];exact (aM.1 hi).1)⟩;obtain ⟨P,rfl,-,⟨_,_,_,rfl,-⟩⟩:=g3 i e l he hi;simp at hul;rcases hul with rfl | rfl<;>rfl
  | 1,e1,e2=>
   simp at e1 e2;subst e1 e2;refine ⟨h1,fun u hu=>?_,1,some ⟨ge,0,none⟩,1,rfl,rfl,.inr ⟨_,rfl,fun i u hu=>?_⟩⟩;{
 simp at hu;rcases hu with rfl | rfl;{rfl}
 {exact H6}};{
 rw [Addr.add_lit,Nat.zero_add]
 match i,hu with
 | 0,hu=>simp at hu;subst hu;exact k0
 | 1,hu=>simp at hu;subst hu;exact k1}
 have gO:([cs.flatten,[.int .i64 ev.1,Pv]]:List (List Value)).flatten=(cs++[[.int .i64 ev.1,Pv]]).flatten:=by simp
 have hlen:([cs.flatten,[.int .i64 ev.1,Pv]]:List (List Value)).flatten.length=(nq+1)*2:=by
  rw [gO,Sx (fun c hc=>by rcases List.mem_append.1 hc with hc | hc;{exact g2 c hc};{simp at hc;subst hc;rfl}),List.length_append,g1,<-en]
  rfl
 refine (Dr z [.slice pq nq cq,.slice (some ⟨ge,0,none⟩) 1 1] [cs.flatten,[.int .i64 ev.1,Pv]] w hPE (by rw [hlen];omega) (by simp)).mono ?_;rintro r w' ⟨N,p',c',rfl,hN,ho,hb⟩;have eN:N=nq+1:=by unfold ae1 at hN;rw [hlen] at hN;omega
 subst eN;refine ⟨p',c',rfl,AQ.ax6 (B:=w.heap.size) ⟨cs++[[.int .i64 ev.1,Pv]],by simp [g1],fun c hc=>?_,?_,fun i y c hy jA=>?_⟩,hb⟩;{rcases List.mem_append.1 hc with hc | hc;{exact g2 c hc};{simp at hc;subst hc;rfl}};{rw [<-gO,List.length_append,<-en];exact ho};{
 have ku:Fr [] w w':=Fr.below hb;by_cases hi:i<es.length;{rw [List.getElem?_append_left hi] at hy;rw [List.getElem?_append_left (by omega)] at jA;exact VH.fr ku (by simp) _ _ (g3 i y c hy jA)};{
 have ei:i=es.length:=by have:=(aM.1 hy).1;simp at this;omega
 subst ei;rw [List.getElem?_append_right ay,Nat.sub_self] at hy;rw [List.getElem?_append_right (by omega),g1,Nat.sub_self] at jA;simp at hy jA;subst hy jA;exact ⟨Pv,rfl,hv.fr ku (by simp),hc⟩}}
theorem One.ofB (be:Below w0.heap.size w0 w) (hb:Below w.heap.size w w') (hg:w.heap[g]?=some (.cells cs ty)) (ht:ty∈[95,119,114]):One w0 w w' g:=by
 refine ⟨hb.mono be.size,fun z hz _=>hb.block z hz,fun cur Ox m hc=>?_⟩;rw [hg] at hc;simp at hc;rw [<-hc.2.1];exact ht
theorem PE.below {s:aR} (h:PE w0 w g s) (be:Below w0.heap.size w0 w) (hb:Below w.heap.size w w'):PE w0 w' g s:=by
 obtain ⟨h0,u,h1,h2⟩:=h;exact ⟨h0,u,(hb.block g (aI h1)).trans h1,h2.fr (hb.mono be.size) (Fr.below (T:=[]) hb) (by simp)⟩
theorem Vu (w:World) (gs:Nat) (s:aR) (K:Int) (P:List Int) (pe:Option Addr) (ne ce:Nat) (be:Hid (Below w0.heap.size w0 w)) (hE:Hid (PE w0 w gs s)) (hP:Hid (AB w0 w (.slice pe ne ce) P)) (hc:Hid (dh (.slice pe ne ce))) (hq:s.2.2.length<=1000) :
  Calls prog 246 #[.pointer (some ⟨gs,0,none⟩),.agg #[.int .i64 K,.slice pe ne ce]] w fun r w'=>One w0 w w' gs/\PE w0 w' gs (s.1,s.2.1,iY s.2.2 (K,P))/\∃ v,r=.returned v:=by
 obtain ⟨pq,cq,gc,hQ,gf⟩:=JS hE;obtain ⟨nq,Dj⟩:∃ nq,Hid (s.2.2.length=nq):=⟨_,ae rfl⟩;rw [aa Dj] at gc hQ hq;have c2:w.cell? ⟨gs,2,none⟩=some (.slice pq nq cq):=aq gc 2;have ud:gs<w.heap.size:=aI gc;obtain ⟨W0,dT,b0,z0,C0,T0⟩:=au w #[.int .i64 K,.slice pe ne ce] 147;have HC0:=ae C0;have B0:=ae b0;have HQ:=ae (hQ.fr (b0.mono be.size) (Fr.below (T:=[]) b0) (by simp));have HP0:=ae (hP.fr (Fr.below (T:=[]) b0) (by simp));have c2a:=fun (ob:Obj)=>af c2 ((Below.refl w.heap.size w).alloc ay ob);have c2w:=ae c2;have gfw:=ae gf;clear C0 b0 T0 hQ gf;go_enter func246,ntmps246;have HGC:=ae gc;clear gc;by_cases h7:nq<7;{
 have h7':(nq:Int)<7:=by omega
 have Uz:iY s.2.2 (K,P)=s.2.2++[(K,P)]:=by rw [iY,aa Dj,if_pos h7]
 rw [Uz];go_wp2_with fail;rw [<-dT];clear dT c2a Uz;obtain ⟨vA,bt⟩:=ax W0.drew;have bG:Below W0.heap.size W0 vA:=by rw [bt];exact ar.drew
 have BA:=ae bG;have HC:=ae (fun (v:World) (hv:Below W0.heap.size W0 v)=>ag (ag (af (HC0.1 0 _ rfl) hv) (af (HC0.1 1 _ rfl) hv)) (ag (af (aa c2w) (ai (aa B0) hv)) (ag (HQ.fr ((Below.mono hv (by have:=B0.size;have:=be.size;omega))) (Fr.below (T:=[]) hv) (by simp)) (ag (HP0.fr (Fr.below (T:=[]) hv) (by simp)) (ai (aa B0) hv)))));refine wp_region_noPanic ?_;refine wp_region_held_drew (S:=fun w'=>w'.cell? ⟨w.heap.size,0,none⟩=some (.int .i64 K)/\w'.cell? ⟨w.heap.size,1,none⟩=some (.slice pe ne ce)) (by kernel_rfl) (by rw [<-bt];exact (aa HC vA bG).1) (fun hS=>?_);rw [<-bt] at hS ⊢;clear bt bG;refine gD 0 1 2 3 hS ?_;refine tn 5 hS ?_;refine ry [4,6] ?_;refine cn (fun KK hK=>?_) ?_;rotate_left;refine cn (fun KK hK=>?_) ?_;rotate_left;exact AllReadyH.nil;have cq:=(aa HC vA BA).2.1;go_simp;refine bM hK (by exact (aa HC vA BA).1) fun hS=>?_;clear hK KK cq;refine ry [6] ?_;refine cn (fun KK hK=>?_) ?_;rotate_left;exact AllReadyH.nil
 rotate_right
 go_simp;obtain ⟨Z,hZ,bZ,zZ,CZ,-⟩:=au vA #[.int .i64 K,.slice pe ne ce] 147;rw [<-hZ];have B1:=ae (ai BA bZ);have AO:=ae CZ;refine bM hK (by exact (aa HC Z B1).1) fun hS=>?_;clear hK KK hZ bZ CZ;rotate_left;go_simp;obtain ⟨Z,hZ,bZ,zZ,CZ,-⟩:=au vA #[.int .i64 K,.slice pe ne ce] 147;rw [<-hZ];have B1:=ae (ai BA bZ);have AO:=ae CZ;refine bM hK (by exact (aa HC Z B1).1) fun hS=>?_;clear hK KK hZ bZ CZ;refine ry [4] ?_;refine cn (fun KK hK=>?_) ?_;rotate_left;exact AllReadyH.nil
 rotate_right
 have cq:=(aa HC Z B1).2.1;go_simp;refine bM hK (by exact (aa HC Z B1).1) fun hS=>?_;clear hK KK cq
 all_goals (
  refine ry [7] ?_;refine cn (fun KK hK=>?_) ?_;rotate_left;exact AllReadyH.nil
  rotate_right
  go_simp;obtain ⟨Y,hY,bY,zY,CY,-⟩:=au Z #[.slice pq nq cq,.slice (some ⟨vA.heap.size,0,none⟩) 1 1] 37;rw [<-hY];rw [zZ] at CY;have B2:=ae (ai B1 bY);have Nj:=ae (ag CY (AO.below (by omega) bY));refine bM hK (by exact (aa HC Y B2).1) fun hS=>?_;clear hK KK hY bY CY;refine ry [8] ?_;refine cn (fun KK hK=>?_) ?_;rotate_left;exact AllReadyH.nil
  rotate_right
  refine iG (GP (ev:=(K,P)) (pe:=pe) (aa HC Y B2).2.2.1 (aa HC Y B2).2.2.2.1 hc hq (Nj.1.1 0 _ rfl) (Nj.1.1 1 _ rfl) (Nj.2.1 0 _ rfl) (Nj.2.1 1 _ rfl)) ?_;rintro r w5 ⟨p',c',rfl,Yw,dH⟩;refine ⟨_,rfl,?_⟩;have B5:=ae (ai B2 dH);have Wp:=ae Yw;refine bM hK (by exact (aa HC w5 B5).1) fun hS=>?_;clear hK KK Yw dH;refine fq 9 10 hS ?_;refine ry [11] ?_;refine cn (fun KK hK=>?_) ?_;rotate_left;exact AllReadyH.nil
  rotate_right
  obtain ⟨-,c25,-,-,Xl⟩:=aa HC w5 B5;have f25:=(Xl.frozen (p:=⟨gs,2,none⟩) ud).trans (aa gfw 2);have BW5:=ae Xl;clear Xl;go_simp;have G:=ae (C8 be hE BW5 Wp);have kS:∀ o,(w5.setCell ⟨gs,2,none⟩ (.slice p' (nq+1) c')).cell? ⟨w.heap.size,o,none⟩=w5.cell? ⟨w.heap.size,o,none⟩:=fun o=>aj (dr _ _ _ _ (by show w.heap.size≠gs;omega)) _;refine bM hK (by exact ⟨(kS 0).trans hS.1,(kS 1).trans hS.2⟩) fun hS=>?_;clear hK KK c25 f25 kS;refine wpAnyH_done (by kernel_rfl) ?_ _;refine bc ?_;clear hS;go_wp2
  go_end0
  exact ⟨G.1,G.2,_,rfl⟩)}
 {
 have h7':¬ (nq:Int)<7:=by omega
 by_cases h8:nq=7;{
 have Uz:iY s.2.2 (K,P)=s.2.2++[(4,[])]:=by rw [iY,aa Dj,if_neg h7,if_pos h8]
 rw [Uz];have Vo:((nq:Int)==7)=true:=by simp;omega
 obtain ⟨Z,hZ,bZ,zZ,CZ,-⟩:=au W0 #[.int .i64 4,.slice none 0 0] 147;obtain ⟨Y,hY,bY,zY,CY,-⟩:=au Z #[.slice pq nq cq,.slice (some ⟨W0.heap.size,0,none⟩) 1 1] 37;have BY:=ae (ai bZ bY);have Nj:=ae (ag CY (CZ.below (by omega) bY));have QY:=ae (HQ.fr (BY.mono (by have:=B0.size;have:=be.size;omega)) (Fr.below (T:=[]) (aa BY)) (by simp));have c2b:=fun (ob oc:Obj)=>af (c2a ob) (ar.alloc ay oc);rw [zZ] at CY Nj;have HW:=ae (ag dT (ag hZ hY));rw [z0] at Nj zZ CY;clear CY CZ dT hZ hY bZ bY Uz h7 h8;go_wp2_with fail;obtain ⟨dT,hZ,hY⟩:=aa HW;rw [z0] at hY;rw [<-dT,<-hZ,<-hY];clear dT hZ hY HW c2a c2b;refine (GP (w:=Y) (ev:=(4,[])) (pe:=none) QY (.inr (TB.nil _)) ⟨none,0,0,rfl,Nat.le_refl _,Nat.zero_le _⟩ hq (Nj.1.1 0 _ rfl) (Nj.1.1 1 _ rfl) (Nj.2.1 0 _ rfl) (Nj.2.1 1 _ rfl)).mono ?_;rintro r w5 ⟨p',c',rfl,Yw,dH⟩;have pB:=ae (ai (ai B0 BY) dH);have c25:=af c2w pB;have f25:=(pB.frozen (p:=⟨gs,2,none⟩) ud).trans (aa gfw 2);have G:=ae (C8 be hE pB Yw);clear Yw dH;go_wp2
 go_end0
 exact ⟨G.1,G.2,_,rfl⟩};{
 have Uz:iY s.2.2 (K,P)=s.2.2:=by rw [iY,aa Dj,if_neg h7,if_neg h8]
 rw [Uz];have Vo:((nq:Int)==7)=false:=by simp;omega
 go_wp2
 go_end0
 rw [<-dT];exact ⟨One.ofB (aa be) (aa B0) (aa HGC) (by simp),hE.below (aa be) (aa B0),_,rfl⟩}}
theorem dZ.same {D:DataW Unit} {l l':List (Lit × Nat)} (h:dZ D l) (hp:∀ p,p∈l'↔p∈l):dZ D l':=by
 refine ⟨fun k=>?_,fun p h1 z=>h.at' p ((hp p).1 h1) z⟩;rw [h.hs k];exact ⟨fun ⟨p,h1,h2⟩=>⟨p,(hp p).2 h1,h2⟩,fun ⟨p,h1,h2⟩=>⟨p,(hp p).1 h1,h2⟩⟩
theorem dZ.del {D:DataW Unit} {l:List (Lit × Nat)} (h:dZ D l) {k:Lit} (hi:l[i]?=some (k,g)) (hd:∀ (j:Nat) (p:Lit × Nat),l[j]?=some p->p.1=k->j=i):dZ (D.del k) (l.eraseIdx i):=by
 have eh:∀ p,p∈l.eraseIdx i↔p∈l/\p.1≠k:=fun p=>by
  rw [List.mem_eraseIdx_iff_getElem?];constructor;{rintro ⟨j,hj,e⟩;exact ⟨aL e,fun e2=>hj (hd j p e e2)⟩};{
 rintro ⟨hp,bm⟩;obtain ⟨j,hj⟩:=List.mem_iff_getElem?.1 hp;refine ⟨j,fun e=>bm ?_,hj⟩;subst e;rw [hi] at hj;cases hj
 rfl}
 refine ⟨fun k'=>?_,fun p hp z=>?_⟩;{by_cases e:k'=k;{subst e;rw [has_del_same];constructor;{intro hh;cases hh};{rintro ⟨p,hp,e2⟩;exact absurd e2 ((eh p).1 hp).2}};{rw [has_del_other e,h.hs k'];constructor;{rintro ⟨p,hp,rfl⟩;exact ⟨p,(eh p).2 ⟨hp,e⟩,rfl⟩};{rintro ⟨p,hp,rfl⟩;exact ⟨p,((eh p).1 hp).1,rfl⟩}}};{obtain ⟨h1,h2⟩:=(eh p).1 hp;rw [atKey_del_other h2];exact h.at' p h1 z}
theorem rT {α β γ:Type} (f:α->β->γ):∀ (l:List α) (m:List β) (i:Nat),l.length=m.length->List.zipWith f (l.eraseIdx i) (m.eraseIdx i)=(List.zipWith f l m).eraseIdx i
 | [],[],i,_=>by simp
 | a::l,c::m,0,_=>by simp
 | a::l,c::m,i+1,h=>by simp [rT f l m i (by simpa using h)]
section
variable {w0 w w':World} {b bs bn:Nat} {D:SD} {SB NB HB UB:List Nat}
theorem PS.Gf (h:PS w0 w b bs bn D SB NB HB UB) (hi:D.ns[i]?=some nd) (hg:NB[i]?=some g) (je:HB[i]?=some hh) (jq:UB[i]?=some uu) (hz:z=g\/z=hh\/z=uu) (O:One w0 w w' z) (hp:nd'.path=nd.path) (hN:PN w0 w' g hh uu nd'):PS w0 w' b bs bn { D with ns:=D.ns.set i nd' } SB NB HB UB:=by
 obtain ⟨-,⟨V0,gc,-⟩,q3,q4⟩:=h.jb i nd g hh uu hi hg je jq;obtain ⟨es3,c3,m3⟩:=q3.at;obtain ⟨es4,c4,m4⟩:=q4.at;obtain ⟨d0,d1,d2,d3,d4,d5⟩:=h.hu;have ua:=(aM.1 hi).1;have hhm:=aL je;have hum:=aL jq;have nc:∀ {y:Nat} {cs:Array Value} {ty:TypeId},w.heap[y]?=some (.cells cs ty)->(ty≠119\/y≠g)->y≠z:=fun {y cs ty} hy ht e=>by rcases hz with rfl | rfl | rfl;{rcases ht with ht | ht;{rw [e,gc] at hy;simp at hy;exact ht hy.2.symm};{exact ht e}};{rw [e,m3] at hy;cases hy};{rw [e,m4] at hy;cases hy}
 have nm:∀ {y:Nat} {es:Array MapEntry} {c:Nat},w.heap[y]?=some (.map es c)->y≠hh->y≠uu->y≠z:=fun {y es c} hy h1 h2 e=>by rcases hz with rfl | rfl | rfl;{rw [e,gc] at hy;cases hy};{exact h1 e};{exact h2 e}
 refine ⟨h.be.trans O.b,O.obj h.hd (nc h.hd (.inl (by decide))),h.lM,?_,fun j s1 g1 fO dS=>?_,h.snd,by rw [List.length_set];exact h.my,by rw [List.length_set];exact h.hlen,by rw [List.length_set];exact h.mV,?_,fun j mr gb h1 u1 fO dS qy sK=>?_,h.Kc,h.lo,h.Aw⟩;{obtain ⟨M,n,o,r⟩:=h.lI;obtain ⟨es,c,hm⟩:=ownsMap_at o;exact ⟨M,n,O.map o (nm hm (fun e=>(d1 _ hhm).1 e.symm) (fun e=>(d2 _ hum).1 e.symm)),r⟩};{have q:=h.lQ j s1 g1 fO dS;obtain ⟨-,u,h1,-⟩:=id q;exact q.aN O (nc h1 (.inl (by decide)))};{
 obtain ⟨M,n,o,hn,m,hs⟩:=h.ju;obtain ⟨es,c,hm⟩:=ownsMap_at o;refine ⟨M,n,O.map o (nm hm (fun e=>(d1 _ hhm).2 e.symm) (fun e=>(d2 _ hum).2 e.symm)),hn,?_,by simp only [List.length_set];exact hs⟩;have e:List.zipWith (fun (nd:aA) g=>(bj nd.path,g)) (D.ns.set i nd') NB=List.zipWith (fun (nd:aA) g=>(bj nd.path,g)) D.ns NB:=by refine List.ext_getElem? fun j=>?_;rw [List.getElem?_zipWith,List.getElem?_zipWith,List.getElem?_set];by_cases ej:i=j;{subst ej;rw [if_pos rfl,if_pos ua,hi,hg];simp [hp]};{simp [ej]}
 rw [e];exact m};{simp only [List.getElem?_set] at fO;by_cases ej:i=j;{subst ej;rw [hg] at dS;rw [je] at qy;rw [jq] at sK;cases dS;cases qy;cases sK;simp [ua] at fO;subst fO;exact hN};{simp [ej] at fO;have q:=h.jb j mr gb h1 u1 fO dS qy sK;obtain ⟨-,⟨V,q1,-⟩,p3,p4⟩:=id q;obtain ⟨es,c,m5⟩:=p3.at;obtain ⟨Qz,c',m6⟩:=p4.at;have ej':¬ j=i:=fun e=>ej e.symm;exact q.aN O (nc q1 (.inr (zF h.Kc dS hg ej'))) (nm m5 (zF d3 qy je ej') (d5 _ (aL qy) _ hum)) (nm m6 (fun e=>d5 _ hhm _ (aL sK) e.symm) (zF d4 sK jq ej'))}}
theorem PS.Rt (h:PS w0 w b bs bn D SB NB HB UB) (O:One w0 w w' b) (e g x t:Int) (hd:w'.heap[b]?=some (.cells #[.int .u64 e,.int .u64 g,.int .u64 x,.int .i64 t,.map (some bs),.map (some bn)] 114)):PS w0 w' b bs bn ⟨e,g,x,t,D.ss,D.ns⟩ SB NB HB UB:=by
 have nc:∀ {y:Nat} {cs:Array Value} {ty:TypeId},w.heap[y]?=some (.cells cs ty)->ty≠114->y≠b:=fun {y cs ty} hy ht e=>by rw [e,h.hd] at hy;simp at hy;exact ht hy.2.symm
 have nm:∀ {y:Nat} {es:Array MapEntry} {c:Nat},w.heap[y]?=some (.map es c)->y≠b:=fun {y es c} hy e=>by rw [e,h.hd] at hy;cases hy
 refine ⟨h.be.trans O.b,hd,h.lM,?_,fun j s1 g1 fO dS=>?_,h.snd,h.my,h.hlen,h.mV,?_,fun j nd gb hh uu fO dS h1 h2=>?_,h.Kc,h.lo,h.Aw⟩;{obtain ⟨M,n,o,r⟩:=h.lI;obtain ⟨es,c,hm⟩:=ownsMap_at o;exact ⟨M,n,O.map o (nm hm),r⟩};{have q:=h.lQ j s1 g1 fO dS;obtain ⟨-,u,h1,-⟩:=id q;exact q.aN O (nc h1 (by decide))};{obtain ⟨M,n,o,r⟩:=h.ju;obtain ⟨es,c,hm⟩:=ownsMap_at o;exact ⟨M,n,O.map o (nm hm),r⟩};{have q:=h.jb j nd gb hh uu fO dS h1 h2;obtain ⟨-,⟨V,q1,-⟩,q3,q4⟩:=id q;obtain ⟨es,c,m3⟩:=q3.at;obtain ⟨Qz,c',m4⟩:=q4.at;exact q.aN O (nc q1 (by decide)) (nm m3) (nm m4)}
theorem PS.aM9 (h:PS w0 w b bs bn D SB NB HB UB) (hi:D.ns[i]?=some nd) (O:One w0 w w' bn) (hd:∀ (j:Nat) (z:aA),D.ns[j]?=some z->bj z.path=bj nd.path->j=i)
  (hM:∀ M n,w.ownsMap prog 9 aT bn n M->w'.ownsMap prog 9 aT bn n (M.del (bj nd.path))):PS w0 w' b bs bn { D with ns:=D.ns.eraseIdx i } SB (NB.eraseIdx i) (HB.eraseIdx i) (UB.eraseIdx i):=by
 obtain ⟨g,hh,uu,hg,je,jq,-⟩:=h.nat hi;obtain ⟨d0,d1,d2,d3,d4,d5⟩:=h.hu;obtain ⟨M,n,o,hn,m,hs⟩:=h.ju;obtain ⟨es0,c0,m0⟩:=ownsMap_at o;have ua:=(aM.1 hi).1;have nc:∀ {y:Nat} {cs:Array Value} {ty:TypeId},w.heap[y]?=some (.cells cs ty)->y≠bn:=fun {y cs ty} hy e=>by rw [e,m0] at hy;cases hy
 have hz:(List.zipWith (fun (nd:aA) g=>(bj nd.path,g)) D.ns NB)[i]?=some (bj nd.path,g):=by rw [List.getElem?_zipWith,hi,hg]
 have hdz:∀ (j:Nat) (p:Lit × Nat),(List.zipWith (fun (nd:aA) g=>(bj nd.path,g)) D.ns NB)[j]?=some p->p.1=bj nd.path->j=i:=fun j p hj e=>by
  rw [List.getElem?_zipWith] at hj;cases ha:D.ns[j]? with
  | none=>rw [ha] at hj;cases hj
  | some a=>
   cases hc:NB[j]? with
   | none=>rw [ha,hc] at hj;cases hj
   | some c=>
    rw [ha,hc] at hj;cases hj;exact hd j a ha e
 have el:∀ {l:List Nat},l.length=D.ns.length->(l.eraseIdx i).length=(D.ns.eraseIdx i).length:=fun hl=>by rw [List.length_eraseIdx,List.length_eraseIdx,hl]
 refine ⟨h.be.trans O.b,O.obj h.hd (nc h.hd),h.lM,?_,fun j s1 g1 fO dS=>?_,h.snd,el h.my,el h.hlen,el h.mV,⟨_,n,hM M n o,hn,?_,?_⟩,fun j mr gb h1 u1 fO dS qy sK=>?_,h.Kc.sublist (List.eraseIdx_sublist _ _),h.lo,?_⟩;{obtain ⟨M,n,o,r⟩:=h.lI;exact ⟨M,n,O.map o d0,r⟩};{have q:=h.lQ j s1 g1 fO dS;obtain ⟨-,u,h1,-⟩:=id q;exact q.aN O (nc h1)};{rw [rT _ _ _ _ h.my.symm];exact m.del hz hdz};{have Fc:Maps.has M (bj nd.path)=true:=(m.hs _).2 ⟨_,aL hz,rfl⟩;have:=size_del (k:=bj nd.path) (jK o ke);rw [Fc] at this;simp only [if_true] at this;simp only [List.length_eraseIdx,ua,if_true];omega};{
 rw [List.getElem?_eraseIdx] at fO dS qy sK;obtain ⟨j',xV,dY,hh2,hu2⟩:∃ j',D.ns[j']?=some mr/\NB[j']?=some gb/\HB[j']?=some h1/\UB[j']?=some u1:=by by_cases hj:j<i;{rw [if_pos hj] at fO dS qy sK;exact ⟨j,fO,dS,qy,sK⟩};{rw [if_neg hj] at fO dS qy sK;exact ⟨j+1,fO,dS,qy,sK⟩}
 have q:=h.jb j' mr gb h1 u1 xV dY hh2 hu2;obtain ⟨-,⟨V,q1,-⟩,p3,p4⟩:=id q;exact q.aN O (nc q1) (d1 _ (aL hh2)).2 (d2 _ (aL hu2)).2};{exact h.Aw.sublist (((List.eraseIdx_sublist HB i).append (List.eraseIdx_sublist UB i)).cons_cons bn |>.cons_cons bs)}
theorem PS.aM8 (h:PS w0 w b bs bn D SB NB HB UB) {s:aR} (hi:D.ss[i]?=some s) (O:One w0 w w' bs) (hd:∀ (j:Nat) (z:aR),D.ss[j]?=some z->z.1=s.1->j=i)
  (hM:∀ M n,w.ownsMap prog 22 aT bs n M->w'.ownsMap prog 22 aT bs n (M.del (.int .u64 s.1))):PS w0 w' b bs bn { D with ss:=D.ss.eraseIdx i } (SB.eraseIdx i) NB HB UB:=by
 obtain ⟨g,hg,-⟩:=h.sat hi;obtain ⟨d0,d1,d2,d3,d4,d5⟩:=h.hu;obtain ⟨M,n,o,hn,m,hs⟩:=h.lI;obtain ⟨es0,c0,m0⟩:=ownsMap_at o;have ua:=(aM.1 hi).1;have nc:∀ {y:Nat} {cs:Array Value} {ty:TypeId},w.heap[y]?=some (.cells cs ty)->y≠bs:=fun {y cs ty} hy e=>by rw [e,m0] at hy;cases hy
 have hz:(List.zipWith (fun (s:aR) g=>(Lit.int .u64 s.1,g)) D.ss SB)[i]?=some (.int .u64 s.1,g):=by rw [List.getElem?_zipWith,hi,hg]
 have hdz:∀ (j:Nat) (p:Lit × Nat),(List.zipWith (fun (s:aR) g=>(Lit.int .u64 s.1,g)) D.ss SB)[j]?=some p->p.1=.int .u64 s.1->j=i:=fun j p hj e=>by
  rw [List.getElem?_zipWith] at hj;cases ha:D.ss[j]? with
  | none=>rw [ha] at hj;cases hj
  | some a=>
   cases hc:SB[j]? with
   | none=>rw [ha,hc] at hj;cases hj
   | some c=>
    rw [ha,hc] at hj;cases hj;exact hd j a ha (by simpa using e)
 refine ⟨h.be.trans O.b,O.obj h.hd (nc h.hd),by rw [List.length_eraseIdx,List.length_eraseIdx,h.lM],⟨_,n,hM M n o,hn,?_,?_⟩,fun j s1 g1 fO dS=>?_,h.snd.sublist (List.eraseIdx_sublist _ _),h.my,h.hlen,h.mV,?_,fun j mr gb h1 u1 fO dS qy sK=>?_,h.Kc,h.lo,h.Aw⟩;{rw [rT _ _ _ _ h.lM.symm];exact m.del hz hdz};{have Fc:Maps.has M (.int .u64 s.1)=true:=(m.hs _).2 ⟨_,aL hz,rfl⟩;have:=size_del (k:=.int .u64 s.1) (jK o gp);rw [Fc] at this;simp only [if_true] at this;simp only [List.length_eraseIdx,ua,if_true];omega};{
 rw [List.getElem?_eraseIdx] at fO dS;obtain ⟨j',xV,dY⟩:∃ j',D.ss[j']?=some s1/\SB[j']?=some g1:=by by_cases hj:j<i;{rw [if_pos hj] at fO dS;exact ⟨j,fO,dS⟩};{rw [if_neg hj] at fO dS;exact ⟨j+1,fO,dS⟩}
 have q:=h.lQ j' s1 g1 xV dY;obtain ⟨-,u,h1,-⟩:=id q;exact q.aN O (nc h1)};{obtain ⟨M,n,o,r⟩:=h.ju;exact ⟨M,n,O.map o (fun e=>d0 e.symm),r⟩};{have q:=h.jb j mr gb h1 u1 fO dS qy sK;obtain ⟨-,⟨V,q1,-⟩,p3,p4⟩:=id q;exact q.aN O (nc q1) (d1 _ (aL qy)).1 (d2 _ (aL sK)).1}
end
structure uo (ss:List aR):Prop where
 pw:ss.Pairwise (fun s s'=>s.1<s'.1)
 rg:∀ s∈ss,0<=s.1/\s.1<18446744073709551616
 ql:∀ s∈ss,s.2.2.length<=8
theorem xH {q:List Ev} (ev:Ev) (h:q.length<=8):(iY q ev).length<=8:=by
 unfold iY;split;{simp;omega};{split;{simp;omega};{exact h}}
theorem sA (ss:List aR) (id:Int) (ev:Ev):(lx ss id ev).map (·.1)=ss.map (·.1):=by
 unfold lx;rw [List.map_map];refine List.map_congr_left fun s _=>?_;simp only [Function.comp];split<;>rfl
theorem uo.Qw (h:uo ss) (id:Int) (ev:Ev):uo (lx ss id ev):=by
 refine ⟨?_,fun s hs=>?_,fun s hs=>?_⟩;{have:=h.pw;rw [<-List.pairwise_map (f:=fun s:aR=>s.1) (R:=(·<·))] at this ⊢;rw [sA];exact this};{obtain ⟨s0,h0,rfl⟩:=List.mem_map.1 hs;split<;>exact h.rg s0 h0}
 {obtain ⟨s0,h0,rfl⟩:=List.mem_map.1 hs;split;{exact xH ev (h.ql s0 h0)};{exact h.ql s0 h0}}
theorem Da (h:ss.Pairwise (fun s s'=>s.1<s'.1)) {s:aR} (hi:ss[i]?=some s) (ev:Ev):lx ss s.1 ev=ss.set i (s.1,s.2.1,iY s.2.2 ev):=by
 refine List.ext_getElem? fun j=>?_;unfold lx;rw [List.getElem?_map,List.getElem?_set];by_cases ej:i=j;{subst ej;rw [if_pos rfl,if_pos (aM.1 hi).1,hi];simp};{
 rw [if_neg ej];cases hj:ss[j]? with
 | none=>rfl
 | some s'=>
  have bm:¬ s'.1=s.1:=fun e=>by have tv:=List.pairwise_iff_getElem.1 h;obtain ⟨l1,v1⟩:=aM.1 hi;obtain ⟨l2,v2⟩:=aM.1 hj;rcases Nat.lt_trichotomy i j with hh | hh | hh;{have:=tv i j l1 l2 hh;rw [v1,v2] at this;omega};{exact ej hh};{have:=tv j i l2 l1 hh;rw [v1,v2] at this;omega}
  simp [bm]}
theorem r8 (ids:List Int) (ev:Ev):∀ ss:List aR,(jD ss ids ev).map (·.1)=ss.map (·.1):=by
 unfold jD
 induction ids with
 | nil=>intro ss;rfl
 | cons a r ih=>intro ss;rw [List.foldl_cons,ih,sA]
theorem QM (w:World) {l:List Int} (hB:cT l) (hl:l.length<=1048576):∃ p' c' W,(convert 9 27 (.string (aB l))).run prog w=.ok (.slice p' l.length c') W/\TB W (.slice p' l.length c') l/\Below w.heap.size w W:=by
 have bS:=Lib.run_convert_string_bytes (P:=prog) w 9 27 5 (aB l) underlying9 underlying27 underlying5;rw [dI] at bS;refine ⟨_,_,_,bS,⟨⟨_,_,rfl,.inr ⟨w.heap.size,0,rfl,fun j hj=>?_⟩⟩,fun b hb=>.inr ?_,_,_,_,rfl,grownCap_ge _ _ _ _,grownCap_le_maxLen _ _ _ _ (by unfold maxLen;omega)⟩,⟨rfl,rfl,rfl,by rw [Lib.bytesWorld_size];omega,fun k hk=>Lib.bytesWorld_at_old _ _ _ _ hk⟩⟩;{rw [Nat.zero_add,Lib.bytesWorld_cell _ _ _ _ (by rw [dI];exact hj),yy hB j hj]};{simp only [Value.ownBlock,Option.some.injEq] at hb;subst hb;exact ⟨_,_,Lib.bytesWorld_at_new w 5 (aB l)⟩}
theorem PS.look {SB NB HB UB:List Nat} (h:PS w0 w b bs bn D SB NB HB UB) {s:aR} (hi:D.ss[i]?=some s) (hr:0<=s.1/\s.1<18446744073709551616):∃ g,SB[i]?=some g/\PE w0 w g s/\(Instr.lookup 111 (.map (some bs)) (.int .u64 s.1) false).run prog w=.ok (.pointer (some ⟨g,0,none⟩)) w:=by
 obtain ⟨g,hg,hE⟩:=h.sat hi;obtain ⟨M,n,o,-,m,-⟩:=h.lI;exact ⟨g,hg,hE,Cf o m (aL (i:=i) (by rw [List.getElem?_zipWith,hi,hg])) hr⟩
theorem PS.Ch {SB NB HB UB:List Nat} (h:PS w0 w b bs bn D SB NB HB UB) (hi:D.ns[i]?=some nd) (hl:nd.path.length<=1048576):∃ g hh uu,NB[i]?=some g/\HB[i]?=some hh/\UB[i]?=some uu/\PN w0 w g hh uu nd/\(Instr.lookup 112 (.map (some bn)) (.string (aB nd.path)) false).run prog w=.ok (.pointer (some ⟨g,0,none⟩)) w:=by
 obtain ⟨g,hh,uu,hg,je,jq,hN⟩:=h.nat hi;obtain ⟨M,n,o,-,m,-⟩:=h.ju;exact ⟨g,hh,uu,hg,je,jq,hN,Cg o m (aL (i:=i) (by rw [List.getElem?_zipWith,hi,hg])) hl⟩
theorem PN.cells {h u:Nat} (k:PN w0 w g h u nd):∃ V,AB w0 w V nd.value/\w.heap[g]?=some (.cells #[V,.int .u64 nd.owner,.int .i64 nd.mode,.map (some h),.int .u64 nd.aC,.int .u64 nd.gen,.map (some u)] 119)/\w.cell? ⟨g,0,none⟩=some V/\w.cell? ⟨g,1,none⟩=some (.int .u64 nd.owner)/\w.cell? ⟨g,2,none⟩=some (.int .i64 nd.mode)/\w.cell? ⟨g,3,none⟩=some (.map (some h))/\w.cell? ⟨g,4,none⟩=some (.int .u64 nd.aC)/\w.cell? ⟨g,5,none⟩=some (.int .u64 nd.gen)/\w.cell? ⟨g,6,none⟩=some (.map (some u))/\∀ o,w.frozen? ⟨g,o,none⟩=false:=by
 obtain ⟨V,h1,h2⟩:=k.aF;exact ⟨V,h2,h1,aq h1 0,aq h1 1,aq h1 2,aq h1 3,aq h1 4,aq h1 5,aq h1 6,fun o=>by simp [World.frozen?,h1]⟩
theorem PS.cO {SB NB HB UB:List Nat} (h:PS w0 w b bs bn D SB NB HB UB):w.cell? ⟨b,0,none⟩=some (.int .u64 D.e)/\w.cell? ⟨b,1,none⟩=some (.int .u64 D.g)/\w.cell? ⟨b,2,none⟩=some (.int .u64 D.x)/\w.cell? ⟨b,3,none⟩=some (.int .i64 D.t)/\w.cell? ⟨b,4,none⟩=some (.map (some bs))/\w.cell? ⟨b,5,none⟩=some (.map (some bn))/\∀ o,w.frozen? ⟨b,o,none⟩=false:=
 ⟨aq h.hd 0,aq h.hd 1,aq h.hd 2,aq h.hd 3,aq h.hd 4,aq h.hd 5,fun o=>by simp [World.frozen?,h.hd]⟩
structure NT (ss:List aR) (nd:aA):Prop where
 Xj:cT nd.path
 pl:nd.path.length<=1048576
 Rs:nd.watchers.Pairwise (·<·)
 Bj:nd.watchers.length<=1048576
 xz:∀ i∈nd.watchers,∃ s∈ss,s.1=i
theorem Gt {ss':List aR} (h:ss'.map (·.1)=ss.map (·.1)) {i:Int} (hi:∃ s∈ss,s.1=i):∃ (j:Nat) (s:aR),ss'[j]?=some s/\s.1=i:=by
 obtain ⟨s,hs,rfl⟩:=hi;have:s.1∈ss'.map (·.1):=by rw [h];exact List.mem_map.2 ⟨s,hs,rfl⟩
 obtain ⟨s',vh,e⟩:=List.mem_map.1 this;obtain ⟨j,hj⟩:=List.mem_iff_getElem?.1 vh;exact ⟨j,s',hj,e⟩
theorem Pr {ss:List Int} (h:Q.Rf B w v ss):∃ p c gk,v=.slice p ss.length c/\B<=gk/\∀ (j:Nat) (x:Int),ss[j]?=some x->p=some ⟨gk,0,none⟩/\gk<w.heap.size/\w.cell? ⟨gk,j,none⟩=some (.int .u64 x):=by
 rcases h with ⟨rfl,rfl⟩ | ⟨g,cap,rfl,hB,aU,hu⟩;{exact ⟨none,0,B,rfl,Nat.le_refl _,fun j x hx=>by simp at hx⟩};{refine ⟨_,cap,g,rfl,hB,fun j x hx=>⟨rfl,aU,?_⟩⟩;have:=hu j (by simpa using (aM.1 hx).1);have h2:=this.1;simpa [hx] using h2}
theorem One.J6 (be:Below w0.heap.size w0 w) (hg:w.grownBy w' (some z)) (hz:w0.heap.size<=z) (hm:∃ es c,w.heap[z]?=some (.map es c)):One w0 w w' z:=by
 refine ⟨(Below.refl w0.heap.size w).grown hg be.size (fun b e=>by cases e;exact hz),fun y hy bm=>hg.block y hy (fun e=>bm (by cases e;rfl)),fun cur ty m hc=>?_⟩;obtain ⟨es,c,hm⟩:=hm;rw [hm] at hc;cases hc
theorem PS.G9 {SB NB HB UB:List Nat} (h:PS w0 w b bs bn D SB NB HB UB) (hi:D.ns[i]?=some nd) (hg:NB[i]?=some g) (je:HB[i]?=some hh) (jq:UB[i]?=some uu) (O:One w0 w w' uu) (hs:SM w' uu s):PS w0 w' b bs bn { D with ns:=D.ns.set i { nd with watchers:=s } } SB NB HB UB:=by
 obtain ⟨lo,⟨V,q1,q2⟩,q3,q4⟩:=h.jb i nd g hh uu hi hg je jq;obtain ⟨es,c,m4⟩:=q4.at;refine h.Gf hi hg je jq (.inr (.inr rfl)) O rfl ⟨lo,⟨V,O.obj q1 (fun e=>?_),q2.fr O.fr (by decide)⟩,q3.aN O (h.hu.2.2.2.2.2 _ (aL je) _ (aL jq)),hs⟩;rw [e,m4] at q1;cases q1
theorem PS.GC {SB NB HB UB:List Nat} (h:PS w0 w b bs bn D SB NB HB UB) (hi:D.ns[i]?=some nd) (hg:NB[i]?=some g) (je:HB[i]?=some hh) (jq:UB[i]?=some uu) (O:One w0 w w' hh) (hs:SM w' hh s):PS w0 w' b bs bn { D with ns:=D.ns.set i { nd with holders:=s } } SB NB HB UB:=by
 obtain ⟨lo,⟨V,q1,q2⟩,q3,q4⟩:=h.jb i nd g hh uu hi hg je jq;obtain ⟨es,c,m3⟩:=q3.at;refine h.Gf hi hg je jq (.inr (.inl rfl)) O rfl ⟨lo,⟨V,O.obj q1 (fun e=>?_),q2.fr O.fr (by decide)⟩,hs,q4.aN O (fun e=>h.hu.2.2.2.2.2 _ (aL je) _ (aL jq) e.symm)⟩;rw [e,m3] at q1;cases q1
abbrev T3:List TypeId:=[95,119,114]
def PL (b bs bn:Nat) (SB NB HB UB:List Nat):List Nat:=b::bs::bn::(SB++(NB++(HB++UB)))
def Kb (L:List Nat) (w w':World):Prop:=∀ z,z<w.heap.size->z∉L->w'.heap[z]?=w.heap[z]?
theorem Kb.below (h:Below w.heap.size w w'):Kb L w w':=fun z hz _=>h.block z hz
theorem Kb.trans {w1 w2:World} (h:Kb L w w1) (h2:Kb L w1 w2) (hs:w.heap.size<=w1.heap.size):Kb L w w2:=fun z hz hn=>(h2 z (by omega) hn).trans (h z hz hn)
theorem Kb.mono {L':List Nat} (h:Kb L w w') (hs:∀ z∈L,z∈L'):Kb L' w w':=fun z hz hn=>h z hz (fun hm=>hn (hs z hm))
theorem One.kb (O:One w0 w w' g) (hg:g∈L):Kb L w w':=fun z hz hn=>O.k z hz (fun e=>hn (e▸hg))
theorem Ed (w:World) (b bs bn:Nat) (D:SD) (SB NB HB UB:List Nat) (h:Hid (PS w0 w b bs bn D SB NB HB UB)) (k:Nat) (nd:aA) (hk:Hid (D.ns[k]?=some nd)) (kd:Int) (hS:Hid (uo D.ss)) (hT:Hid (NT D.ss nd)) :
  Calls prog 245 #[.pointer (some ⟨b,0,none⟩),.int .i64 kd,.string (aB nd.path)] w fun r w'=>PS w0 w' b bs bn (da D k kd) SB NB HB UB/\(Fr T3 w w'/\Kb (PL b bs bn SB NB HB UB) w w')/\∃ v,r=.returned v:=by
 obtain ⟨g,hh,uu,hg,je,jq,hN,hlk⟩:=h.Ch hk hT.pl;obtain ⟨V,-,-,-,-,-,-,-,-,n6,-⟩:=hN.cells;obtain ⟨-,-,-,-,-,h5,-⟩:=h.cO;obtain ⟨M,nn,oM,YA,sM,zM⟩:=hN.G9;have Ga:=ae (ag hg (ag je jq));have hgl:g<w.heap.size:=by obtain ⟨V,hb,-⟩:=hN.aF;exact aI hb
 go_enter func245,ntmps245;go_wp2_with fail;refine (Q.lK uu nn M w oM (by rw [zM];exact hT.Bj)).mono ?_;rintro r w1 ⟨v,ws,rfl,hA,hK,aK⟩;have ews:ws=nd.watchers:=l9 hA.lt hT.Rs fun x=>by rw [hA.mem x,sM];simp
 subst ews;obtain ⟨p,c,gk,rfl,hgk,cD⟩:=Pr hK;obtain ⟨m,em⟩:∃ m,Hid (nd.watchers.length=m):=⟨_,ae rfl⟩;rw [aa em];have xw:=ae cD;have P1:=ae (h.below aK);have F1:=ae (Fr.below (T:=T3) aK);have K1:=ae (Kb.below (L:=PL b bs bn SB NB HB UB) aK);have z1:=aK.size;have hm:m<=1048576:=by rw [<-aa em];exact hT.Bj
 go_wp2
 go_loopw [21] (fun iv wr=>∃ (j:Nat) (SS:List aR),j<=m/\iv=.int .i64 j/\Hid (jD D.ss (nd.watchers.take j) (kd,nd.path)=SS)/\Hid (PS w0 wr b bs bn { D with ss:=SS } SB NB HB UB)/\Hid (uo SS)/\Hid (Fr T3 w wr)/\Hid (wr.heap[gk]?=w1.heap[gk]?)/\Hid (w1.heap.size<=wr.heap.size)/\Hid (Kb (PL b bs bn SB NB HB UB) w wr)) (fun iv _=>m-(intOf iv).toNat)
 case atStart=>exact ⟨0,D.ss,Nat.zero_le _,rfl,(by show _=_;rfl),P1,hS,F1,(by show _=_;rfl),Nat.le_refl _,K1⟩
 case round =>(
 obtain ⟨j,SS,hj,rfl,hSS,hP,Zl,ZI,hGK,pR,hKB⟩:=hrel;obtain ⟨-,-,-,-,h4,h5,-⟩:=hP.cO;by_cases aU:j<m;{
 have aV:(j:Int)<(m:Int):=by omega
 obtain ⟨x,hx⟩:∃ x,nd.watchers[j]?=some x:=⟨_,aH (by rw [aa em];exact aU)⟩;obtain ⟨rfl,bD4,GG⟩:=aa xw j x hx;have aF5:=(aj hGK j).trans GG;obtain ⟨i,s,hi,rfl⟩:=Gt (ss':=SS) (by rw [<-aa hSS];exact r8 _ _ _) (hT.xz x (aL hx));obtain ⟨gs,ud,hE,UL⟩:=hP.look hi (Zl.rg s (aL hi));obtain ⟨pc,cc,W,hcv,hTB,U6⟩:=QM wr hT.Xj hT.pl;have bD2:gs<w.heap.size:=by obtain ⟨s0,Gw⟩:∃ s0,D.ss[i]?=some s0:=⟨_,aH (by rw [<-h.lM];exact (aM.1 ud).1)⟩;obtain ⟨-,u,hc,-⟩:=h.lQ i s0 gs Gw ud;exact aI hc
 have hSn:=ux (ss:=D.ss) (ev:=(kd,nd.path)) hx;rw [aa hSS,Da Zl.pw hi] at hSn;have HSN:=ae hSn;have PW:=ae (hP.below U6);have SO2:=Zl.Qw s.1 (kd,nd.path);rw [Da Zl.pw hi] at SO2;have aQ6:=ae SO2;have sF:=ae (ag hi ud);have HTB:=ae hTB;have ql:=Zl.ql s (aL hi);have Xs:=ae U6;go_wp2_with fail;refine (Vu (w0:=w0) W gs s kd nd.path pc _ cc (ae PW.be) (ae (PW.lQ i s gs sF.1 sF.2)) (ae (.inr HTB)) (ae HTB.2.2) (by omega)).mono ?_;rintro r w5 ⟨O5,E5,v5,rfl⟩;have P5:=ae (PS.Ge (s':=(s.1,s.2.1,iY s.2.2 (kd,nd.path))) PW sF.1 sF.2 O5 rfl E5);have G5:=ae (((O5.k gk (by have:=Xs.size;have:=aa pR;omega) (by omega)).trans (Xs.block gk (by have:=aa pR;omega))).trans hGK);have Z5:=ae (by have:=O5.b.size;have:=Xs.size;have:=aa pR;omega:w1.heap.size<=w5.heap.size);have F5:=ae ((ZI.trans (Fr.below (T:=T3) Xs)).trans O5.fr);have K5:=ae ((hKB.trans (Kb.below (aa Xs)) ZI.1).trans (O5.kb (by simp [PL,aL sF.2])) (by have:=Xs.size;have:=ZI.1;omega));go_wp2;go_roundw
 case rel=>exact ⟨j+1,_,by omega,by go_num,HSN,P5,aQ6,F5,G5,Z5,K5⟩
 case measure=>simp [intOf];omega}
 {
 have aV:¬ (j:Int)<(m:Int):=by omega
 have e1:=aa hSS;rw [List.take_of_length_le (by rw [aa em];omega)] at e1;have hN5:=hP.jb k nd g hh uu hk Ga.1 Ga.2.1 Ga.2.2;obtain ⟨V,-,-,-,-,-,-,-,-,n6,-⟩:=hN5.cells;obtain ⟨M5,n5,o5,-,-,-⟩:=hN5.G9;obtain ⟨vv,w5,bS,WQ,oB,hs5⟩:=Hi underlying109 o5 0;have HN5:=ae hN5;have Xo:=ae (ag WQ (ag oB hs5));have H5:=ae o5;go_wp2
 go_end0
 have O:=One.J6 hP.be Xo.2.1 HN5.lo.2.2 (ownsMap_at H5);have hQ:=PS.G9 (s:=[]) hP hk Ga.1 Ga.2.1 Ga.2.2 O ⟨_,0,Xo.1,by omega,cI.nil,rfl⟩;refine ⟨?_,⟨ZI.trans O.fr,hKB.trans (O.kb (by simp [PL,aL Ga.2.2])) ZI.1⟩,_,rfl⟩;unfold da;rw [aa hk];simp only [e1];exact hQ})
theorem Tx (w:World) (b bs bn:Nat) (D:SD) (SB NB HB UB:List Nat) (h:Hid (PS w0 w b bs bn D SB NB HB UB)) (k:Nat) (nd:aA) (hk:Hid (D.ns[k]?=some nd)) (kd:Int) (hS:Hid (uo D.ss)) (hT:Hid (NT D.ss nd)) :
  Calls prog 245 #[.pointer (some ⟨b,0,none⟩),.int .i64 kd,.string (aB nd.path)] w fun r w'=>PS w0 w' b bs bn (da D k kd) SB NB HB UB/\Fr T3 w w'/\∃ v,r=.returned v:=(Ed w b bs bn D SB NB HB UB h k nd hk kd hS hT).mono fun r w' ⟨h1,h2,h3⟩=>⟨h1,h2.1,h3⟩
theorem cI.has {D:DataW Unit} (h:cI D s) (id:Int):Maps.has D (.int .u64 id)=s.contains id:=by
 rw [Bool.eq_iff_iff,h];simp
theorem rY {x:Int}:x∈mh s id↔x∈s/\x≠id:=by
 unfold mh;simp
theorem xy (h:s.Pairwise (·<·)):(mh s id).Pairwise (·<·):=h.filter _
theorem yC:∀ {s:List Int} {id x:Int},x∈mi s id↔x=id\/x∈s
 | [],id,x=>by simp [mi]
 | y::r,id,x=>by
  unfold mi;split;{rw [List.mem_cons,rY];by_cases e:x=id<;>simp [e]}
  {rw [List.mem_cons,yC,List.mem_cons];constructor;{rintro (h | h | h);{exact .inr (.inl h)};{exact .inl h};{exact .inr (.inr h)}};{rintro (h | h | h);{exact .inr (.inl h)};{exact .inl h};{exact .inr (.inr h)}}}
theorem Gc:∀ {s:List Int} {id:Int},s.Pairwise (·<·)->(mi s id).Pairwise (·<·)
 | [],id,_=>by simp [mi]
 | y::r,id,h=>by
  unfold mi;obtain ⟨h1,h2⟩:=List.pairwise_cons.1 h;split;{
 rename_i hle
 refine List.pairwise_cons.2 ⟨fun z hz=>?_,xy h⟩;obtain ⟨gi,gP⟩:=rY.1 hz;rcases List.mem_cons.1 gi with rfl | gi;{omega};{have:=h1 z gi;omega}};{
 rename_i hle
 refine List.pairwise_cons.2 ⟨fun z hz=>?_,Gc h2⟩;rcases yC.1 hz with rfl | hz;{omega};{exact h1 z hz}}
theorem Jz (s:List Int) (id:Int):(mi s id).length<=s.length+1:=by
 induction s with
 | nil=>simp [mi]
 | cons y r ih=>
  unfold mi;split;{have:=mT (y::r) id;simp at this ⊢;omega};{simp;omega}
theorem SM.del {w:World} {h n:Nat} {D:DataW Unit} (hs:cI D s) (hp:s.Pairwise (·<·)) (hn:n<=2097152) (o:w'.ownsMap prog 22 unitElem h n (D.del (.int .u64 id))):SM w' h (mh s id):=by
 refine SM.of o hn (fun k=>?_) (iW (xy hp));by_cases e:k=.int .u64 id;{subst e;rw [has_del_same];constructor;{intro hh;cases hh};{rintro ⟨i,hi,e⟩;simp at e;exact absurd e.symm (rY.1 hi).2}};{rw [has_del_other e,hs k];constructor;{rintro ⟨i,hi,rfl⟩;exact ⟨i,rY.2 ⟨hi,fun e2=>e (by rw [e2])⟩,rfl⟩};{rintro ⟨i,hi,rfl⟩;exact ⟨i,(rY.1 hi).1,rfl⟩}}
theorem SM.put {h n:Nat} {D:DataW Unit} (hs:cI D s) (hD:IsMap D) (hp:s.Pairwise (·<·)) (hn:n<=2097152) {d:DataW Unit} (o:w'.ownsMap prog 22 unitElem h n (D.put (.int .u64 id) d)):SM w' h (mi s id):=by
 refine SM.of o hn (fun k=>?_) (iW (Gc hp));rw [(cI.put hs hD id d) k];constructor;{rintro ⟨i,hi,rfl⟩;exact ⟨i,yC.2 (by simp at hi;exact hi.symm),rfl⟩};{rintro ⟨i,hi,rfl⟩;exact ⟨i,by have:=yC.1 hi;simp;exact this.symm,rfl⟩}
theorem fh (w:World) (g hh uu:Nat) (nd:aA) (hN:Hid (PN w0 w g hh uu nd)) (id:Int) (hid:0<=id/\id<18446744073709551616) (B:Bool) (eB:Hid (nd.holders.contains id=B)) :
  Calls prog 242 #[.pointer (some ⟨g,0,none⟩),.int .u64 id] w fun r w'=>r=.returned (.bool B)/\Below w.heap.size w w':=by
 obtain ⟨V,-,-,-,-,-,n3,-⟩:=hN.cells;obtain ⟨D,n,o,hn,hs,hz⟩:=hN.GC;have cD:=keyOf_int_mk underlying22 (jt hid);have hB:Maps.has D (.int .u64 id)=B:=(hs.has id).trans eB;go_enter func242,ntmps242;go_wp2_with (first
  | (at_lookup;refine wpList_lookup_own_unit _ rfl _ _ 109 rfl 22 _ gp underlying109 (by kernel_rfl) hh n D rfl o _ _ rfl cD ?_;rw [hB])
  | go_in)
 go_ret;exact ⟨rfl,ar.alloc ay _⟩
theorem Qx (nd:aA) (id:Int):jh nd id=(decide (nd.mode=0)||(decide (nd.holders.length=1)&&nd.holders.contains id)):=by
 unfold jh
 match nd.holders with
 | []=>simp
 | [y]=>
  congr 1
  simp only [List.length_singleton,decide_true,Bool.true_and,List.headD_cons];rw [Bool.eq_iff_iff];simp;exact ⟨fun e=>(of_decide_eq_true e).symm,fun e=>decide_eq_true e.symm⟩
 | y::z::r=>simp
theorem Ik (w:World) (g hh uu:Nat) (nd:aA) (hN:Hid (PN w0 w g hh uu nd)) (id:Int) (hid:0<=id/\id<18446744073709551616) (B:Bool) (eB:Hid (jh nd id=B)) :
  Calls prog 233 #[.pointer (some ⟨g,0,none⟩),.int .u64 id] w fun r w'=>r=.returned (.bool B)/\Below w.heap.size w w':=by
 obtain ⟨V,-,-,-,-,n2,n3,-⟩:=hN.cells;obtain ⟨D,n,o,hn,hs,hz⟩:=hN.GC;have e:=aa eB;rw [Qx] at e;have hlen:=o.len underlying109 3;rw [hz] at hlen;by_cases hm:nd.mode=0;{
 have R6:(nd.mode==0)=true:=by simp [hm]
 have Xg:B=true:=by rw [<-e];simp [hm]
 subst Xg;go_enter func233,ntmps233;go_wp2;go_ret;exact ⟨rfl,Below.refl _ _⟩};{
 have R6:(nd.mode==0)=false:=by simp [hm]
 by_cases hl:nd.holders.length=1;{
 rw [hl] at hlen;have Xg:nd.holders.contains id=B:=by rw [<-e];simp [hm,hl]
 have EB:=ae Xg;go_enter func233,ntmps233;go_wp2_with fail;refine (fh w g hh uu nd hN id hid B EB).mono ?_;rintro r w1 ⟨rfl,aK⟩;go_wp2;go_ret;exact ⟨rfl,aK⟩};{
 obtain ⟨nl,iw⟩:=aZ nd.holders.length;rw [iw] at hlen hl;have Xg:B=false:=by rw [<-e,iw];simp [hm,hl]
 subst Xg;have CK:((nl:Int)==1)=false:=by simp;omega
 go_enter func233,ntmps233;go_wp2;go_ret;exact ⟨rfl,Below.refl _ _⟩}}
def KD (ns:List aA):Prop:=∀ (i j:Nat) (a c:aA),ns[i]?=some a->ns[j]?=some c->bj a.path=bj c.path->i=j
theorem KD.set (h:KD ns) (hk:ns[k]?=some nd) (hp:nd'.path=nd.path):KD (ns.set k nd'):=fun i j a c ha hc e=>by
 have key:∀ (i:Nat) (a:aA),(ns.set k nd')[i]?=some a->∃ a0,ns[i]?=some a0/\a0.path=a.path:=fun i a ha=>by rw [List.getElem?_set] at ha;by_cases ei:k=i;{subst ei;rw [if_pos rfl,if_pos (aM.1 hk).1] at ha;cases ha;exact ⟨nd,hk,hp.symm⟩};{rw [if_neg ei] at ha;exact ⟨a,ha,rfl⟩}
 obtain ⟨a0,h1,e1⟩:=key i a ha;obtain ⟨c0,h2,e2⟩:=key j c hc;exact h i j a0 c0 h1 h2 (by rw [e1,e2,e])
theorem BM (w:World) (b bs bn:Nat) (D:SD) (SB NB HB UB:List Nat) (h:Hid (PS w0 w b bs bn D SB NB HB UB)) (k:Nat) (nd:aA) (hk:Hid (D.ns[k]?=some nd)) (hS:Hid (uo D.ss)) (hT:Hid (NT D.ss nd)) (hD:Hid (KD D.ns)) :
  Calls prog 244 #[.pointer (some ⟨b,0,none⟩),.string (aB nd.path)] w fun r w'=>PS w0 w' b bs bn (DQ (da D k 2) k) SB (NB.eraseIdx k) (HB.eraseIdx k) (UB.eraseIdx k)/\(Fr T3 w w'/\Kb (PL b bs bn SB NB HB UB) w w')/\∃ v,r=.returned v:=by
 go_enter func244,ntmps244;go_wp2_with fail;refine (Ed w b bs bn D SB NB HB UB h k nd hk 2 hS hT).mono ?_;rintro r w1 ⟨hP,hF,v,rfl⟩;replace hF:=ae hF;have hns:(da D k 2).ns=D.ns.set k { nd with watchers:=[] }:=by unfold da;rw [aa hk]
 have oo:(da D k 2).ns[k]?=some { nd with watchers:=[] }:=by rw [hns];exact bk (aa hk) _
 have NJ:KD (da D k 2).ns:=by rw [hns];exact hD.set (aa hk) rfl
 obtain ⟨-,-,-,-,-,h5,-⟩:=hP.cO;obtain ⟨M,n,o,-,-,-⟩:=hP.ju;have cD:keyOf prog 9 (.string (aB nd.path))=some (bj nd.path):=by rw [WideMaps.keyOf_string_mk underlying9 (by rw [dI];have:=hT.pl;unfold maxLen;omega),jT]
 have HP:=ae (ag hP (ag oo NJ));obtain ⟨w',bS,ho,nG⟩:=o.drop ke underlying112 cD 0;have HT:=ae (ag ho nG);have O:=ae o;go_wp2
 go_end0
 have On:=One.J6 HP.1.be HT.2.grown HP.1.lo.2.2 (ownsMap_at O);refine ⟨?_,⟨hF.1.trans On.fr,hF.2.trans (On.kb (by simp [PL])) hF.1.1⟩,_,rfl⟩;refine HP.1.aM9 HP.2.1 On (fun j z hz e=>HP.2.2 j k z _ hz HP.2.1 e) (fun M' n' o'=>?_);obtain ⟨w2,Cx,iC,-⟩:=o'.drop ke underlying112 cD 0;rw [bS] at Cx;cases Cx;exact iC
theorem JP (w:World) (b bs bn:Nat) (D:SD) (SB NB HB UB:List Nat) (h:Hid (PS w0 w b bs bn D SB NB HB UB)) (k:Nat) (nd:aA) (hk:Hid (D.ns[k]?=some nd)) (hS:Hid (uo D.ss)) (hT:Hid (NT D.ss nd)) (hD:Hid (KD D.ns)) :
  Calls prog 244 #[.pointer (some ⟨b,0,none⟩),.string (aB nd.path)] w fun r w'=>PS w0 w' b bs bn (DQ (da D k 2) k) SB (NB.eraseIdx k) (HB.eraseIdx k) (UB.eraseIdx k)/\Fr T3 w w'/\∃ v,r=.returned v:=(BM w b bs bn D SB NB HB UB h k nd hk hS hT hD).mono fun r w' ⟨h1,h2,h3⟩=>⟨h1,h2.1,h3⟩
theorem PS.Ka {SB NB HB UB:List Nat} (h:PS w0 w b bs bn D SB NB HB UB) (hi:D.ns[i]?=some nd) (hg:NB[i]?=some g) (je:HB[i]?=some hh) (jq:UB[i]?=some uu) (O:One w0 w w' g) (V:Value) (vl:List Int) (ow mo ep ge:Int) (hc:w'.heap[g]?=some (.cells #[V,.int .u64 ow,.int .i64 mo,.map (some hh),.int .u64 ep,.int .u64 ge,.map (some uu)] 119)) (hV:AB w0 w' V vl) :
  PS w0 w' b bs bn { D with ns:=D.ns.set i { nd with value:=vl,owner:=ow,mode:=mo,aC:=ep,gen:=ge } } SB NB HB UB:=by
 obtain ⟨lo,⟨V0,q1,-⟩,q3,q4⟩:=h.jb i nd g hh uu hi hg je jq;obtain ⟨es,c,m3⟩:=q3.at;obtain ⟨Qz,c',m4⟩:=q4.at;refine h.Gf hi hg je jq (.inl rfl) O rfl ⟨lo,⟨V,hc,hV⟩,q3.aN O (fun e=>?_),q4.aN O (fun e=>?_)⟩;{rw [e,q1] at m3;cases m3};{rw [e,q1] at m4;cases m4}
theorem One.Pd (be:Below w0.heap.size w0 w) (hb:Below g w w') (hg:w.heap[g]?=some (.cells cs ty)) (KL:w0.heap.size<=g) (ht:ty∈[95,119,114]) (hk:∀ z,z<w.heap.size->z≠g->w'.heap[z]?=w.heap[z]?):One w0 w w' g:=by
 refine ⟨hb.mono KL,hk,fun cur Ox m hc=>?_⟩;rw [hg] at hc;simp at hc;rw [<-hc.2.1];exact ht
theorem ky {α:Type} (l:List α) (k:Nat) (a c:α):(l.set k a).set k c=l.set k c:=by simp
theorem xF (w:World) (b bs bn:Nat) (D:SD) (SB NB HB UB:List Nat) (h:Hid (PS w0 w b bs bn D SB NB HB UB)) (k:Nat) (nd:aA) (hk:Hid (D.ns[k]?=some nd)) (hS:Hid (uo D.ss)) (hT:Hid (NT D.ss nd)) (id:Int) (hid:0<=id/\id<18446744073709551616) (Sb:Hid (nd.holders.Pairwise (·<·))) (UW:nd.holders.length<=1048576) (sP:Hid (nd.holders.contains id=true)) :
  Calls prog 243 #[.pointer (some ⟨b,0,none⟩),.string (aB nd.path),.int .u64 id] w fun r w'=>PS w0 w' b bs bn (df D k id) SB NB HB UB/\(Fr T3 w w'/\Kb (PL b bs bn SB NB HB UB) w w')/\∃ v,r=.returned v:=by
 obtain ⟨g,hh,uu,hg,je,jq,hN,hlk⟩:=h.Ch hk hT.pl;obtain ⟨V,hV,gc,-,n1,n2,n3,n4,n5,n6,nf⟩:=hN.cells;obtain ⟨-,-,-,-,-,h5,-⟩:=h.cO;obtain ⟨M,nn,oM,YA,sM,zM⟩:=hN.GC;have cD:=keyOf_int_mk underlying22 (jt hid);obtain ⟨w1,bS,ho,nG⟩:=oM.drop gp underlying109 cD 0;have O1:=One.J6 h.be nG.grown hN.lo.2.1 (ownsMap_at oM);have S1:=SM.del (w:=w) sM Sb YA ho;have P1:=h.GC hk hg je jq O1 S1;have oo:=bk hk { nd with holders:=mh nd.holders id }
 obtain ⟨V1,Jl,gc1,m0,m1,m2,m3,m4,m5,m6,mf⟩:=(P1.jb k _ g hh uu oo hg je jq).cells;obtain ⟨M1,nn1,oM1,-,-,zM1⟩:=S1;have hlen:=oM1.len underlying109 3;rw [zM1] at hlen;obtain ⟨nl,iw⟩:∃ nl,Hid ((mh nd.holders id).length=nl):=⟨_,ae rfl⟩;rw [aa iw] at hlen;have Oh:=ae (ag P1 oo);have F1:=ae O1.fr;have K1:=ae (O1.kb (L:=PL b bs bn SB NB HB UB) (by simp [PL,aL je]));have sF:=ae (ag hg (ag je jq));have Ww:=ae (ag gc1 Jl);have glo:=hN.lo.1;go_enter func243,ntmps243;by_cases h0:nl=0;{
 subst h0;have kc:mh nd.holders id=[]:=List.length_eq_zero_iff.1 iw;obtain ⟨Z,hZ⟩:=ax (((w1.setCell ⟨g,2,none⟩ (.int .i64 0)).setCell ⟨g,4,none⟩ (.int .u64 0)).setCell ⟨g,5,none⟩ (.int .u64 0));have tS:Z.heap[g]?=some (.cells #[V1,.int .u64 nd.owner,.int .i64 0,.map (some hh),.int .u64 0,.int .u64 0,.map (some uu)] 119):=by rw [hZ];simp [World.setCell,Array.getElem?_modify,Ww.1]
 have bZ:Below g w1 Z:=by rw [hZ];exact ((ar.setCell (p:=⟨g,2,none⟩) ay _).setCell (p:=⟨g,4,none⟩) ay _).setCell (p:=⟨g,5,none⟩) ay _
 have kZ:∀ z,z<w1.heap.size->z≠g->Z.heap[z]?=w1.heap[z]?:=fun z _ bm=>by rw [hZ];iterate 3 rw [dr _ _ _ _ (show z≠_ from bm)]
 have OZ:=One.Pd Oh.1.be bZ Ww.1 glo (by simp) kZ;have PZ:=Oh.1.Ka Oh.2 sF.1 sF.2.1 sF.2.2 OZ V1 nd.value nd.owner 0 0 0 tS (Ww.2.fr OZ.fr (by decide));simp only [ky,kc] at PZ;have HPZ:=ae PZ;have FZ:=ae (F1.trans OZ.fr);have KZ:=ae (K1.trans (OZ.kb (by simp [PL,aL sF.1])) F1.1);have UN:=ae (bk hk { nd with holders:=[],mode:=0,aC:=0,gen:=0 });have fz2:=mf 2;have Lv:=mf 4;have ZS:=mf 5;go_wp2_with fail;rw [<-hZ];refine (Ed Z b bs bn _ SB NB HB UB HPZ k { nd with holders:=[],mode:=0,aC:=0,gen:=0 } UN 3 hS (ae ⟨hT.Xj,hT.pl,hT.Rs,hT.Bj,hT.xz⟩)).mono ?_;rintro r w5 ⟨Qn,hF5,v5,rfl⟩;replace hF5:=ae hF5;go_wp2
 go_end0
 refine ⟨?_,⟨FZ.trans hF5.1,KZ.trans hF5.2 FZ.1⟩,_,rfl⟩;unfold df;rw [aa hk];simp only [aa sP,if_true,kc];exact Qn};{
 have h0':(0:Int)<(nl:Int):=by omega
 go_wp2;refine bodyPost_ret (results_none (by rfl) _ _ _) rfl ?_;refine ⟨?_,⟨F1,K1⟩,_,rfl⟩;have bm:mh nd.holders id≠[]:=fun e=>h0 (by rw [<-aa iw,e];rfl);unfold df;rw [aa hk];simp only [aa sP,if_true,if_neg bm];exact Oh.1}
theorem Hj (w:World) (b bs bn:Nat) (D:SD) (SB NB HB UB:List Nat) (h:Hid (PS w0 w b bs bn D SB NB HB UB)) (k:Nat) (nd:aA) (hk:Hid (D.ns[k]?=some nd)) (hS:Hid (uo D.ss)) (hT:Hid (NT D.ss nd)) (id:Int) (hid:0<=id/\id<18446744073709551616) (Sb:Hid (nd.holders.Pairwise (·<·))) (UW:nd.holders.length<=1048576) (sP:Hid (nd.holders.contains id=true)) :
  Calls prog 243 #[.pointer (some ⟨b,0,none⟩),.string (aB nd.path),.int .u64 id] w fun r w'=>PS w0 w' b bs bn (df D k id) SB NB HB UB/\Fr T3 w w'/\∃ v,r=.returned v:=(xF w b bs bn D SB NB HB UB h k nd hk hS hT id hid Sb UW sP).mono fun r w' ⟨h1,h2,h3⟩=>⟨h1,h2.1,h3⟩
theorem Tryz.infoStr:(Tryz.prog.info? 9).map (fun i=>(i.zero,i.size,i.bytes))=some (some (.string ByteArray.empty),1,16):=by kernel_rfl
def nF (ns:List aA) (P:List Int):List (List Int):=(ns.filter fun nd=>decide (de nd.path=P)).map (·.path)
theorem xP (ns:List aA) (P:List Int):gw ns P=(nF ns P).map kG:=by
 unfold gw nF;rw [List.map_map]
 rfl
theorem Hw {P:List Int} (h:ns[k]?=some nd):nF (ns.take (k+1)) P=if de nd.path=P then nF (ns.take k) P++[nd.path] else nF (ns.take k) P:=by
 rw [List.take_add_one,h,nF,List.filter_append,List.map_append];by_cases e:de nd.path=P<;>simp [nF,e]
theorem Co (ns:List aA) (P:List Int):(nF ns P).length<=ns.length:=by
 rw [nF,List.length_map];exact List.length_filter_le _ _
def vJ (_:World) (l:List Int) (c:List Value):Prop:=c=[.string (aB l)]
theorem qG {ops:Array Oper} {rest:List Oper} {o:Oper} {a:Act} {Q:Exit->Act->World->Prop} (kM:o.guard=none) (s x:Operand)
  (ho:o.op=.call { callee:=.builtin .append,args:=#[s,x],argTypes:=#[140,140] })
  (B:Nat) (v:Value) (ls:List (List Int)) (l:List Int) (k:Nat) (ek:Hid (ls.length=k)) (hs:a.eval s=v) (aS:RT vJ 9 1 B w v ls) (g:Nat) (hx:a.eval x=.slice (some ⟨g,0,none⟩) 1 1) (gK:w.cell? ⟨g,0,none⟩=some (.string (aB l)))
  (hk:k<4194304) (hB:B<=w.heap.size)
  (h:∀ p' c' w',RT vJ 9 1 B w' (.slice p' (k+1) c') (ls++[l])->w.grownBy w' v.ownBlock->wpList Tryz.prog ops Q rest (a.put o.dst (.slice p' (k+1) c')) w'):wpList Tryz.prog ops Q (o::rest) a w:=by
 obtain ⟨i,hi,jG,gi,gP⟩:=info_parts Tryz.infoStr;obtain ⟨rs,h1,h2,h3,h4⟩:=aS;rw [aa ek] at h3;refine dO kM s x 140 ho B 9 i _ 1 16 Tryz.underlying140 hi jG gi gP rfl (by decide) v _ _ hs h3 g 1 1 [.string (aB l)] hx rfl (fun j u hu=>by
  have e:j=0:=by have:=(aM.1 hu).1;simpa using this
  subst e;simp at hu;subst hu;exact gK) (fun u hu=>by simp at hu;rw [hu];rfl) (by unfold maxLen;omega) (by omega) hB ?_
 intro v' w' dN hg _;have sn:RT vJ 9 1 B w' v' (ls++[l]):=RT.snoc h1 h2 h4 (fun _ _ h=>h) rfl rfl (by rw [aa ek];exact dN);obtain ⟨p',c',rfl,-⟩:=RT.form sn;rw [List.length_append,aa ek] at sn ⊢;exact h p' c' w' sn hg
theorem RT.MP {ls:List (List Int)} (h:RT vJ 9 1 B w v ls) (hb:Below w.heap.size w w'):RT vJ 9 1 B w' v ls:=h.aN (fun _ _ h=>h) (fun b bu=>hb.block b (h.lt b bu).2)
theorem rC (w:World) (b bs bn:Nat) (D:SD) (SB NB HB UB:List Nat) (h:Hid (PS w0 w b bs bn D SB NB HB UB)) (tv:Hid ((D.ns.map fun nd=>kI nd.path).Pairwise (·<·))) (du:Hid (∀ nd∈D.ns,cT nd.path/\nd.path.length<=1048576)) (P:List Int) (bP:Hid (cT P)) (L:List (List Int)) (eL:Hid (nF D.ns P=L)) :
  Calls Tryz.prog 253 #[.pointer (some ⟨b,0,none⟩),.string (aB P)] w fun r w'=>∃ p c,r=.returned (.slice p L.length c)/\RT vJ 9 1 w.heap.size w' (.slice p L.length c) L/\Below w.heap.size w w':=by
 obtain ⟨-,-,-,-,-,h5,-⟩:=h.cO;obtain ⟨M,nn,oM,YA,mM,zM⟩:=h.ju;have Zt:=h.sto.lh;go_enter Tryz.func253,Tryz.ntmps253;go_wp2_with fail;refine (T.gR bn nn M w oM (by have:=oM.size_le;omega)).mono ?_;rintro r w1 ⟨kv,ks,rfl,DG,yW,aK⟩;obtain rfl:=pL Zt tv mM DG;obtain ⟨p,c,rfl,sO⟩:=yX yW;obtain ⟨m,em⟩:∃ m,Hid (D.ns.length=m):=⟨_,ae rfl⟩;have hm:m<=1048576:=by have:=oM.size_le;rw [zM,aa em] at this;omega
 rw [aa em];have HK:=ae sO;have B1:=ae aK;go_wp2
 go_loopw [5,14] (fun ov iv wr=>∃ (j:Nat) (N:List (List Int)),j<=m/\iv=.int .i64 j/\Hid (nF (D.ns.take j) P=N)/\Hid (RT vJ 9 1 w1.heap.size wr ov N)/\Hid (Below w1.heap.size w1 wr)) (fun _ iv _=>m-(intOf iv).toNat)
 case atStart=>exact ⟨0,[],Nat.zero_le _,rfl,(by show _=_;simp [nF]),RT.nil _ _ _ _ _,Below.refl _ _⟩
 case round =>(
 obtain ⟨j,N,hj,rfl,hN,hT,aE⟩:=hrel;obtain ⟨po,co,rfl,-⟩:=RT.form hT;have zr:=aE.size;have UE:N.length<=j:=by have h1:=Co (D.ns.take j) P;have h2:=List.length_take_le j D.ns;rw [aa hN] at h1;omega
 by_cases aU:j<m;{
 have aV:(j:Int)<(m:Int):=by omega
 obtain ⟨nd,hx⟩:∃ nd,D.ns[j]?=some nd:=⟨_,aH (by rw [aa em];exact aU)⟩;obtain ⟨gk,rfl,GG⟩:∃ gk,p=some ⟨gk,0,none⟩/\wr.cell? ⟨gk,j,none⟩=some (.string (aB nd.path)):=by rcases aa HK with h0 | ⟨gk,rfl,h1,h2,h3⟩;{rw [h0] at hx;simp at hx};{exact ⟨gk,rfl,af (by have:=h3 j nd hx;rwa [Nat.zero_add] at this) (aa aE)⟩}
 obtain ⟨aK,aG⟩:=aa du nd (aL hx);have jl:=ae (Hw (P:=P) hx);obtain ⟨nP,eN⟩:∃ nP,Hid (nd.path.length=nP):=⟨_,ae rfl⟩;rw [aa eN] at aG;have kK:=ae aK;have heq:=rD (ld aK) bP;go_wp2_with fail;refine (lT nd.path nP eN kK aG wr).mono ?_;rintro r w2 ⟨rfl,rfl⟩;by_cases hq:de nd.path=P;{
 have om:decide (de nd.path=P)=true:=by simp [hq]
 rw [om] at heq;have E1:=ae (by have:=aa jl;rwa [if_pos hq,aa hN] at this:nF (D.ns.take (j+1)) P=N++[nd.path]);go_wp2_with (at_builtin;refine qG rfl _ _ rfl w1.heap.size (.slice po N.length co) N nd.path N.length (ae rfl) rfl (RT.MP (aa hT) (ar.alloc ay _)) w2.heap.size rfl (by simp) (by omega) (by simp;omega) ?_);intro p' c' w5 T5 oB;have bA:Below w2.heap.size w2 (w2.alloc (.cells #[.string (aB nd.path)] 9)):=ar.alloc ay _;have B5:=ae ((ai (aa aE) bA).grown oB (by simp;omega) (fun b' e=>(hT.lt b' e).1));have T5':=ae T5;go_wp2;go_roundw
 case rel=>exact ⟨j+1,_,by omega,by go_num,E1,T5',B5⟩
 case measure=>simp [intOf];omega}
 {
 have om:decide (de nd.path=P)=false:=by simp [hq]
 rw [om] at heq;have E1:=ae (by have:=aa jl;rwa [if_neg hq,aa hN] at this:nF (D.ns.take (j+1)) P=N);go_wp2;go_roundw
 case rel=>exact ⟨j+1,N,by omega,by go_num,E1,hT,aE⟩
 case measure=>simp [intOf];omega}}
 {
 have aV:¬ (j:Int)<(m:Int):=by omega
 have e1:=aa hN;rw [List.take_of_length_le (by rw [aa em];omega),aa eL] at e1;subst e1;go_wp2;go_ret;exact ⟨_,_,rfl,RT.mono hT B1.size,ai B1 aE⟩})
theorem J1 (e g x t:Int) (p:Option Addr) (n c:Nat) (q:Option Addr) (m d:Nat) (ss:List aR) (Qs:List Value) (ns:List aA) (en:Hid (ss.length=n)) (em:Hid (ns.length=m)) (B:Nat) (w:World) (hS:Hid (fK B w (.slice p n c) ss Qs)) (hN:Hid (dA B w (.slice q m d) ns)) (hB:B<=w.heap.size) (hn:n<=1048576) (hx:0<=x/\x<=4611686018427387904) (ht:0<=t/\t<=1000000) :
  Calls prog 53 #[cL e g x t (.slice p n c) (.slice q m d)] w fun r w'=>QR B w w' r (jZ ⟨e,g,x,t,ss,ns⟩).1 (jZ ⟨e,g,x,t,ss,ns⟩).2:=by
 obtain ⟨W0,dT,b0,z0,C0⟩:=dz w (.int .u64 e) (.int .u64 g) (.int .u64 x) (.int .i64 t) (.slice p n c) (.slice q m d);obtain ⟨W1,fN,b1,z1,C1⟩:=dz W0 (.int .u64 0) (.int .u64 0) (.int .u64 0) (.int .i64 0) (.slice none 0 0) (.slice none 0 0);obtain ⟨W2,gr,b2,z2,C2⟩:=fo W1 (.int .i64 0) (.int .u64 0) (.int .u64 0) (.int .u64 0) (.int .i64 0) al al al;rw [z0] at C1 z1;rw [z1] at C2 z2;have HC:=ae (ag ((C0.below b1).below b2) (ag (C1.below b2) C2));have bW:=ae (ai (ai b0 b1) b2);have HS:=ae (ag (hS.fr (Fr.below (T:=[]) (aa bW)) (by decide)) (hN.fr (Fr.below (T:=[]) (aa bW)) (by decide)));clear b0 b1 b2 C0 C1 C2;go_enter func53,ntmps53;by_cases Vr:50<=n;{
 have Vq:decide ((50:Int)<=(n:Int))=true:=by simp;omega
 have hI:jZ ⟨e,g,x,t,ss,ns⟩=(⟨e,g,x,t,ss,ns⟩,rO 11):=by unfold jZ;rw [if_pos (by simpa [aa en] using Vr)]
 rw [hI];go_wp2_with fail;rw [<-dT,<-fN,<-gr];refine dF _ 1 2 3 9 10 _ 11 w.heap.size (w.heap.size+1) (w.heap.size+1+1) e g x t p n c q m d (by kernel_rfl) rfl (fun _ _=>rfl) (fun _ _=>rfl) (fun _ _=>rfl) (fun _ _=>rfl) HC.1 HC.2.1 HC.2.2 (by omega) w.heap.size (by omega) (by omega) ?_;intro w' aK gQ f1 fQ;have HQ:=ae (QR.num (e:=e) (g:=g) (x:=x) (t:=t) en em HS.1 HS.2 (Fr.below bW) (bW.mono hB) f1 fQ hB 11 0 0 0 0);clear dT fN gr f1 fQ;obtain ⟨q0,q1,q2,q3,q4,q5,qf⟩:=aK.cells;obtain ⟨r0,r1,r2,r3,r4,r5,r6,r7,rf⟩:=gQ.cells;simp only [Act.put,xa,xb,xc];go_wp2;exact bodyPost_ret (v:=.tuple #[cL e g x t (.slice p n c) (.slice q m d),fM 11 0 0 0 0 al al al]) (by simp [results,results53,go_sem,q0,q1,q2,q3,q4,q5,r0,r1,r2,r3,r4,r5,r6,r7]) rfl (aa HQ)};{
 have Vq:decide ((50:Int)<=(n:Int))=false:=by simp;omega
 by_cases hx2:4611686018427387904<=x;{
 have az9:decide (4611686018427387904<=x)=true:=by simp;omega
 have hI:jZ ⟨e,g,x,t,ss,ns⟩=(⟨e,g,x,t,ss,ns⟩,rO 12):=by unfold jZ;rw [if_neg (by simpa [aa en] using Vr),if_pos hx2]
 rw [hI];go_wp2_with fail;rw [<-dT,<-fN,<-gr];refine dF _ 1 2 3 14 15 _ 12 w.heap.size (w.heap.size+1) (w.heap.size+1+1) e g x t p n c q m d (by kernel_rfl) rfl (fun _ _=>rfl) (fun _ _=>rfl) (fun _ _=>rfl) (fun _ _=>rfl) HC.1 HC.2.1 HC.2.2 (by omega) w.heap.size (by omega) (by omega) ?_;intro w' aK gQ f1 fQ;have HQ:=ae (QR.num (e:=e) (g:=g) (x:=x) (t:=t) en em HS.1 HS.2 (Fr.below bW) (bW.mono hB) f1 fQ hB 12 0 0 0 0);clear dT fN gr f1 fQ;obtain ⟨q0,q1,q2,q3,q4,q5,qf⟩:=aK.cells;obtain ⟨r0,r1,r2,r3,r4,r5,r6,r7,rf⟩:=gQ.cells;simp only [Act.put,xa,xb,xc];go_wp2;exact bodyPost_ret (v:=.tuple #[cL e g x t (.slice p n c) (.slice q m d),fM 12 0 0 0 0 al al al]) (by simp [results,results53,go_sem,q0,q1,q2,q3,q4,q5,r0,r1,r2,r3,r4,r5,r6,r7]) rfl (aa HQ)};{
 have az9:decide (4611686018427387904<=x)=false:=by simp;omega
 have hI:jZ ⟨e,g,x,t,ss,ns⟩=(⟨e,g,x+1,t,ss++[(x+1,t+10,[])],ns⟩,⟨0,x+1,0,0,t+10,[],[],[]⟩):=by unfold jZ;rw [if_neg (by simpa [aa en] using Vr),if_neg hx2];rfl
 rw [hI];have wx:IntKind.u64.wrap (x+1)=x+1:=IntWalk.u64_in _ (by omega);have wt:IntKind.i64.wrap (t+10)=t+10:=IntWalk.i64_in _ (by omega);clear dT fN gr z0 z1 z2 HC HS bW;obtain ⟨V0,Zj,b0,z0,C0⟩:=dz w (.int .u64 e) (.int .u64 g) (.int .u64 (x+1)) (.int .i64 t) (.slice p n c) (.slice q m d);obtain ⟨V1,Jl,b1,z1,C1⟩:=dz V0 (.int .u64 0) (.int .u64 0) (.int .u64 0) (.int .i64 0) (.slice none 0 0) (.slice none 0 0);obtain ⟨V2,hV2,b2,z2,C2⟩:=fo V1 (.int .i64 0) (.int .u64 0) (.int .u64 0) (.int .u64 0) (.int .i64 0) al al al;obtain ⟨V3,hV3,b3,z3,C3,-⟩:=au V2 #[.int .u64 (x+1),.int .i64 (t+10),.slice none 0 0] 95;rw [z0] at C1 z1;rw [z1] at C2 z2;rw [z2] at C3 z3;have HC:=ae (ag (((C0.below b1).below b2).below b3) (ag ((C1.below b2).below b3) (C2.below b3)));have bW:=ae (ai (ai (ai b0 b1) b2) b3);have HS:=ae (ag (hS.fr (Fr.below (T:=[]) (aa bW)) (by decide)) (hN.fr (Fr.below (T:=[]) (aa bW)) (by decide)));have IU:=ae C3;have lz:Hid ((ss.zip Qs).length=n):=by show _=_;rw [List.length_zip,hS.len,aa en];simp
 have KL:Hid (∀ b,(Value.slice p n c).ownBlock=some b->B<=b/\b<w.heap.size):=fun b hb=>hS.row.lt b hb;clear b0 b1 b2 b3 C0 C1 C2 C3 z0 z1 z2;go_wp2_with (at_builtin;rw [<-Zj,<-Jl,<-hV2,<-hV3];refine kR rfl _ _ rfl B (.slice p n c) (ss.zip Qs) ((x+1,t+10,[]),al) n lz rfl HS.1.row (w.heap.size+1+1+1) rfl rfl IU.1 (by omega) (by omega) ?_);intro p' c' w9 hr9 ue PT;rw [<-Zj,<-Jl,<-hV2,<-hV3] at ue PT;have S9:=HS.1.XE PT _ _ hr9;have N9:=dA.fr HS.2 PT (by decide);have B9:Below B w w9:=(bW.mono hB).grown ue (by omega) (fun b hb=>(aa KL b hb).1);have F9:Fr [147,95,103] w w9:=(Fr.below (aa bW)).trans (PT.sub (by simp));have X0:=HC.1.fr PT (by decide);have X1:=HC.2.1.fr PT (by decide);have X2:=HC.2.2.fr PT (by decide);obtain ⟨k0,k1,k2,k3,k4,k5,kf⟩:=X0.cells;obtain ⟨fA,bA,gA⟩:=X0.ZW (j:=4) F9 B9 ay hB (.slice p' (n+1) c');obtain ⟨Z,hZ⟩:=ax (w9.setCell ⟨w.heap.size,4,none⟩ (.slice p' (n+1) c'));have CZ:ah Z w.heap.size [.int .u64 e,.int .u64 g,.int .u64 (x+1),.int .i64 t,.slice p' (n+1) c',.slice q m d]:=by rw [hZ];exact X0.1.dC 4 (by simp) _
 have X1':=X1.uG (b:=w.heap.size) (j:=4) (u:=.slice p' (n+1) c') (by omega);rw [<-hZ] at fA bA gA X1';have X2':=X2.fr gA (by decide);have HZ:=ae (ag CZ (ag X1' X2'));have HS9:=ae (ag (S9.fr gA (by decide)) (ag (dA.fr N9 gA (by decide)) (ag fA bA)));have zZ:w.heap.size+3<Z.heap.size+1:=by have:=X2'.1;have:=fA.1;have h9:=PT.1;have:=gA.1;omega
 clear hr9 ue PT S9 N9 B9 F9 X0 X1 X2 fA bA gA CZ X1' X2' Zj Jl hV2 hV3 HC HS IU lz KL bW;go_wp2_with fail;rw [<-hZ];clear hZ k0 k1 k2 k3 k4 k5 kf;obtain ⟨vA,bt⟩:=ax Z.drew;have bG:Below Z.heap.size Z vA:=by rw [bt];exact ar.drew
 have HA:=ae (ag (HZ.1.below (by omega) bG) (ag (HZ.2.1.below bG) (HZ.2.2.below bG)));have BA:=ae bG;refine wp_region_noPanic ?_;refine wp_region_held_drew (S:=fun w'=>w'.cell? ⟨w.heap.size,0,none⟩=some (.int .u64 e)/\w'.cell? ⟨w.heap.size,1,none⟩=some (.int .u64 g)/\w'.cell? ⟨w.heap.size,2,none⟩=some (.int .u64 (x+1))/\w'.cell? ⟨w.heap.size,3,none⟩=some (.int .i64 t)/\w'.cell? ⟨w.heap.size,4,none⟩=some (.slice p' (n+1) c')/\w'.cell? ⟨w.heap.size,5,none⟩=some (.slice q m d)) (by kernel_rfl) (by rw [<-bt];exact ⟨HA.1.1 0 _ rfl,HA.1.1 1 _ rfl,HA.1.1 2 _ rfl,HA.1.1 3 _ rfl,HA.1.1 4 _ rfl,HA.1.1 5 _ rfl⟩) (fun hS=>?_);rw [<-bt] at hS ⊢;clear bt bG;refine gD 0 1 2 3 hS ?_;refine tn 4 hS ?_;refine bR 5 fun KK hK=>?_;obtain ⟨k0,k1,k2,k3,k4,k5,kf⟩:=HA.2.1.cells;go_simp;obtain ⟨X,hX⟩:=ax (db vA (w.heap.size+1) (.int .u64 e) (.int .u64 g) (.int .u64 (x+1)) (.int .i64 t) (.slice p' (n+1) c') (.slice q m d));have bX:Below (w.heap.size+1) vA X:=by rw [hX];exact cE _ _ _ _ _ _ _ _
 have mQ:=HA.2.1.put (.int .u64 e) (.int .u64 g) (.int .u64 (x+1)) (.int .i64 t) (.slice p' (n+1) c') (.slice q m d);have CX:=qR HA.1 (b:=w.heap.size+1) (by omega) (.int .u64 e) (.int .u64 g) (.int .u64 (x+1)) (.int .i64 t) (.slice p' (n+1) c') (.slice q m d);have fX:Fr [35] vA X:=by obtain ⟨-,cur,ht⟩:=HA.2.1;rw [hX];exact gH ht
 rw [<-hX] at mQ CX;have MZ:=HA.2.2.fr fX (by decide);unfold db at hX;rw [<-hX];have HX:=ae (ag mQ (ag CX (ag MZ (ag fX bX))));refine bM hK (by exact ⟨CX.1 0 _ rfl,CX.1 1 _ rfl,CX.1 2 _ rfl,CX.1 3 _ rfl,CX.1 4 _ rfl,CX.1 5 _ rfl⟩) fun hS=>?_;clear hK KK hX k0 k1 k2 k3 k4 k5 kf mQ CX MZ fX bX;refine bR 6 fun KK hK=>?_;obtain ⟨k0,k1,k2,k3,k4,k5,k6,k7,kf⟩:=HX.2.2.1.cells;go_simp;obtain ⟨Js,fY⟩:=HX.2.2.1.put (.int .i64 0) (.int .u64 (x+1)) (.int .u64 0) (.int .u64 0) (.int .i64 (t+10)) al al al;have bY:=aQ X (w.heap.size+1+1) (.int .i64 0) (.int .u64 (x+1)) (.int .u64 0) (.int .u64 0) (.int .i64 (t+10)) al al al;obtain ⟨Y,hY⟩:=ax (fE X (w.heap.size+1+1) (.int .i64 0) (.int .u64 (x+1)) (.int .u64 0) (.int .u64 0) (.int .i64 (t+10)) al al al);rw [<-hY] at Js fY bY;unfold fE db at hY;rw [<-hY];have CY:=HX.2.1.bg (bY.block _ (by omega));have BY:=ae (ag (HX.1.fr fY (by decide)) (ag Js (ag ((Fr.below (T:=[35,39]) (aa BA)).trans ((HX.2.2.2.1.sub (by simp)).trans (fY.sub (by simp)))) ((BA.mono (by omega)).trans ((HX.2.2.2.2.mono (Nat.le_succ _)).trans (bY.mono (by omega)))))));refine bM hK (by exact ⟨CY.1 0 _ rfl,CY.1 1 _ rfl,CY.1 2 _ rfl,CY.1 3 _ rfl,CY.1 4 _ rfl,CY.1 5 _ rfl⟩) fun hS=>?_;clear hK KK hY k0 k1 k2 k3 k4 k5 k6 k7 kf Js fY bY CY;refine wpAnyH_done (by kernel_rfl) ?_ _;refine bc ?_;clear hS;obtain ⟨aK,gQ,f1,fQ⟩:=aa BY;have HQ:=ae (QR.num (e:=e) (g:=g) (x:=x+1) (t:=t) (ae (by rw [List.length_append,aa en];rfl)) em HS9.1 HS9.2.1 HS9.2.2.1 HS9.2.2.2 f1 fQ hB 0 (x+1) 0 0 (t+10));clear f1 fQ;obtain ⟨q0,q1,q2,q3,q4,q5,qf⟩:=aK.cells;obtain ⟨r0,r1,r2,r3,r4,r5,r6,r7,rf⟩:=gQ.cells;go_wp2;exact bodyPost_ret (v:=.tuple #[cL e g (x+1) t (.slice p' (n+1) c') (.slice q m d),fM 0 (x+1) 0 0 (t+10) al al al]) (by simp [results,results53,go_sem,q0,q1,q2,q3,q4,q5,r0,r1,r2,r3,r4,r5,r6,r7]) rfl (aa HQ)}}
end Go.Proofs.YtmfjiolopcbcmaaGreatDoor
