import Derived.Test.YtmfjiolopcbcmaaGreatDoorK19
import Derived.Test.YtmfjiolopcbcmaaGreatDoorK20
import Derived.Test.YtmfjiolopcbcmaaGreatDoorK21
namespace Go.Proofs.YtmfjiolopcbcmaaGreatDoor
set_option maxHeartbeats 6400000
set_option linter.unusedVariables false
set_option linter.unusedSimpArgs false
set_option maxRecDepth 100000
open Go.ChangeShapes Go.WideShapes Go.ChangeAt Go.RowKit Go.Maps Go.Proofs.Tryz
variable {D:DataW Unit} {SB:List Nat} {b bn bs g gb h i sb:Nat} {e t x:Int} {es:List Ev} {k:TypeId} {l s:List Int} {nd:aA} {ns:List aA} {ss:List aR} {u v:Value} {w w' w0 w1 w2:World}
structure IP (w:World) (bs:Nat) (ss:List aR) (SB:List Nat):Prop where
 len:SB.length=ss.length
 own:∃ D n,w.ownsMap prog 22 aT bs n D/\n<=1048576/\dZ D (List.zipWith (fun (s:aR) g=>(Lit.int .u64 s.1,g)) ss SB)
 aF:∀ (i:Nat) (s:aR) (g:Nat),ss[i]?=some s->SB[i]?=some g->∃ u,w.heap[g]?=some (.cells #[.int .u64 s.1,.int .i64 s.2.1,u] 95)/\iO w u s.2.2
structure IQ (w:World) (bn:Nat) (ns:List aA) (NB:List Nat):Prop where
 len:NB.length=ns.length
 own:∃ D n,w.ownsMap prog 9 aT bn n D/\n<=1048576/\dZ D (List.zipWith (fun (nd:aA) g=>(bj nd.path,g)) ns NB)
 aF:∀ (i:Nat) (nd:aA) (g:Nat),ns[i]?=some nd->NB[i]?=some g->∃ V h u,KN w g h u V nd
theorem KN.below {u:Nat} {V:Value} (k:KN w g h u V nd) (hb:Below w.heap.size w w'):KN w' g h u V nd:=by
 obtain ⟨h1,h2,⟨D1,o1,s1⟩,⟨D2,o2,s2⟩⟩:=k;exact ⟨(hb.block g (aI h1)).trans h1,h2.below hb,⟨D1,o1.kept (az hb none) (by simp),s1⟩,⟨D2,o2.kept (az hb none) (by simp),s2⟩⟩
theorem IP.below (h:IP w bs ss SB) (hb:Below w.heap.size w w'):IP w' bs ss SB:=by
 obtain ⟨h1,⟨D,n,o,hn,m⟩,h3⟩:=h;refine ⟨h1,⟨D,n,o.kept (az hb none) (by simp),hn,m⟩,fun i s g hs hg=>?_⟩;obtain ⟨u,q1,q2⟩:=h3 i s g hs hg;exact ⟨u,(hb.block g (aI q1)).trans q1,q2.below hb⟩
theorem IQ.below {NB:List Nat} (h:IQ w bn ns NB) (hb:Below w.heap.size w w'):IQ w' bn ns NB:=by
 obtain ⟨h1,⟨D,n,o,hn,m⟩,h3⟩:=h;refine ⟨h1,⟨D,n,o.kept (az hb none) (by simp),hn,m⟩,fun i s g hs hg=>?_⟩;obtain ⟨V,h,u,q⟩:=h3 i s g hs hg;exact ⟨V,h,u,q.below hb⟩
structure Sto (w:World) (b bs bn:Nat) (e g x t:Int) (ss:List aR) (ns:List aA) (SB NB:List Nat):Prop where
 hd:w.heap[b]?=some (.cells #[.int .u64 e,.int .u64 g,.int .u64 x,.int .i64 t,.map (some bs),.map (some bn)] 114)
 En:IP w bs ss SB
 lh:IQ w bn ns NB
theorem Sto.below {g:Int} {SB NB:List Nat} (h:Sto w b bs bn e g x t ss ns SB NB) (hb:Below w.heap.size w w'):Sto w' b bs bn e g x t ss ns SB NB:=
 ⟨(hb.block b (aI h.hd)).trans h.hd,h.En.below hb,h.lh.below hb⟩
theorem uY (h:IP w bs ss SB) {s:aR} (hs:ss[i]?=some s):∃ g,SB[i]?=some g/\(Lit.int .u64 s.1,g)∈List.zipWith (fun (s:aR) g=>(Lit.int .u64 s.1,g)) ss SB:=by
 have hi:=(aM.1 hs).1;obtain ⟨g,hg⟩:∃ g,SB[i]?=some g:=⟨_,aH (by rw [h.len];exact hi)⟩;refine ⟨g,hg,aL (i:=i) ?_⟩;rw [List.getElem?_zipWith,hs,hg]
theorem uZ {NB:List Nat} (h:IQ w bn ns NB) (hs:ns[i]?=some nd):∃ g,NB[i]?=some g/\(bj nd.path,g)∈List.zipWith (fun (nd:aA) g=>(bj nd.path,g)) ns NB:=by
 have hi:=(aM.1 hs).1;obtain ⟨g,hg⟩:∃ g,NB[i]?=some g:=⟨_,aH (by rw [h.len];exact hi)⟩;refine ⟨g,hg,aL (i:=i) ?_⟩;rw [List.getElem?_zipWith,hs,hg]
theorem Gs {α β γ:Type} {f:α->β->γ} {l:List α} {m:List β} {z:γ} (h:z∈List.zipWith f l m):∃ a∈l,∃ b,z=f a b:=by
 induction l generalizing m with
 | nil=>simp at h
 | cons a l ih=>
  cases m with
  | nil=>simp at h
  | cons b m=>
   simp only [List.zipWith_cons_cons,List.mem_cons] at h;rcases h with rfl | h;{exact ⟨a,by simp,b,rfl⟩};{obtain ⟨a',ha,b',e⟩:=ih h;exact ⟨a',by simp [ha],b',e⟩}
theorem El (h:IP w bs ss SB) (hs:ss.Pairwise (fun s s'=>s.1<s'.1)) (m:dZ D (List.zipWith (fun (s:aR) g=>(Lit.int .u64 s.1,g)) ss SB)) {ids:List Int} (ha:Q.Rr D ids):ids=ss.map (·.1):=by
 refine l9 ha.lt (List.pairwise_map.2 hs) fun x=>?_;rw [ha.mem x,m.hs];constructor;{rintro ⟨p,hp,e⟩;obtain ⟨s,vh,g,rfl⟩:=Gs hp;simp only [Lit.int.injEq,true_and] at e;exact List.mem_map.2 ⟨s,vh,e⟩};{intro hx;obtain ⟨s,vh,rfl⟩:=List.mem_map.1 hx;obtain ⟨i,hi,e⟩:=List.getElem_of_mem vh;obtain ⟨g,hg,hm⟩:=uY h (i:=i) (s:=s) (by rw [aH hi,e]);exact ⟨_,hm,rfl⟩}
def kI (l:List Int):List UInt8:=l.map fun n=>UInt8.ofNat n.toNat
theorem xG {α:Type} [LT α] (irr:∀ a:α,¬ a<a) (tr:∀ a b c:α,a<b->b<c->a<c):∀ {l m:List α},l.Pairwise (·<·)->m.Pairwise (·<·)->(∀ x,x∈l↔x∈m)->l=m
 | [],[],_,_,_=>rfl
 | [],b::m,_,_,h=>absurd ((h b).2 (by simp)) (by simp)
 | a::l,[],_,_,h=>absurd ((h a).1 (by simp)) (by simp)
 | a::l,b::m,h1,h2,h=>by
  rw [List.pairwise_cons] at h1 h2;have wF:a=b:=by rcases List.mem_cons.1 ((h a).1 (by simp)) with e | e;{exact e};{rcases List.mem_cons.1 ((h b).2 (by simp)) with e' | e';{exact e'.symm};{exact absurd (tr _ _ _ (h2.1 a e) (h1.1 b e')) (irr _)}}
  subst wF;rw [xG irr tr h1.2 h2.2 (fun x=>?_)];constructor;{intro hx;rcases List.mem_cons.1 ((h x).1 (by simp [hx])) with e | e;{subst e;exact absurd (h1.1 _ hx) (irr _)};{exact e}};{intro hx;rcases List.mem_cons.1 ((h x).2 (by simp [hx])) with e | e;{subst e;exact absurd (h2.1 _ hx) (irr _)};{exact e}}
theorem pL {NB:List Nat} (h:IQ w bn ns NB) (hs:(ns.map fun nd=>kI nd.path).Pairwise (·<·)) (m:dZ D (List.zipWith (fun (nd:aA) g=>(bj nd.path,g)) ns NB)) {ks:List (List UInt8)} (ha:T.Rr D ks):ks=ns.map fun nd=>kI nd.path:=by
 refine xG (fun a=>List.lt_irrefl a) (fun a b c=>List.lt_trans) ha.lt hs fun x=>?_;rw [ha.mem x,m.hs];constructor;{rintro ⟨p,hp,e⟩;obtain ⟨s,vh,g,rfl⟩:=Gs hp;simp only [bj,Lit.string.injEq] at e;exact List.mem_map.2 ⟨s,vh,e⟩};{intro hx;obtain ⟨s,vh,rfl⟩:=List.mem_map.1 hx;obtain ⟨i,hi,e⟩:=List.getElem_of_mem vh;obtain ⟨g,hg,hm⟩:=uZ h (i:=i) (nd:=s) (by rw [aH hi,e]);exact ⟨_,hm,rfl⟩}
theorem Bh (w:World):(zeroValue 115).run prog w=.ok (.pointer none) w:=by kernel_rfl
theorem Cf {bs n:Nat} {l:List (Lit × Nat)} (o:w.ownsMap prog 22 aT bs n D) (m:dZ D l) {I:Int} (hp:(Lit.int .u64 I,g)∈l) (hI:0<=I/\I<18446744073709551616) :
  (Instr.lookup 111 (.map (some bs)) (.int .u64 I) false).run prog w=.ok (.pointer (some ⟨g,0,none⟩)) w:=by
 obtain ⟨v,ps,hr,hv⟩:=o.lookup gp underlying111 (Bh w) (zd:=.nil) (zp:=[]) rfl (key:=.int .u64 I) (keyOf_int_mk underlying22 (jt hI));rw [m.at' _ hp] at hv;obtain rfl:=gJ hv;exact hr
theorem Cg {bn n:Nat} {l:List (Lit × Nat)} (o:w.ownsMap prog 9 aT bn n D) (m:dZ D l) {P:List Int} (hp:(bj P,g)∈l) (hP:P.length<=1048576) :
  (Instr.lookup 112 (.map (some bn)) (.string (aB P)) false).run prog w=.ok (.pointer (some ⟨g,0,none⟩)) w:=by
 obtain ⟨v,ps,hr,hv⟩:=o.lookup ke underlying112 (jQ w) (zd:=.nil) (zp:=[]) rfl (key:=.string (aB P)) (kl:=bj P) (by rw [WideMaps.keyOf_string_mk underlying9 (by rw [dI];unfold maxLen;omega),jT])
 rw [m.at' _ hp] at hv;obtain rfl:=gJ hv;exact hr
theorem iL {row:Option Nat} (h:w.grownBy w1 (some sb)) (k:w1.grownBy w2 row) (hr:∀ b,row=some b->w.heap.size<=b\/b=sb):w.grownBy w2 (some sb):=
 ⟨k.os.trans h.os,k.tape.trans h.tape,k.output.trans h.output,Nat.le_trans h.size k.size,fun i hi bm=>(k.block i (Nat.lt_of_lt_of_le hi h.size) (fun e=>by rcases hr i e.symm with h' | h';{omega};{exact bm (by rw [h'])})).trans (h.block i hi bm)⟩
theorem aD (w:World) (a:Addr) (v:Value):w.grownBy (w.setCell a v) (some a.block):=
 ⟨rfl,rfl,rfl,by simp,fun k _ hk=>dr _ _ _ _ (fun e=>hk (by rw [e]))⟩
theorem qm (h:Below w.heap.size w w1) (k:w1.grownBy w2 (some sb)) (hs:w.heap.size<=sb):Below w.heap.size w w2:=h.grown k h.size (fun b e=>by cases e;exact hs)
theorem qS {R:Value->Option (DataW Unit × List MemPlace)} {b n:Nat} (h:w.ownsMap prog k R b n D) (hh:w'.heap[b]?=w.heap[b]?):w'.ownsMap prog k R b n D:=by
 obtain ⟨es,clock,h1,h2⟩:=h;exact ⟨es,clock,hh.trans h1,h2⟩
theorem ah.grown {vs:List Value} {row:Option Nat} (h:ah w b vs) (hb:b<w.heap.size) (hg:w.grownBy w' row) (bm:some b≠row):ah w' b vs:=by
 have hh:=hg.block b hb bm;refine ⟨fun i v hi=>(aj hh _).trans (h.1 i v hi),fun o=>?_⟩;have:w'.frozen? ⟨b,o,none⟩=w.frozen? ⟨b,o,none⟩:=World.frozen?_of_block hh;rw [this];exact h.2 o
theorem MO (l:List Int):(⟨(kI l).toArray⟩:ByteArray)=aB l:=by
 have h:(aB l).data=(kI l).toArray:=by rw [<-Array.toList_inj];simpa [kI] using fD l
 cases hb:aB l with
 | mk d=>rw [hb] at h;simp only at h;rw [h]
theorem yX {B:Nat} (h:T.Rf B w v (ns.map fun nd=>kI nd.path)):∃ p c,v=.slice p ns.length c/\(ns=[]\/∃ g,p=some ⟨g,0,none⟩/\B<=g/\g<w.heap.size/\∀ (j:Nat) (nd:aA),ns[j]?=some nd->w.cell? ⟨g,0+j,none⟩=some (.string (aB nd.path))):=by
 rcases h with ⟨rfl,h0⟩ | ⟨g,cap,rfl,hb,hl,hH⟩;{
 have:ns=[]:=by simpa using h0
 subst this;exact ⟨none,0,rfl,.inl rfl⟩};{
 refine ⟨some ⟨g,0,none⟩,cap,by rw [List.length_map],.inr ⟨g,rfl,hb,hl,fun j nd hj=>?_⟩⟩;have tZ:=(aM.1 hj).1;have:=(hH j (by simpa using tZ)).1;rw [this,<-MO];have e:(ns.map fun nd=>kI nd.path).toArray[j]! = kI nd.path:=by have e2:ns[j]=nd:=(aM.1 hj).2;simp [tZ,e2]
 rw [e]}
theorem lD.cells {c:Array Value} {l:List Lf} (h:lD w nd c.toList l):∃ q0 q1 q2 q3 q4 q5 q6 q7,c=#[q0,q1,q2,q3,q4,q5,q6,q7]/\∀ u∈[q0,q1,q2,q3,q4,q5,q6,q7],u.oneCell'=true:=by
 obtain ⟨p0,c0,p1,c1,p4,c4,p7,c7,l0,l1,l4,l7,-,h2,-⟩:=h;refine ⟨_,_,_,_,_,_,_,_,by rw [<-Array.toList_inj,h2],fun u hu=>?_⟩;simp only [List.mem_cons,List.not_mem_nil,or_false] at hu;rcases hu with rfl | rfl | rfl | rfl | rfl | rfl | rfl | rfl<;>rfl
theorem Hf (b bs bn:Nat) (e g x t:Int) (ss:List aR) (ns:List aA) (SB NB:List Nat) (w:World) (h:Sto w b bs bn e g x t ss ns SB NB) (hs:Hid (ss.Pairwise (fun s s'=>s.1<s'.1))) (hn:Hid ((ns.map fun nd=>kI nd.path).Pairwise (·<·)))
  (ls:ss.length<=1048576) (ln:ns.length<=1048576) (UL:Hid (∀ s∈ss,(0<=s.1/\s.1<18446744073709551616)/\s.2.2.length<=1048576/\∀ e∈s.2.2,e.2.length<=1048576))
  (Nx:Hid (∀ nd∈ns,cT nd.path/\nd.path.length<=1048576/\nd.value.length<=1048576/\nd.holders.length<=1048576/\nd.watchers.length<=1048576/\nd.holders.Pairwise (·<·)/\nd.watchers.Pairwise (·<·))) :
  Calls prog 32 #[.pointer (some ⟨b,0,none⟩)] w fun r w'=>∃ p c q d A1 A2,r=.returned (cL e g x t (.slice p ss.length c) (.slice q ns.length d))/\jP w' (.slice p ss.length c) ss/\jB w' (.slice q ns.length d) ns/\mP w' (.slice p ss.length c) ss A1/\mJ w' (.slice q ns.length d) ns A2/\jJ w.heap.size w' (A1++A2)/\Below w.heap.size w w':=by
 have k0:w.cell? ⟨b,0,none⟩=some (.int .u64 e):=aq h.hd 0;have k1:w.cell? ⟨b,1,none⟩=some (.int .u64 g):=aq h.hd 1;have k2:w.cell? ⟨b,2,none⟩=some (.int .u64 x):=aq h.hd 2;have k3:w.cell? ⟨b,3,none⟩=some (.int .i64 t):=aq h.hd 3;obtain ⟨is,his,sz0,sz1,sz2⟩:=info_parts Tryz.infoSes;obtain ⟨io,hio,oz0,oz1,oz2⟩:=info_parts Tryz.infoNod;obtain ⟨W0,dT⟩:=ax (w.alloc (.cells #[.int .u64 0,.int .u64 0,.int .u64 0,.int .i64 0,.slice none 0 0,.slice none 0 0] 35));have b0:Below w.heap.size w W0:=by rw [dT];exact ar.alloc ay _
 have z0:W0.heap.size=w.heap.size+1:=by rw [dT];simp
 have r0:ah W0 w.heap.size [.int .u64 0,.int .u64 0,.int .u64 0,.int .i64 0,.slice none 0 0,.slice none 0 0]:=by rw [dT];exact ah.alloc w #[.int .u64 0,.int .u64 0,.int .u64 0,.int .i64 0,.slice none 0 0,.slice none 0 0] _
 go_enter func32,ntmps32;go_wp2_with fail;rw [<-dT];obtain ⟨v0,vf⟩:=ax W0.drew;have bv:Below w.heap.size w v0:=by rw [vf];exact b0.drew
 have zv:v0.heap.size=w.heap.size+1:=by rw [vf];exact z0
 have R0:Hid (ah v0 w.heap.size [.int .u64 0,.int .u64 0,.int .u64 0,.int .i64 0,.slice none 0 0,.slice none 0 0]):=by rw [vf];exact r0
 have S0:=ae (ag (af k0 bv) (ag (af k1 bv) (ag (af k2 bv) (af k3 bv))));have H0:=ae (h.below bv);have ZV:=ae zv;refine wp_region_noPanic ?_;refine wp_region_held_drew (S:=fun w'=>w'.cell? ⟨b,0,none⟩=some (.int .u64 e)/\w'.cell? ⟨b,1,none⟩=some (.int .u64 g)/\w'.cell? ⟨b,2,none⟩=some (.int .u64 x)/\w'.cell? ⟨b,3,none⟩=some (.int .i64 t)) (by kernel_rfl) (by rw [<-vf];exact aa S0) (fun hS=>?_);rw [<-vf] at hS ⊢;clear vf dT b0 z0 r0 k0 k1 k2 k3 zv;refine fL 0 1 2 3 4 5 6 7 hS ?_;refine fL 8 9 10 11 12 13 14 15 hS ?_;refine tn 16 hS ?_;refine bR 17 fun KK hK=>?_;go_simp;obtain ⟨v1,EW⟩:=ax (v0.alloc (.cells #[.int .u64 0,.int .u64 0,.int .u64 0,.int .i64 0,.slice none 0 0,.slice none 0 0] 35));have aK:Below v0.heap.size v0 v1:=by rw [EW];exact ar.alloc ay _
 have c1:ah v1 v0.heap.size [.int .u64 0,.int .u64 0,.int .u64 0,.int .i64 0,.slice none 0 0,.slice none 0 0]:=by rw [EW];exact ah.alloc v0 #[.int .u64 0,.int .u64 0,.int .u64 0,.int .i64 0,.slice none 0 0,.slice none 0 0] _
 have z1:v1.heap.size=v0.heap.size+1:=by rw [EW];simp
 rw [<-EW];obtain ⟨sb,hsb⟩:=ax v0.heap.size;rw [<-hsb] at c1 ⊢;have S1:=ae (ag (af S0.1 aK) (ag (af S0.2.1 aK) (ag (af S0.2.2.1 aK) (af S0.2.2.2 aK))));have H1:=ae (H0.below aK);have R1:=ae (R0.below (by have:=aa ZV;omega) aK);have b1:=ai bv aK;have HZ:=ae (ag (aa ZV) (ag hsb z1));refine bM hK (by exact S1) fun hS=>?_;have rc0:=c1.1 0 _ rfl;have rc1:=c1.1 1 _ rfl;have rc2:=c1.1 2 _ rfl;have rc3:=c1.1 3 _ rfl;have rc4:=c1.1 4 _ rfl;have rc5:=c1.1 5 _ rfl;have rf:=c1.2;clear hK KK EW aK hsb z1;refine bR 18 fun KK hK=>?_;go_simp;obtain ⟨Z,hZ⟩:=ax ((((((v1.setCell ⟨sb,0,none⟩ (.int .u64 e)).setCell ⟨sb,1,none⟩ (.int .u64 g)).setCell ⟨sb,2,none⟩ (.int .u64 x)).setCell ⟨sb,3,none⟩ (.int .i64 t)).setCell ⟨sb,4,none⟩ (.slice none 0 0)).setCell ⟨sb,5,none⟩ (.slice none 0 0));obtain ⟨zz0,zz1,zz2⟩:=aa HZ;have CZ:ah Z sb [.int .u64 e,.int .u64 g,.int .u64 x,.int .i64 t,.slice none 0 0,.slice none 0 0]:=by rw [hZ];exact ((((((c1.dC 0 (by simp) _).dC 1 (by simp) _).dC 2 (by simp) _).dC 3 (by simp) _).dC 4 (by simp) _).dC 5 (by simp) _)
 have hgZ:v1.grownBy Z (some sb):=by rw [hZ];exact fW (fW (fW (fW (fW (aD _ _ _) (aD _ _ _)) (aD _ _ _)) (aD _ _ _)) (aD _ _ _)) (aD _ _ _)
 have bZ:Below w.heap.size w Z:=qm b1 hgZ (by omega);have RZ:=R1.grown (by omega) hgZ (by simp;omega);have SZ:Z.cell? ⟨b,0,none⟩=some (.int .u64 e)/\Z.cell? ⟨b,1,none⟩=some (.int .u64 g)/\Z.cell? ⟨b,2,none⟩=some (.int .u64 x)/\Z.cell? ⟨b,3,none⟩=some (.int .i64 t):=⟨aq (h.below bZ).hd 0,aq (h.below bZ).hd 1,aq (h.below bZ).hd 2,aq (h.below bZ).hd 3⟩;have zZ:sb<Z.heap.size:=by have:=hgZ.size;omega
 rw [<-hZ];refine bM hK (by exact SZ) fun hS=>?_;clear hK KK hZ hgZ SZ c1 rc0 rc1 rc2 rc3 rc4 rc5 rf S1 H1 R1 S0 H0 R0;refine wpAnyH_done (by kernel_rfl) ?_ _;refine bc ?_;have xU:w.heap.size<sb:=by omega
 have CZ':=ae CZ;have RZ':=ae RZ;have HS:=ae fun (w':World) (hb:Below w.heap.size w w')=>h.below hb;have HLW:Hid (∀ k s gs,ss[k]?=some s->SB[k]?=some gs->b<w.heap.size/\bs<w.heap.size/\gs<w.heap.size):=fun k s gs hy ud=>by obtain ⟨_,_,o,_,_⟩:=h.En.own;obtain ⟨_,y3,_⟩:=h.En.aF k _ gs hy ud;exact ⟨aI h.hd,o.lt,aI y3⟩
 have HLN:Hid (∀ k s gs,ns[k]?=some s->NB[k]?=some gs->b<w.heap.size/\bn<w.heap.size/\gs<w.heap.size):=fun k s gs hy ud=>by obtain ⟨_,_,o,_,_⟩:=h.lh.own;obtain ⟨_,_,_,y3⟩:=h.lh.aF k _ gs hy ud;exact ⟨aI h.hd,o.lt,aI y3.aF⟩
 have BZ:=ae bZ;clear hS CZ RZ h bv b1 zz0 zz1 zz2 HZ ZV;obtain ⟨ZG,Vc,Lh⟩:=aa HS _ BZ;obtain ⟨D,nD,oD,hnD,mD⟩:=id Vc.own;have k4:Z.cell? ⟨b,4,none⟩=some (.map (some bs)):=aq ZG 4;have MD:=ae mD;have OD:=ae oD;clear ZG Lh mD;go_wp2_with fail;refine (Q.gR bs nD D _ oD (Nat.le_trans oD.size_le hnD)).mono ?_;rintro r w1 ⟨kv,ids,rfl,DG,yW,aK⟩;obtain rfl:=El Vc hs MD DG;obtain ⟨pk,ck,Ak,rfl,rk,lk,ak⟩:=yY yW;have CE:(ss.map (·.1)).length=ss.length:=List.length_map _;obtain ⟨nk,QE⟩:=ax ((ss.map (·.1)).length);rw [<-QE] at rk lk ⊢;have Z7:nk=ss.length:=by rw [QE,CE]
 have ENK:=ae Z7;have bA7:nk<=1048576:=by omega
 have HKV:=ae (ag rk (ag lk ak));have b1:=ai BZ aK;have z1:=aK.size;have C1:=ae (CZ'.below zZ aK);have R1:=ae (RZ'.below (by omega) aK);clear rk lk ak yW DG aK k4 Vc oD QE Z7 CE CZ' RZ';go_wp2_with fail
 go_loopw [31] (fun iv wr=>∃ (k:Nat) (Sv:Value) (Ls:List (List Lf)),k<=nk/\iv=.int .i64 k/\Hid (ah wr sb [.int .u64 e,.int .u64 g,.int .u64 x,.int .i64 t,Sv,.slice none 0 0]/\dM tC 95 3 w1.heap.size wr Sv (ss.take k) Ls)/\Hid (w1.grownBy wr (some sb))) (fun iv _=>nk-(intOf iv).toNat)
 case atStart=>exact ⟨0,_,[],Nat.zero_le _,rfl,⟨C1,dM.nil _ _ _ _ _⟩,qd _ _⟩
 case round =>(
 obtain ⟨k,Sv,Ls,hk,rfl,fP,wC⟩:=hrel;have BB:=qm b1 wC (by omega);by_cases aU:k<nk;{
 have aV:(k:Int)<(nk:Int):=by omega
 have bH:k<ss.length:=by rw [<-aa ENK];exact aU
 obtain ⟨⟨I,Dl,Qu⟩,hy⟩:∃ y,ss[k]?=some y:=⟨_,aH bH⟩;obtain ⟨hH,hSe,-⟩:=aa HS _ BB;obtain ⟨gs,ud,eh⟩:=uY hSe hy;obtain ⟨u,WW,Yq⟩:=hSe.aF k _ gs hy ud;dsimp only at WW Yq eh;obtain ⟨pq,cq,rfl,-⟩:=id Yq;obtain ⟨nq,Dj⟩:=aZ Qu.length;rw [Dj] at Yq WW;have ENQ:=ae Dj;obtain ⟨hI,Kw,Ux⟩:=aa UL _ (aL hy);dsimp only at hI Kw Ux;have hnq:nq<=1048576:=by rw [<-Dj];exact Kw
 have Tf:Hid (∀ e∈Qu,e.2.length<=1048576):=Ux;obtain ⟨gk,ok,rfl,GG⟩:∃ gk ok,pk=some ⟨gk,ok,none⟩/\wr.cell? ⟨gk,ok+k,none⟩=some (.int .u64 I):=by obtain ⟨rk,lk,ak⟩:=aa HKV;have rk':=rk.bE lk (w':=wr) (fun a ha=>wC.block a.b (ak.oz.lt ha) (by have:=ak.lo a ha;simp;omega));obtain ⟨p',c',ee,hd⟩:=rk';simp only [Value.slice.injEq] at ee;obtain ⟨rfl,-,-⟩:=ee;rcases hd with hd | ⟨b',o',rfl,hd⟩;{have:=congrArg List.length hd;simp at this;rw [this] at bH;simp at bH};{refine ⟨b',o',rfl,?_⟩;rw [hd k (by simpa using bH)];simp [List.getD_eq_getElem?_getD,hy]}
 have HY:=ae hy;obtain ⟨hC,hO⟩:=aa fP;have cS4:=hC.1 4 _ rfl;have Ye:wr.cell? ⟨b,4,none⟩=some (.map (some bs)):=aq hH 4;obtain ⟨D',n',X8,DT,Yb⟩:=hSe.own;have Wt:=ae (ag Yb (ag eh hI));have Zw:b<w1.heap.size/\bs<w1.heap.size/\gs<w1.heap.size:=by obtain ⟨y1,y2,-⟩:=aa HS _ b1;obtain ⟨_,_,o,_,_⟩:=y2.own;obtain ⟨_,y3,_⟩:=y2.aF k _ gs hy ud;exact ⟨aI y1,o.lt,aI y3⟩
 have HLT:=ae Zw;have hLW:b<w.heap.size/\bs<w.heap.size/\gs<w.heap.size:=aa HLW k _ gs hy ud;have t3b:b≠sb:=by omega
 have t4b:bs≠sb:=by omega
 have t5b:gs≠sb:=by omega
 obtain ⟨vA,bt⟩:=ax wr.drew;have bG:Below wr.heap.size wr vA:=by rw [bt];exact ar.drew
 have We:=ae (ag (af Ye bG) (ag (X8.kept (az bG none) (by simp)) (ag (af (aq WW 0) bG) (ag (af (aq WW 1) bG) (af (aq WW 2) bG)))));have RQ:=ae (Yq.below bG);have OA:=ae (hO.below tC.aN bG);have CXA:=ae (hC.below (by have:=wC.size;omega) bG);have gA:Hid (w1.grownBy vA (some sb)):=iL wC (az bG none) (fun b e=>by cases e);have WE:=ae (Below.refl vA.heap.size vA);have zxA:sb<vA.heap.size:=by have:=gA.size;omega
 clear Dj Kw Ux bH ud Zw hLW cS4;go_wp2_with fail;clear GG;refine wp_region_noPanic ?_;refine wp_region_held_drew (S:=fun w'=>w'.cell? ⟨b,4,none⟩=some (.map (some bs))/\w'.ownsMap prog 22 aT bs n' D'/\w'.cell? ⟨gs,0,none⟩=some (.int .u64 I)/\w'.cell? ⟨gs,1,none⟩=some (.int .i64 Dl)/\w'.cell? ⟨gs,2,none⟩=some (.slice pq nq cq)) (by kernel_rfl) (by rw [<-bt];exact aa We) (fun hS=>?_);rw [<-bt] at hS ⊢;clear bt bG WW Yq eh hI X8 Yb hC hO Ye hH hSe;refine gD 0 2 3 4 hS ?_;refine fq 5 6 hS ?_;refine wpAnyH_take (i:=7) (oi:=_) (v:=?_) (by simp only [List.getElem?_toArray,List.getElem?_cons_succ,List.getElem?_cons_zero];rfl) (by kernel_rfl) (by kernel_rfl) (by kernel_rfl) (fun _ _ _ h=>h) (Or.inl ⟨by rfl,?_⟩) hS ?_;rotate_left;{(intro w' sS;(try dsimp only at sS);(have hlk:=Cf sS.2.1 Wt.1 Wt.2.1 Wt.2.2);go_simp;try with_reducible rfl)}
 simp only [Act.put,xa,xb,xc];refine fq 8 9 hS ?_;refine ry [1,10] (cn (fun KK hK=>?_) (cn (fun KK hK=>?_) AllReadyH.nil));have cl:=CXA.1 4 _ rfl;go_simp;refine bM hK (by exact We) fun hS=>?_;clear hK KK cl;refine ry [10] (cn (fun KK hK=>?_) AllReadyH.nil)
 all_goals (
  refine iG (vP I Dl pq cq nq Qu ENQ _ (RQ.below WE) hnq Tf) ?_;rintro r v1 ⟨pe,ce,Ae,rfl,Ja,Ho,AH,aK⟩;refine ⟨_,rfl,?_⟩;have HE1:=ae (ag Ja (ag Ho (AH.mono (B':=vA.heap.size) WE.size)));obtain ⟨s1,s2,s3,s4,s5⟩:=aa We;have Wh:=ae (ag (af s1 aK) (ag (s2.kept (az aK none) (by simp)) (ag (af s3 aK) (ag (af s4 aK) (af s5 aK)))));have Tm:=ae (CXA.below (by omega) aK);have mQ:=ae (ai WE aK);have zx1:vA.heap.size<=v1.heap.size:=mQ.size;clear s1 s2 s3 s4 s5;refine bM hK (by exact Wh) fun hS=>?_;clear hK KK aK Ja Ho AH
  skip)
 refine ry [11] (cn (fun KK hK=>?_) AllReadyH.nil);rotate_left;refine ry [1,11] (cn (fun KK hK=>?_) (cn (fun KK hK=>?_) AllReadyH.nil));have cl:=Tm.1 4 _ rfl;go_simp;refine bM hK (by exact Wh) fun hS=>?_;clear hK KK cl;refine ry [11] (cn (fun KK hK=>?_) AllReadyH.nil)
 all_goals (
  go_simp;obtain ⟨v2,tT⟩:=ax (v1.alloc (.cells #[.int .u64 I,.int .i64 Dl,.slice pe nq ce] 95));have aG:Below v1.heap.size v1 v2:=by rw [tT];exact ar.alloc ay _
  have U4:∀ j u,([.int .u64 I,.int .i64 Dl,.slice pe nq ce]:List Value)[j]?=some u->v2.cell? ⟨v1.heap.size,j,none⟩=some u:=fun j u hu=>by rw [tT];exact (ah.alloc v1 #[.int .u64 I,.int .i64 Dl,.slice pe nq ce] 95).1 j u (by simpa using hu)
  rw [<-tT];obtain ⟨gE,YX⟩:=ax v1.heap.size;rw [<-YX] at U4 ⊢;obtain ⟨Ja,Ho,AH⟩:=aa HE1;have kE:∀ a∈Ae,v2.heap[a.b]?=v1.heap[a.b]?:=fun a ha=>aG.block _ (AH.oz.lt ha);have EL2:Hid (tC v2 (I,Dl,Qu) [.int .u64 I,.int .i64 Dl,.slice pe nq ce] Ae/\jJ vA.heap.size v2 Ae):=⟨⟨pe,ce,by rw [aa ENQ],by rw [aa ENQ];exact Ja.bE Ho kE,by rw [aa ENQ];exact kJ.aN Ho kE⟩,AH.aN kE⟩;have tK:=ae U4;obtain ⟨s1,s2,s3,s4,s5⟩:=aa Wh;have Wf:=ae (ag (af s1 aG) (ag (s2.kept (az aG none) (by simp)) (ag (af s3 aG) (ag (af s4 aG) (af s5 aG)))));have CX2:=ae (Tm.below (by omega) aG);have Jw:=ae (ai mQ aG);have zx2:vA.heap.size<=v2.heap.size:=Jw.size;clear s1 s2 s3 s4 s5;refine bM hK (by exact Wf) fun hS=>?_;clear hK KK tT aG U4 YX Ja Ho AH kE
  skip)
 rotate_left;refine ry [1] (cn (fun KK hK=>?_) AllReadyH.nil);have cl:=CX2.1 4 _ rfl;go_simp;refine bM hK (by exact Wf) fun hS=>?_;clear hK KK cl
 all_goals (
  have OC:=OA.below tC.aN Jw;obtain ⟨BN,apC⟩:=aa EL2;obtain ⟨cs,g1,g2,g3,g4,g5,g6,g7⟩:=id OC;have KO:=OA.lt;have hle:(ss.take k).length<=1048576:=by rw [List.length_take];omega
  have zA1:=gA.size;have zA:w1.heap.size<=v2.heap.size:=by omega
  refine ry [12] ?_;refine cn (fun KK hK=>?_) ?_;{
 refine eX (by rfl) _ _ 32 (by rfl) w1.heap.size 95 is _ 3 40 underlying32 his sz0 sz1 sz2 rfl (by decide) Sv _ _ (by rfl) g4 gE 1 1 [.int .u64 I,.int .i64 Dl,.slice pe nq ce] (by rfl) rfl (aa tK) (fun u hu=>by simp at hu;rcases hu with rfl | rfl | rfl<;>rfl) (by unfold maxLen;omega) (by omega) zA ?_;intro v' w9 dN hg ku;have sn:=dM.snoc g1 g2 g3 g5 g6 g7 tC.aN BN rfl apC zA1 (fun a ha=>(KO.2 a ha).2) (fun b hb=>(KO.1 b hb).2) dN hg ku;rw [<-kU (aa HY)] at sn;obtain ⟨pN,cN,Sy,-⟩:=id sn.read;obtain ⟨lN,PI⟩:=ax ((ss.take (k+1)).length);rw [<-PI] at Sy;subst Sy;clear PI;have xl:∀ z,z<w1.heap.size->some z≠Sv.ownBlock:=fun z hz e=>by have:=(KO.1 z e.symm).1;omega
 have ue:w1.grownBy w9 (some sb):=iL (iL gA (az Jw none) (fun b e=>by cases e)) hg (fun b e=>.inl (KO.1 b e).1);have C9:=CX2.grown (by omega) hg (xl sb (by omega));obtain ⟨t1,t2,t3⟩:=aa HLT;obtain ⟨s1,s2,s3,s4,s5⟩:=aa Wf;have S9:=ae (ag (hg.cell s1 (xl (b) t1)) (ag (s2.kept hg (xl (bs) t2)) (ag (hg.cell s3 (xl (gs) t3)) (ag (hg.cell s4 (xl (gs) t3)) (hg.cell s5 (xl (gs) t3))))));refine bM hK (by exact S9) fun hS=>?_;have SN:=ae sn;have cc:=C9.1 4 _ rfl;have cf:=C9.2;have KM:=sn.lt;clear hK KK sn dN ku g1 g2 g3 g4 g5 g6 g7 BN apC OC s1 s2 s3 s4 s5;refine tn 13 hS ?_;refine bR 14 fun KK hK=>?_;go_simp;obtain ⟨wT,Kv⟩:=ax (w9.setCell ⟨sb,4,none⟩ (.slice pN lN cN));have CT:=C9.dC 4 (by simp) (.slice pN lN cN);have KQ:∀ z,z≠sb->wT.heap[z]?=w9.heap[z]?:=fun z hz=>by rw [Kv];exact dr _ _ _ _ hz
 have gT:Hid (w1.grownBy wT (some sb)):=by show World.grownBy _ _ _;rw [Kv];exact fW ue (aD _ _ _)
 have zT:w9.heap.size<=wT.heap.size:=by rw [Kv];simp
 have OT:Hid (dM tC 95 3 w1.heap.size wT (.slice pN lN cN) (ss.take (k+1)) (Ls++[Ae])):=SN.aN (tC.aN _ _) zT (fun z hz=>KQ z (by have:=(KM.1 z hz).1;omega)) (fun y hy=>KQ _ (by have:=(KM.2 y hy).1;omega));rw [<-Kv] at CT ⊢;have Sg:=fun z (hz:z≠sb) o=>aj (KQ z hz) o;obtain ⟨s1,s2,s3,s4,s5⟩:=aa S9;have ST:=ag ((Sg _ t3b _).trans s1) (ag (qS s2 (KQ _ t4b)) (ag ((Sg _ t5b _).trans s3) (ag ((Sg _ t5b _).trans s4) ((Sg _ t5b _).trans s5))));refine bM hK (by exact ST) fun hS=>?_;have CT2:=ae CT;clear hK KK Kv KQ Sg C9 cc cf CT hg ue zT ST s1 s2 s3 s4 s5;refine wpAnyH_done (by kernel_rfl) ?_ _;refine bc ?_;clear hS KM KO;go_wp2;go_roundw
 case rel=>exact ⟨k+1,_,_,by omega,by go_num,⟨CT2,OT⟩,gT⟩
 case measure=>simp [intOf];omega}
  exact AllReadyH.nil
  skip)}
 {
 have aV:¬ (k:Int)<(nk:Int):=by omega
 have ui:k=nk:=by omega
 subst ui;obtain ⟨hC,hO⟩:=aa fP;rw [List.take_of_length_le (by rw [aa ENK];exact Nat.le_refl _)] at hO;obtain ⟨w2,ew2⟩:=ax wr;subst ew2;have R2:=ae (R1.grown (by omega) (aa wC) (by simp;omega));obtain ⟨pS,cS,evS,-⟩:=id hO.read;obtain ⟨lS,KM⟩:=ax ss.length;rw [<-KM] at evS;subst evS;have HLS:=ae KM;obtain ⟨T8,A1,RB,Rc⟩:=hO.se;have HA1:=ae fun a ha=>Rc.oz.lt (a:=a) ha;have OS:=ae (ag T8 (ag RB Rc));clear T8 RB Rc;have CS:=ae hC;have z12:=wC.size;obtain ⟨ZG,-,Lh⟩:=aa HS _ BB;obtain ⟨DN,nN,oN,hnN,mN⟩:=id Lh.own;have k5:w2.cell? ⟨b,5,none⟩=some (.map (some bn)):=aq ZG 5;have MN:=ae mN;clear hO hC KM ZG mN fP hk aU aV R1 C1 HKV wC;go_wp2_with fail;refine (T.gR bn nN DN _ oN (Nat.le_trans oN.size_le hnN)).mono ?_;rintro r w3 ⟨kv,ks,rfl,DG,yW,cX⟩;obtain rfl:=pL Lh hn MN DG;obtain ⟨pk2,ck2,rfl,sO⟩:=yX yW;obtain ⟨Ue,VD⟩:=ax ns.length;rw [<-VD];have ah7:=ae VD;have bc6:Ue<=1048576:=by omega
 have HKN:=ae sO;have b3:=ai BB cX;have z3:=cX.size;have C3:=ae (CS.below (by omega) cX);have R3:=ae (R2.below (by omega) cX);have kS3:∀ a∈A1,w3.heap[a.b]?=w2.heap[a.b]?:=fun a ha=>cX.block _ (aa HA1 a ha);have O3:=ae (ag (OS.1.bE OS.2.1 kS3) (ag (mP.aN OS.2.1 kS3) (OS.2.2.aN kS3)));clear sO yW DG cX k5 Lh oN VD CS R2 OS BB kS3;go_wp2_with fail
 go_loopw [56] (fun iv wr=>∃ (k:Nat) (Sv:Value) (Ls:List (List Lf)),k<=Ue/\iv=.int .i64 k/\Hid (ah wr sb [.int .u64 e,.int .u64 g,.int .u64 x,.int .i64 t,.slice pS lS cS,Sv]/\dM lD 103 8 w3.heap.size wr Sv (ns.take k) Ls)/\Hid (w3.grownBy wr (some sb))) (fun iv _=>Ue-(intOf iv).toNat)
 case atStart=>exact ⟨0,_,[],Nat.zero_le _,rfl,⟨C3,dM.nil _ _ _ _ _⟩,qd _ _⟩
 case round =>(
 obtain ⟨k,Sv,Ls,hk,rfl,fP,wC⟩:=hrel;have BB:=qm b3 wC (by omega);by_cases aU:k<Ue;{
 have aV:(k:Int)<(Ue:Int):=by omega
 have bH:k<ns.length:=by rw [<-aa ah7];exact aU
 obtain ⟨nd,hy⟩:∃ y,ns[k]?=some y:=⟨_,aH bH⟩;obtain ⟨hH,-,hNo⟩:=aa HS _ BB;obtain ⟨gs,ud,eh⟩:=uZ hNo hy;obtain ⟨Vb,hb,ub,Jg⟩:=hNo.aF k _ gs hy ud;obtain ⟨Nz,AV,Ny,KP,hl5,hl6,hl7⟩:=aa Nx _ (aL hy);obtain ⟨gk,rfl,GG⟩:∃ gk,pk2=some ⟨gk,0,none⟩/\wr.cell? ⟨gk,k,none⟩=some (.string (aB nd.path)):=by rcases aa HKN with h0 | ⟨gk,rfl,h1,h2,h3⟩;{rw [h0] at bH;simp at bH};{exact ⟨gk,rfl,(aj (wC.block gk h2 (by simp;omega)) _).trans (by have:=h3 k nd hy;rwa [Nat.zero_add] at this)⟩}
 have HY:=ae hy;obtain ⟨hC,hO⟩:=aa fP;have Ye:wr.cell? ⟨b,5,none⟩=some (.map (some bn)):=aq hH 5;obtain ⟨D',n',X8,DT,Yb⟩:=hNo.own;have Wt:=ae (ag Yb (ag eh AV));have hLW:b<w.heap.size/\bn<w.heap.size/\gs<w.heap.size:=aa HLN k _ gs hy ud;have Zw:b<w3.heap.size/\bn<w3.heap.size/\gs<w3.heap.size:=by have:=b3.size;omega
 have HLT:=ae Zw;have t3b:b≠sb:=by omega
 have t4b:bn≠sb:=by omega
 have t5b:gs≠sb:=by omega
 obtain ⟨vA,bt⟩:=ax wr.drew;have bG:Below wr.heap.size wr vA:=by rw [bt];exact ar.drew
 have We:=ae (ag (af Ye bG) (X8.kept (az bG none) (by simp)));have RQ:=ae (Jg.below bG);have OA:=ae (hO.below lD.aN bG);have CXA:=ae (hC.below (by have:=wC.size;omega) bG);have gA:Hid (w3.grownBy vA (some sb)):=iL wC (az bG none) (fun b e=>by cases e);have WE:=ae (Below.refl vA.heap.size vA);have zxA:sb<vA.heap.size:=by have:=gA.size;omega
 clear bH ud Zw hLW;go_wp2_with fail;clear GG;refine wp_region_noPanic ?_;refine wp_region_held_drew (S:=fun w'=>w'.cell? ⟨b,5,none⟩=some (.map (some bn))/\w'.ownsMap prog 9 aT bn n' D') (by kernel_rfl) (by rw [<-bt];exact aa We) (fun hS=>?_);rw [<-bt] at hS ⊢;clear bt bG Jg eh X8 Yb hC hO Ye hH hNo;refine gD 0 2 3 4 hS ?_;refine fq 5 6 hS ?_;refine wpAnyH_take (i:=7) (oi:=_) (v:=?_) (by simp only [List.getElem?_toArray,List.getElem?_cons_succ,List.getElem?_cons_zero];rfl) (by kernel_rfl) (by kernel_rfl) (by kernel_rfl) (fun _ _ _ h=>h) (Or.inl ⟨by rfl,?_⟩) hS ?_;rotate_left;{(intro w' sS;(try dsimp only at sS);(have hlk:=Cg sS.2 Wt.1 Wt.2.1 Wt.2.2);go_simp;try with_reducible rfl)}
 simp only [Act.put,xa,xb,xc];refine tn 8 hS ?_;refine ry [1,9] (cn (fun KK hK=>?_) (cn (fun KK hK=>?_) AllReadyH.nil));have cl:=CXA.1 5 _ rfl;go_simp;refine bM hK (by exact We) fun hS=>?_;clear hK KK cl;refine ry [9] (cn (fun KK hK=>?_) AllReadyH.nil)
 all_goals (
  refine oy (J8 gs hb ub Vb nd _ (RQ.below WE) hl6 hl7 AV Ny KP hl5 Nz) ?_;rintro r v1 ⟨cn,Ae,rfl,Xf,AH,aK⟩;obtain ⟨q0,q1,q2,q3,q4,q5,q6,q7,ecn,one⟩:=Xf.cells;subst ecn;refine ⟨_,rfl,?_⟩;have HE1:=ae (ag Xf (ag one (AH.mono (B':=vA.heap.size) WE.size)));obtain ⟨s1,s2⟩:=aa We;have Wh:=ae (ag (af s1 aK) (s2.kept (az aK none) (by simp)));have Tm:=ae (CXA.below (by omega) aK);have mQ:=ae (ai WE aK);have zx1:vA.heap.size<=v1.heap.size:=mQ.size;clear s1 s2;refine bM hK (by exact Wh) fun hS=>?_;clear hK KK aK Xf AH one
  skip)
 refine ry [10] (cn (fun KK hK=>?_) AllReadyH.nil);rotate_left;refine ry [1,10] (cn (fun KK hK=>?_) (cn (fun KK hK=>?_) AllReadyH.nil));have cl:=Tm.1 5 _ rfl;go_simp;refine bM hK (by exact Wh) fun hS=>?_;clear hK KK cl;refine ry [10] (cn (fun KK hK=>?_) AllReadyH.nil)
 all_goals (
  go_simp;obtain ⟨v2,tT⟩:=ax (v1.alloc (.cells #[q0,q1,q2,q3,q4,q5,q6,q7] 103));have aG:Below v1.heap.size v1 v2:=by rw [tT];exact ar.alloc ay _
  have U4:∀ j u,([q0,q1,q2,q3,q4,q5,q6,q7]:List Value)[j]?=some u->v2.cell? ⟨v1.heap.size,j,none⟩=some u:=fun j u hu=>by rw [tT];exact (ah.alloc v1 #[q0,q1,q2,q3,q4,q5,q6,q7] 103).1 j u (by simpa using hu)
  rw [<-tT];obtain ⟨gE,YX⟩:=ax v1.heap.size;rw [<-YX] at U4 ⊢;obtain ⟨Xf,one,AH⟩:=aa HE1;have kE:∀ a∈Ae,v2.heap[a.b]?=v1.heap[a.b]?:=fun a ha=>aG.block _ (AH.oz.lt ha);have EL2:Hid (lD v2 nd [q0,q1,q2,q3,q4,q5,q6,q7] Ae/\jJ vA.heap.size v2 Ae):=⟨lD.aN _ _ _ _ _ Xf kE,AH.aN kE⟩;have ONE:=ae one;have tK:=ae U4;obtain ⟨s1,s2⟩:=aa Wh;have Wf:=ae (ag (af s1 aG) (s2.kept (az aG none) (by simp)));have CX2:=ae (Tm.below (by omega) aG);have Jw:=ae (ai mQ aG);have zx2:vA.heap.size<=v2.heap.size:=Jw.size;clear s1 s2;refine bM hK (by exact Wf) fun hS=>?_;clear hK KK tT aG U4 YX Xf AH kE one
  skip)
 rotate_left;refine ry [1] (cn (fun KK hK=>?_) AllReadyH.nil);have cl:=CX2.1 5 _ rfl;go_simp;refine bM hK (by exact Wf) fun hS=>?_;clear hK KK cl
 all_goals (
  have OC:=OA.below lD.aN Jw;obtain ⟨BN,apC⟩:=aa EL2;obtain ⟨cs,g1,g2,g3,g4,g5,g6,g7⟩:=id OC;have KO:=OA.lt;have hle:(ns.take k).length<=1048576:=by rw [List.length_take];omega
  have zA1:=gA.size;have zA:w3.heap.size<=v2.heap.size:=by omega
  refine ry [11] ?_;refine cn (fun KK hK=>?_) ?_;{
 refine eX (by rfl) _ _ 33 (by rfl) w3.heap.size 103 io _ 8 128 underlying33 hio oz0 oz1 oz2 rfl (by decide) Sv _ _ (by rfl) g4 gE 1 1 [q0,q1,q2,q3,q4,q5,q6,q7] (by rfl) rfl tK ONE (by unfold maxLen;omega) (by omega) zA ?_;intro v' w9 dN hg ku;have sn:=dM.snoc g1 g2 g3 g5 g6 g7 lD.aN BN rfl apC zA1 (fun a ha=>(KO.2 a ha).2) (fun b hb=>(KO.1 b hb).2) dN hg ku;rw [<-kU (aa HY)] at sn;obtain ⟨pN,cN,Sy,-⟩:=id sn.read;obtain ⟨lN,PI⟩:=ax ((ns.take (k+1)).length);rw [<-PI] at Sy;subst Sy;clear PI;have xl:∀ z,z<w3.heap.size->some z≠Sv.ownBlock:=fun z hz e=>by have:=(KO.1 z e.symm).1;omega
 have ue:w3.grownBy w9 (some sb):=iL (iL gA (az Jw none) (fun b e=>by cases e)) hg (fun b e=>.inl (KO.1 b e).1);have C9:=CX2.grown (by omega) hg (xl sb (by omega));obtain ⟨t1,t2,t3⟩:=aa HLT;obtain ⟨s1,s2⟩:=aa Wf;have S9:=ae (ag (hg.cell s1 (xl (b) t1)) (s2.kept hg (xl (bn) t2)));refine bM hK (by exact S9) fun hS=>?_;have SN:=ae sn;have cc:=C9.1 5 _ rfl;have cf:=C9.2;have KM:=sn.lt;clear hK KK sn dN ku g1 g2 g3 g4 g5 g6 g7 BN apC OC s1 s2;refine tn 12 hS ?_;refine bR 13 fun KK hK=>?_;go_simp;obtain ⟨wT,Kv⟩:=ax (w9.setCell ⟨sb,5,none⟩ (.slice pN lN cN));have CT:=C9.dC 5 (by simp) (.slice pN lN cN);have KQ:∀ z,z≠sb->wT.heap[z]?=w9.heap[z]?:=fun z hz=>by rw [Kv];exact dr _ _ _ _ hz
 have gT:Hid (w3.grownBy wT (some sb)):=by show World.grownBy _ _ _;rw [Kv];exact fW ue (aD _ _ _)
 have zT:w9.heap.size<=wT.heap.size:=by rw [Kv];simp
 have OT:Hid (dM lD 103 8 w3.heap.size wT (.slice pN lN cN) (ns.take (k+1)) (Ls++[Ae])):=SN.aN (lD.aN _ _) zT (fun z hz=>KQ z (by have:=(KM.1 z hz).1;omega)) (fun y hy=>KQ _ (by have:=(KM.2 y hy).1;omega));rw [<-Kv] at CT ⊢;have Sg:=fun z (hz:z≠sb) o=>aj (KQ z hz) o;obtain ⟨s1,s2⟩:=aa S9;have ST:=ag ((Sg _ t3b _).trans s1) (qS s2 (KQ _ t4b));refine bM hK (by exact ST) fun hS=>?_;have CT2:=ae CT;clear hK KK Kv KQ Sg C9 cc cf CT hg ue zT ST s1 s2;refine wpAnyH_done (by kernel_rfl) ?_ _;refine bc ?_;clear hS KM KO;go_wp2;go_roundw
 case rel=>exact ⟨k+1,_,_,by omega,by go_num,⟨CT2,OT⟩,gT⟩
 case measure=>simp [intOf];omega}
  exact AllReadyH.nil
  skip)}
 {
 have aV:¬ (k:Int)<(Ue:Int):=by omega
 have ui:k=Ue:=by omega
 subst ui;obtain ⟨hC,hO⟩:=aa fP;rw [List.take_of_length_le (by rw [aa ah7];exact Nat.le_refl _)] at hO;obtain ⟨pN,cN,Sy,-⟩:=id hO.read;obtain ⟨lN,PI⟩:=ax ns.length;rw [<-PI] at Sy;subst Sy;obtain ⟨Rw,A2,Yc,apN⟩:=hO.no;obtain ⟨T8,RB,Rc⟩:=aa O3;have R4:=R3.grown (by omega) (aa wC) (by simp;omega);have c0:=hC.1 0 _ rfl;have c1:=hC.1 1 _ rfl;have c2:=hC.1 2 _ rfl;have c3:=hC.1 3 _ rfl;have c4:=hC.1 4 _ rfl;have c5:=hC.1 5 _ rfl;have r0:=R4.1 0 _ rfl;have r1:=R4.1 1 _ rfl;have r2:=R4.1 2 _ rfl;have r3:=R4.1 3 _ rfl;have r4:=R4.1 4 _ rfl;have r5:=R4.1 5 _ rfl;have rf:=R4.2;have hns:¬ w.heap.size=sb:=by omega
 have hsn:¬ sb=w.heap.size:=by omega
 have G8:=ae (ag Rw (ag Yc apN));have FIS:=ae (ag T8 (ag RB Rc));have aR7:=ae PI;have z3r:=wC.size;clear Rw Yc apN T8 RB Rc hO hC R4 fP PI;go_wp2;obtain ⟨Rw,Yc,apN⟩:=aa G8;obtain ⟨T8,RB,Rc⟩:=aa FIS;obtain ⟨Z,hZ⟩:=ax ((((((wr.setCell ⟨w.heap.size,0,none⟩ (.int .u64 e)).setCell ⟨w.heap.size,1,none⟩ (.int .u64 g)).setCell ⟨w.heap.size,2,none⟩ (.int .u64 x)).setCell ⟨w.heap.size,3,none⟩ (.int .i64 t)).setCell ⟨w.heap.size,4,none⟩ (.slice pS lS cS)).setCell ⟨w.heap.size,5,none⟩ (.slice pN lN cN));have hkZ:∀ z,z≠w.heap.size->Z.heap[z]?=wr.heap[z]?:=fun z hz=>by
  rw [hZ]
  iterate 6 rw [dr _ _ _ _ hz]
 have k1:∀ a∈A1,Z.heap[a.b]?=w3.heap[a.b]?:=fun a ha=>by have h1:=aa HA1 a ha;have h2:=Rc.lo a ha;rw [hkZ _ (by omega)];exact wC.block _ (by omega) (by simp;omega)
 have k2:∀ a∈A2,Z.heap[a.b]?=wr.heap[a.b]?:=fun a ha=>by have h2:=apN.lo a ha;exact hkZ _ (by have:=b3.size;omega)
 have WX:Below w.heap.size w Z:=by rw [hZ];exact (((((BB.setCell ay _).setCell ay _).setCell ay _).setCell ay _).setCell ay _).setCell ay _
 have eS:=aa HLS;have eN:=aa aR7;refine bodyPost_ret (v:=cL e g x t (.slice pS lS cS) (.slice pN lN cN)) (by simp [results,results32,go_sem,r0,r1,r2,r3,r4,r5,c0,c1,c2,c3,c4,c5]) rfl ?_;rw [<-hZ];subst eS eN;refine ⟨pS,cS,pN,cN,rfl,T8.bE RB k1,Rw.bE Yc k2,A1,mP.aN RB k1,A2,mJ.aN Yc k2,?_,WX⟩;exact ((Rc.aN k1).app (apN.aN k2) (by omega) (fun a ha=>by have:=aa HA1 a ha;omega)).mono (by omega)})})
theorem Gl {α:Type} {R:α->α->Prop} {l:List α} (h:∀ (i j:Nat) (a b:α),l[i]?=some a->l[j]?=some b->i<j->R a b):l.Pairwise R:=by
 rw [List.pairwise_iff_getElem];intro i j hi hj jd;exact h i j _ _ (aH hi) (aH hj) jd
theorem ON (h:iF x ss=true):ss.Pairwise (fun s s'=>s.1<s'.1):=by
 refine Gl fun i j s s' hi hj jd=>?_;rw [iF,Bool.and_eq_true] at h;have:=rG h.2 (fun i j k h1 h2=>by simp at h1 h2 ⊢;omega) j i (aM.1 hj).1 jd;simpa only [List.getD_eq_getElem?_getD,hi,hj,Option.getD_some,decide_eq_true_eq] using this
theorem Pg {g:Int} (h:iI e g ns=true):(ns.map fun nd=>kI nd.path).Pairwise (·<·):=by
 rw [List.pairwise_map];refine Gl fun i j s s' hi hj jd=>?_;rw [iI,Bool.and_eq_true] at h;have:=rG h.2 (fun i j k h1 h2=>ko.2 (rF (ko.1 h1) (ko.1 h2))) j i (aM.1 hj).1 jd;simp only [List.getD_eq_getElem?_getD,hi,hj,Option.getD_some] at this;rw [ko,T.l8,decide_eq_true_eq,dW,dW] at this;exact this
theorem DD (h:DE l=true):l.Pairwise (·<·):=by
 refine Gl fun i j s s' hi hj jd=>?_;rw [DE] at h;have:=rG h (fun i j k h1 h2=>by simp at h1 h2 ⊢;omega) j i (aM.1 hj).1 jd;simpa only [List.getD_eq_getElem?_getD,hi,hj,Option.getD_some,decide_eq_true_eq] using this
theorem BT {g:Int} (h:iI e g ns=true):∀ nd∈ns,nd.holders.Pairwise (·<·)/\nd.watchers.Pairwise (·<·):=by
 intro nd bf;rw [iI,Bool.and_eq_true] at h;have h1:∀ y∈ns,si e g y=true:=(jN ns dQ (si e g)).1 fun i hi=>List.all_eq_true.1 h.1 i (List.mem_range.2 hi);have:=h1 nd bf;simp only [si,Bool.and_eq_true] at this;exact ⟨DD this.2.2.2.1,DD this.2.2.2.2⟩
structure DP (ss:List aR) (ns:List aA):Prop where
 s1:ss.Pairwise (fun s s'=>s.1<s'.1)
 n1:(ns.map fun nd=>kI nd.path).Pairwise (·<·)
 s2:∀ s∈ss,(0<=s.1/\s.1<18446744073709551616)/\s.2.2.length<=1048576/\∀ e∈s.2.2,e.2.length<=1048576
 n2:∀ nd∈ns,cT nd.path/\nd.path.length<=1048576/\nd.value.length<=1048576/\nd.holders.length<=1048576/\nd.watchers.length<=1048576/\nd.holders.Pairwise (·<·)/\nd.watchers.Pairwise (·<·)
 s3:∀ (i j:Nat) (s s':aR),ss[i]?=some s->ss[j]?=some s'->i<j->s.1≠s'.1
 n3:∀ (i j:Nat) (z z':aA),ns[i]?=some z->ns[j]?=some z'->i<j->z.path≠z'.path
theorem ug {g:Int} (h:ng e g x t ss ns=true) (sR:∀ s∈ss,s.2.2.length<=1048576/\∀ e∈s.2.2,cT e.2/\e.2.length<=1048576)
  (du:∀ nd∈ns,cT nd.path/\nd.path.length<=1048576/\nd.value.length<=1048576/\nd.holders.length<=1048576/\nd.watchers.length<=1048576):DP ss ns:=by
 obtain ⟨h1,h2,h3,h4,h5⟩:=(BI e g x t ss ns).1 h;have hx:x<=4611686018427387904:=by simp only [uR,decide_eq_true_eq] at h1;exact h1.2.2.1
 refine ⟨ON h2,Pg h3,fun s hs=>⟨Gi h2 hx s hs,(sR s hs).1,fun e he=>((sR s hs).2 e he).2⟩,fun nd bf=>?_,xE h2,xK h3⟩;obtain ⟨a,b,c,d,f⟩:=du nd bf;exact ⟨a,b,c,d,f,(BT h3 nd bf).1,(BT h3 nd bf).2⟩
def AB (w0 w:World) (v:Value) (l:List Int):Prop:=Rd w0 v l\/TB w v l
theorem AB.rd (h:AB w0 w v l) (be:Below w0.heap.size w0 w):Rd w v l:=by
 rcases h with h | h;{exact h.below be};{exact h.1}
theorem AB.fr {T:List TypeId} (h:AB w0 w v l) (hf:Fr T w w') (ht:5∉T):AB w0 w' v l:=by
 rcases h with h | h;{exact .inl h};{exact .inr (h.fr hf ht)}
def AQ (w0 w:World) (u:Value) (es:List Ev):Prop:=
 ∃ (p:Option Addr) (c:Nat),u=.slice p es.length c/\(es=[]\/∃ b o,p=some ⟨b,o,none⟩/\(b<w0.heap.size\/∃ cur m,w.heap[b]?=some (.cells cur 147 m))/\∀ i e,es[i]?=some e->w.cell? ⟨b,o+i*2,none⟩=some (.int .i64 e.1)/\∃ u,w.cell? ⟨b,o+i*2+1,none⟩=some u/\AB w0 w u e.2/\dh u)
theorem AQ.rdc (h:AQ w0 w u es) (be:Below w0.heap.size w0 w):iO w u es:=by
 obtain ⟨p,c,rfl,h⟩:=h;refine ⟨p,c,rfl,?_⟩;rcases h with h | ⟨b,o,rfl,-,h⟩;{exact .inl h};{refine .inr ⟨b,o,rfl,fun i e he=>?_⟩;obtain ⟨h1,u,h2,h3,h4⟩:=h i e he;exact ⟨h1,u,h2,h3.rd be,h4⟩}
theorem AQ.of (h:iO w0 u es) (be:Below w0.heap.size w0 w):AQ w0 w u es:=by
 obtain ⟨p,c,rfl,h⟩:=h;refine ⟨p,c,rfl,?_⟩;rcases h with h | ⟨b,o,rfl,h⟩;{exact .inl h};{by_cases h0:es=[];{exact .inl h0};{obtain ⟨e0,he0⟩:∃ e0,es[0]?=some e0:=⟨_,aH (List.length_pos_iff.2 h0)⟩;refine .inr ⟨b,o,rfl,.inl (World.block_lt_of_cell? w0 _ (h 0 e0 he0).1),fun i e he=>?_⟩;obtain ⟨h1,u,h2,h3,h4⟩:=h i e he;exact ⟨af h1 be,u,af h2 be,.inl h3,h4⟩}}
theorem AQ.fr {T:List TypeId} (h:AQ w0 w u es) (hb:Below w0.heap.size w w') (hf:Fr T w w') (ht:5∉T/\147∉T):AQ w0 w' u es:=by
 obtain ⟨p,c,rfl,h⟩:=h;refine ⟨p,c,rfl,?_⟩;rcases h with h | ⟨b,o,rfl,hd,h⟩;{exact .inl h};{
 have hk:w'.heap[b]?=w.heap[b]?:=by rcases hd with hd | ⟨cur,m,hd⟩;{exact hb.block b hd};{exact (hf.2 _ _ _ _ ht.2 hd).trans hd.symm}
 refine .inr ⟨b,o,rfl,hd.imp id (fun ⟨cur,m,hd⟩=>⟨cur,m,hk.trans hd⟩),fun i e he=>?_⟩;obtain ⟨h1,u,h2,h3,h4⟩:=h i e he;exact ⟨(aj hk _).trans h1,u,(aj hk _).trans h2,h3.fr hf ht.1,h4⟩}
theorem AQ.nil (w0 w:World):AQ w0 w (.slice none 0 0) []:=⟨none,0,rfl,.inl rfl⟩
theorem cY {R:Value->Option (DataW Unit × List MemPlace)} {b n:Nat} (h:w.ownsMap prog k R b n D):w.ownsMap prog k R b (Maps.size D) D:=by
 obtain ⟨es,clock,hb,F,hs,rfl⟩:=h;refine ⟨es,clock,hb,F,?_,rfl⟩;rw [Maps.size_eq,length_sorted];simp
theorem jK {R:Value->Option (DataW Unit × List MemPlace)} {b n:Nat} (h:w.ownsMap prog k R b n D) (K:Keyed prog k):Tidy D:=by
 obtain ⟨es,e,hp,-⟩:=h.entries K;exact ⟨es,e,hp⟩
theorem lP {R:Value->Option (DataW Unit × List MemPlace)} {b n:Nat} (h:w.ownsMap prog k R b n D) (K:Keyed prog k) {L:List Lit} (hn:L.Nodup) (hh:∀ x,Maps.has D x=true↔x∈L):Maps.size D=L.length:=by
 obtain ⟨es,rfl,hp,hk⟩:=h.entries K;rw [Maps.size_eq,<-List.length_map (f:=Prod.fst)];refine List.Perm.length_eq ((List.perm_ext_iff_of_nodup (List.pairwise_map.2 hp) hn).2 fun x=>?_);rw [<-hh x,Maps.has_eq,List.any_eq_true,List.mem_map];constructor;{rintro ⟨p,Gy,rfl⟩;exact ⟨p,Gy,WideAt.sameKey_self (hk p Gy)⟩};{rintro ⟨p,Gy,hs⟩;refine ⟨p,Gy,Classical.byContradiction fun bm=>?_⟩;rw [sameKey_ne bm] at hs;cases hs}
def SM (w:World) (h:Nat) (s:List Int):Prop:=∃ D n,w.ownsMap prog 22 unitElem h n D/\n<=2097152/\cI D s/\Maps.size D=s.length
structure PN (w0 w:World) (g h u:Nat) (nd:aA):Prop where
 lo:w0.heap.size<=g/\w0.heap.size<=h/\w0.heap.size<=u
 aF:∃ V,w.heap[g]?=some (.cells #[V,.int .u64 nd.owner,.int .i64 nd.mode,.map (some h),.int .u64 nd.aC,.int .u64 nd.gen,.map (some u)] 119)/\AB w0 w V nd.value
 GC:SM w h nd.holders
 G9:SM w u nd.watchers
def PE (w0 w:World) (g:Nat) (s:aR):Prop:=w0.heap.size<=g/\∃ u,w.heap[g]?=some (.cells #[.int .u64 s.1,.int .i64 s.2.1,u] 95)/\AQ w0 w u s.2.2
structure PS (w0 w:World) (b bs bn:Nat) (D:SD) (SB NB HB UB:List Nat):Prop where
 be:Below w0.heap.size w0 w
 hd:w.heap[b]?=some (.cells #[.int .u64 D.e,.int .u64 D.g,.int .u64 D.x,.int .i64 D.t,.map (some bs),.map (some bn)] 114)
 lM:SB.length=D.ss.length
 lI:∃ M n,w.ownsMap prog 22 aT bs n M/\n<=1048576/\dZ M (List.zipWith (fun (s:aR) g=>(Lit.int .u64 s.1,g)) D.ss SB)/\Maps.size M=D.ss.length
 lQ:∀ (i:Nat) (s:aR) (g:Nat),D.ss[i]?=some s->SB[i]?=some g->PE w0 w g s
 snd:SB.Nodup
 my:NB.length=D.ns.length
 hlen:HB.length=D.ns.length
 mV:UB.length=D.ns.length
 ju:∃ M n,w.ownsMap prog 9 aT bn n M/\n<=1048576/\dZ M (List.zipWith (fun (nd:aA) g=>(bj nd.path,g)) D.ns NB)/\Maps.size M=D.ns.length
 jb:∀ (i:Nat) (nd:aA) (g h u:Nat),D.ns[i]?=some nd->NB[i]?=some g->HB[i]?=some h->UB[i]?=some u->PN w0 w g h u nd
 Kc:NB.Nodup
 lo:w0.heap.size<=b/\w0.heap.size<=bs/\w0.heap.size<=bn
 Aw:(bs::bn::(HB++UB)).Nodup
theorem SM.of {h n:Nat} (o:w.ownsMap prog 22 unitElem h n D) (hn:n<=2097152) (hs:cI D s) (hd:s.Nodup):SM w h s:=by
 refine ⟨D,n,o,hn,hs,?_⟩;have hl:(s.map fun i:Int=>Lit.int .u64 i).length=s.length:=List.length_map _;rw [<-hl];refine lP o gp (List.pairwise_map.2 (hd.imp fun bm e=>bm (by simpa using e))) fun x=>?_;rw [hs x,List.mem_map];constructor;{rintro ⟨i,hi,rfl⟩;exact ⟨i,hi,rfl⟩};{rintro ⟨i,hi,rfl⟩;exact ⟨i,hi,rfl⟩}
theorem SM.kept (k:SM w h s) (hk:w'.heap[h]?=w.heap[h]?):SM w' h s:=by
 obtain ⟨D,n,o,h1,h2,h3⟩:=k;exact ⟨D,n,nw o (fun es c hh=>hk.trans hh),h1,h2,h3⟩
theorem iW (h:s.Pairwise (·<·)):s.Nodup:=h.imp fun hl e=>by omega
theorem PS.of {g:Int} {SB NB HB UB:List Nat} (h:jO w0 w b bs bn e g x t ss ns SB NB HB UB) (be:Below w0.heap.size w0 w) (hF:DP ss ns) (ls:ss.length<=1048576) (ln:ns.length<=1048576):PS w0 w b bs bn ⟨e,g,x,t,ss,ns⟩ SB NB HB UB:=by
 refine ⟨be,h.hd,h.En.len,?_,fun i s gb hs hg=>?_,h.En.lh,h.lh.len,h.lh.EH,h.lh.EG,?_,fun i nd gb hh uu hs hg h1 h2=>?_,h.lh.lh,h.lo,h.Aw⟩;{obtain ⟨D,o,m⟩:=h.En.own;refine ⟨D,_,o,ls,m,?_⟩;have hl:(ss.map fun s=>Lit.int .u64 s.1).length=ss.length:=List.length_map _;rw [<-hl];refine lP o gp (List.pairwise_map.2 (hF.s1.imp fun aU e=>by simp at e;omega)) fun k=>?_;rw [m.hs k,List.mem_map];constructor;{rintro ⟨p,hp,rfl⟩;obtain ⟨i,s,y,h1,-,rfl⟩:=gj hp;exact ⟨s,aL h1,rfl⟩};{rintro ⟨s,hs,rfl⟩;obtain ⟨i,hi⟩:=List.mem_iff_getElem?.1 hs;obtain ⟨y,hy⟩:∃ y,SB[i]?=some y:=⟨_,aH (by rw [h.En.len];exact (aM.1 hi).1)⟩;exact ⟨_,aL (i:=i) (by rw [List.getElem?_zipWith,hi,hy]),rfl⟩}};{obtain ⟨q0,u,q1,q2⟩:=h.En.aF i s gb hs hg;exact ⟨q0,u,q1,AQ.of q2 be⟩};{obtain ⟨D,o,m⟩:=h.lh.own;refine ⟨D,_,o,ln,m,?_⟩;have hl:(ns.map fun nd=>bj nd.path).length=ns.length:=List.length_map _;rw [<-hl];refine lP o ke (List.pairwise_map.2 (Gl fun i j a c ha hc jd e=>hF.n3 i j a c ha hc jd (jc (hF.n2 a (aL ha)).1 (hF.n2 c (aL hc)).1 e))) fun k=>?_;rw [m.hs k,List.mem_map];constructor;{rintro ⟨p,hp,rfl⟩;obtain ⟨i,s,y,h1,-,rfl⟩:=gj hp;exact ⟨s,aL h1,rfl⟩};{rintro ⟨s,hs,rfl⟩;obtain ⟨i,hi⟩:=List.mem_iff_getElem?.1 hs;obtain ⟨y,hy⟩:∃ y,NB[i]?=some y:=⟨_,aH (by rw [h.lh.len];exact (aM.1 hi).1)⟩;exact ⟨_,aL (i:=i) (by rw [List.getElem?_zipWith,hi,hy]),rfl⟩}};{obtain ⟨q0,q1,q2,⟨V,q3,q4⟩,⟨D1,o1,m1⟩,⟨D2,o2,m2⟩⟩:=h.lh.aF i nd gb hh uu hs hg h1 h2;obtain ⟨-,-,-,l1,l2,n1,n2⟩:=hF.n2 nd (aL hs);exact ⟨⟨q0,q1,q2⟩,⟨V,q3,.inl q4⟩,SM.of o1 (by omega) m1 (iW n1),SM.of o2 (by omega) m2 (iW n2)⟩}
theorem PS.sto {D:SD} {SB NB HB UB:List Nat} (h:PS w0 w b bs bn D SB NB HB UB):Sto w b bs bn D.e D.g D.x D.t D.ss D.ns SB NB:=by
 refine ⟨h.hd,⟨h.lM,?_,fun i s gb hs hg=>?_⟩,⟨h.my,?_,fun i nd gb hs hg=>?_⟩⟩;{obtain ⟨M,n,o,hn,m,-⟩:=h.lI;exact ⟨M,n,o,hn,m⟩};{obtain ⟨-,u,q1,q2⟩:=h.lQ i s gb hs hg;exact ⟨u,q1,q2.rdc h.be⟩};{obtain ⟨M,n,o,hn,m,-⟩:=h.ju;exact ⟨M,n,o,hn,m⟩};{have hi:=(aM.1 hs).1;obtain ⟨hh,je⟩:∃ y,HB[i]?=some y:=⟨_,aH (by rw [h.hlen];exact hi)⟩;obtain ⟨uu,jq⟩:∃ y,UB[i]?=some y:=⟨_,aH (by rw [h.mV];exact hi)⟩;obtain ⟨-,⟨V,q1,q2⟩,⟨D1,n1,o1,-,s1,z1⟩,⟨D2,n2,o2,-,s2,z2⟩⟩:=h.jb i nd gb hh uu hs hg je jq;exact ⟨V,hh,uu,q1,q2.rd h.be,⟨D1,z1▸cY o1,s1⟩,⟨D2,z2▸cY o2,s2⟩⟩}
structure One (w0 w w':World) (g:Nat):Prop where
 b:Below w0.heap.size w w'
 k:∀ z,z<w.heap.size->z≠g->w'.heap[z]?=w.heap[z]?
 t:∀ cur ty m,w.heap[g]?=some (.cells cur ty m)->ty∈[95,119,114]
theorem One.fr (h:One w0 w w' g):Fr [95,119,114] w w':=by
 refine ⟨h.b.size,fun b cur ty m hn hb=>?_⟩;by_cases e:b=g;{subst e;exact absurd (h.t _ _ _ hb) hn};{exact (h.k b (aI hb) e).trans hb}
theorem One.obj {z:Nat} {o:Obj} (h:One w0 w w' g) (hz:w.heap[z]?=some o) (bm:z≠g):w'.heap[z]?=some o:=(h.k z (aI hz) bm).trans hz
theorem ownsMap_at {R:Value->Option (DataW Unit × List MemPlace)} {b n:Nat} (h:w.ownsMap prog k R b n D):∃ es c,w.heap[b]?=some (.map es c):=by
 obtain ⟨es,c,h1,-⟩:=h;exact ⟨es,c,h1⟩
theorem One.map {g z n:Nat} {R:Value->Option (DataW Unit × List MemPlace)} (h:One w0 w w' g) (hz:w.ownsMap prog k R z n D) (bm:z≠g):w'.ownsMap prog k R z n D:=
 nw hz (fun es c hh=>h.obj hh bm)
theorem SM.aN (k:SM w h s) (O:One w0 w w' g) (bm:h≠g):SM w' h s:=by
 obtain ⟨D,n,o,h1,h2,h3⟩:=k;exact ⟨D,n,O.map o bm,h1,h2,h3⟩
theorem SM.at (k:SM w h s):∃ es c,w.heap[h]?=some (.map es c):=by
 obtain ⟨D,n,o,-⟩:=k;exact ownsMap_at o
theorem PE.aN {s:aR} (h:PE w0 w gb s) (O:One w0 w w' g) (bm:gb≠g):PE w0 w' gb s:=by
 obtain ⟨h0,u,h1,h2⟩:=h;exact ⟨h0,u,O.obj h1 bm,h2.fr O.b O.fr (by decide)⟩
theorem PN.aN {hh uu:Nat} (h:PN w0 w gb hh uu nd) (O:One w0 w w' g) (h1:gb≠g) (h2:hh≠g) (h3:uu≠g):PN w0 w' gb hh uu nd:=by
 obtain ⟨h0,⟨V,q1,q2⟩,q3,q4⟩:=h;exact ⟨h0,⟨V,O.obj q1 h1,q2.fr O.fr (by decide)⟩,q3.aN O h2,q4.aN O h3⟩
section
variable {w0 w w':World} {b bs bn:Nat} {D:SD} {SB NB HB UB:List Nat}
theorem PS.nat (h:PS w0 w b bs bn D SB NB HB UB) (hi:D.ns[i]?=some nd):∃ g hh uu,NB[i]?=some g/\HB[i]?=some hh/\UB[i]?=some uu/\PN w0 w g hh uu nd:=by
 have hl:=(aM.1 hi).1;obtain ⟨g,hg⟩:∃ y,NB[i]?=some y:=⟨_,aH (by rw [h.my];exact hl)⟩;obtain ⟨hh,je⟩:∃ y,HB[i]?=some y:=⟨_,aH (by rw [h.hlen];exact hl)⟩;obtain ⟨uu,jq⟩:∃ y,UB[i]?=some y:=⟨_,aH (by rw [h.mV];exact hl)⟩;exact ⟨g,hh,uu,hg,je,jq,h.jb i nd g hh uu hi hg je jq⟩
theorem PS.sat (h:PS w0 w b bs bn D SB NB HB UB) {s:aR} (hi:D.ss[i]?=some s):∃ g,SB[i]?=some g/\PE w0 w g s:=by
 have hl:=(aM.1 hi).1;obtain ⟨g,hg⟩:∃ y,SB[i]?=some y:=⟨_,aH (by rw [h.lM];exact hl)⟩;exact ⟨g,hg,h.lQ i s g hi hg⟩
theorem PS.Ya (h:PS w0 w b bs bn D SB NB HB UB) (hg:NB[i]?=some g):∃ nd,D.ns[i]?=some nd:=⟨_,aH (by rw [<-h.my];exact (aM.1 hg).1)⟩
theorem PS.below (h:PS w0 w b bs bn D SB NB HB UB) (hb:Below w.heap.size w w'):PS w0 w' b bs bn D SB NB HB UB:=by
 have O:One w0 w w' w.heap.size:=⟨hb.mono h.be.size,fun z hz _=>hb.block z hz,fun cur ty m hc=>absurd (aI hc) (Nat.lt_irrefl _)⟩;have hn:∀ {z:Nat} {o:Obj},w.heap[z]?=some o->z≠w.heap.size:=fun hz e=>by have:=aI hz;omega
 refine ⟨h.be.trans (hb.mono h.be.size),O.obj h.hd (hn h.hd),h.lM,?_,fun i s g hs hg=>?_,h.snd,h.my,h.hlen,h.mV,?_,fun i nd g hh uu hs hg h1 h2=>?_,h.Kc,h.lo,h.Aw⟩;{obtain ⟨M,n,o,r⟩:=h.lI;obtain ⟨es,c,hm⟩:=ownsMap_at o;exact ⟨M,n,O.map o (hn hm),r⟩};{have q:=h.lQ i s g hs hg;obtain ⟨-,u,h1,-⟩:=id q;exact q.aN O (hn h1)};{obtain ⟨M,n,o,r⟩:=h.ju;obtain ⟨es,c,hm⟩:=ownsMap_at o;exact ⟨M,n,O.map o (hn hm),r⟩};{have q:=h.jb i nd g hh uu hs hg h1 h2;obtain ⟨-,⟨V,q1,-⟩,q3,q4⟩:=id q;obtain ⟨es,c,m3⟩:=q3.at;obtain ⟨Qz,c',m4⟩:=q4.at;exact q.aN O (hn q1) (hn m3) (hn m4)}
theorem zF {l:List Nat} (hn:l.Nodup) {j a c:Nat} (hi:l[i]?=some a) (hj:l[j]?=some c) (jd:i≠j):a≠c:=fun e=>jd (Hm hn hi (e▸hj))
theorem PS.hu (h:PS w0 w b bs bn D SB NB HB UB):bs≠bn/\(∀ z∈HB,z≠bs/\z≠bn)/\(∀ z∈UB,z≠bs/\z≠bn)/\HB.Nodup/\UB.Nodup/\∀ y∈HB,∀ z∈UB,y≠z:=by
 have hd:=h.Aw;simp only [List.nodup_cons,List.mem_cons,List.mem_append,not_or] at hd;obtain ⟨⟨d0,d1,d2⟩,⟨d3,d4⟩,d5⟩:=hd;rw [List.nodup_append] at d5;exact ⟨d0,fun z hz=>⟨fun e=>d1 (e▸hz),fun e=>d3 (e▸hz)⟩,fun z hz=>⟨fun e=>d2 (e▸hz),fun e=>d4 (e▸hz)⟩,d5.1,d5.2.1,fun y hy z hz=>d5.2.2 y hy z hz⟩
theorem PS.Ge (h:PS w0 w b bs bn D SB NB HB UB) {s s':aR} (hs:D.ss[i]?=some s) (hg:SB[i]?=some g) (O:One w0 w w' g) (hid:s'.1=s.1) (hE:PE w0 w' g s'):PS w0 w' b bs bn { D with ss:=D.ss.set i s' } SB NB HB UB:=by
 obtain ⟨g0,u0,gc,-⟩:=h.lQ i s g hs hg;have ua:=(aM.1 hs).1;have nc:∀ {z:Nat} {cs:Array Value} {ty:TypeId},w.heap[z]?=some (.cells cs ty)->ty≠95->z≠g:=fun hz ht e=>by rw [e,gc] at hz;simp at hz;exact ht hz.2.symm
 have nm:∀ {z:Nat} {es:Array MapEntry} {c:Nat},w.heap[z]?=some (.map es c)->z≠g:=fun hz e=>by rw [e,gc] at hz;cases hz
 refine ⟨h.be.trans O.b,O.obj h.hd (nc h.hd (by decide)),by rw [List.length_set];exact h.lM,?_,fun j s1 g1 fO dS=>?_,h.snd,h.my,h.hlen,h.mV,?_,fun j nd gb hh uu fO dS h1 h2=>?_,h.Kc,h.lo,h.Aw⟩;{
 obtain ⟨M,n,o,hn,m,hz⟩:=h.lI;obtain ⟨es,c,hm⟩:=ownsMap_at o;refine ⟨M,n,O.map o (nm hm),hn,?_,by simp only [List.length_set];exact hz⟩;have e:List.zipWith (fun (s:aR) g=>(Lit.int .u64 s.1,g)) (D.ss.set i s') SB=List.zipWith (fun (s:aR) g=>(Lit.int .u64 s.1,g)) D.ss SB:=by refine List.ext_getElem? fun j=>?_;rw [List.getElem?_zipWith,List.getElem?_zipWith,List.getElem?_set];by_cases ej:i=j;{subst ej;rw [if_pos rfl,if_pos ua,hs,hg];simp [hid]};{simp [ej]}
 rw [e];exact m};{simp only [List.getElem?_set] at fO;by_cases ej:i=j;{subst ej;rw [hg] at dS;cases dS;simp [ua] at fO;subst fO;exact hE};{simp [ej] at fO;exact (h.lQ j s1 g1 fO dS).aN O (zF h.snd dS hg (fun e=>ej e.symm))}};{obtain ⟨M,n,o,r⟩:=h.ju;obtain ⟨es,c,hm⟩:=ownsMap_at o;exact ⟨M,n,O.map o (nm hm),r⟩};{have q:=h.jb j nd gb hh uu fO dS h1 h2;obtain ⟨-,⟨V,q1,-⟩,q3,q4⟩:=id q;obtain ⟨es,c,m3⟩:=q3.at;obtain ⟨Qz,c',m4⟩:=q4.at;exact q.aN O (nc q1 (by decide)) (nm m3) (nm m4)}
end
end Go.Proofs.YtmfjiolopcbcmaaGreatDoor
