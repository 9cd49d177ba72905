import Derived.Test.YtcfcafeciggjeaaGreatDoorK31
import Derived.Test.YtcfcafeciggjeaaGreatDoorK30
namespace Go.Proofs.YtcfcafeciggjeaaGreatDoor
set_option maxHeartbeats 6400000
set_option linter.all false
set_option maxRecDepth 100000
open Go.ChangeShapes Go.WideShapes Go.ChangeAt Go.RowKit Go.Maps Go.Proofs.Tryz
variable {D:DataW Unit} {SB:List Nat} {b bn bs i sb:Nat} {e g t x:Int} {nd:aD} {ns:List aD} {s:List Int} {ss:List aY}
structure JF (w:World) (bs:Nat) (ss:List aY) (SB:List Nat):Prop where
 len:SB.length=ss.length
 own:∃ D n,w.ownsMap prog 23 aZ bs n D/\n<=1048576/\MapTo D (List.zipWith (fun (s:aY) g=>(Lit.U s.1,g)) ss SB)
 aI:∀ (i:Nat) (s:aY) (g:Nat),ss[i]?=some s->SB[i]?=some g->∃ u,w.heap[g]?=some (.cells #[.U s.1,.I s.2.1,u] 35)/\jJ w u s.2.2
structure JG (w:World) (bn:Nat) (ns:List aD) (NB:List Nat):Prop where
 len:NB.length=ns.length
 own:∃ D n,w.ownsMap prog 9 aZ bn n D/\n<=1048576/\MapTo D (List.zipWith (fun (nd:aD) g=>(bN nd.path,g)) ns NB)
 aI:∀ (i:Nat) (nd:aD) (g:Nat),ns[i]?=some nd->NB[i]?=some g->∃ V h u,KN w g h u V nd
theorem KN.below {w w':World} {g h u:Nat} {V:Value} (k:KN w g h u V nd) (hb:Bw w w'):KN w' g h u V nd:=by
 obtain ⟨h1,h2,⟨D1,o1,s1⟩,⟨D2,o2,s2⟩⟩:=k;exact ⟨(hb.block g (aG h1)).trans h1,h2.below hb,⟨D1,o1.kept (az hb none) aU,s1⟩,⟨D2,o2.kept (az hb none) aU,s2⟩⟩
theorem JF.below {w w':World} (h:JF w bs ss SB) (hb:Bw w w'):JF w' bs ss SB:=by
 obtain ⟨h1,⟨D,n,o,hn,m⟩,h3⟩:=h;refine ⟨h1,⟨D,n,o.kept (az hb none) aU,hn,m⟩,fun i s g hs hg=>?_⟩;obtain ⟨u,q1,q2⟩:=h3 i s g hs hg;exact ⟨u,(hb.block g (aG q1)).trans q1,q2.below hb⟩
theorem JG.below {w w':World} {NB:List Nat} (h:JG w bn ns NB) (hb:Bw w w'):JG w' bn ns NB:=by
 obtain ⟨h1,⟨D,n,o,hn,m⟩,h3⟩:=h;refine ⟨h1,⟨D,n,o.kept (az hb none) aU,hn,m⟩,fun i s g hs hg=>?_⟩;obtain ⟨V,h,u,q⟩:=h3 i s g hs hg;exact ⟨V,h,u,q.below hb⟩
structure Sto (w:World) (b bs bn:Nat) (e g x t:Int) (ss:List aY) (ns:List aD) (SB NB:List Nat):Prop where
 hd:w.heap[b]?=some (.cells #[.U e,.U g,.U x,.I t,.map (some bs),.map (some bn)] 132)
 ses:JF w bs ss SB
 me:JG w bn ns NB
theorem Sto.below {w w':World} {SB NB:List Nat} (h:Sto w b bs bn e g x t ss ns SB NB) (hb:Bw w w'):Sto w' b bs bn e g x t ss ns SB NB:=
 ⟨(hb.block b (aG h.hd)).trans h.hd,h.ses.below hb,h.me.below hb⟩
theorem xe {w:World} (h:JF w bs ss SB) {s:aY} (hs:ss[i]?=some s):∃ g,SB[i]?=some g/\(Lit.U s.1,g)∈List.zipWith (fun (s:aY) g=>(Lit.U s.1,g)) ss SB:=by
 have hi:=(aN.1 hs).1;obtain ⟨g,hg⟩:∃ g,SB[i]?=some g:=⟨_,aK (by rw [h.len];exact hi)⟩;refine ⟨g,hg,aF (i:=i) ?_⟩;rw [List.getElem?_zipWith,hs,hg]
theorem xg {w:World} {NB:List Nat} (h:JG w bn ns NB) (hs:ns[i]?=some nd):∃ g,NB[i]?=some g/\(bN nd.path,g)∈List.zipWith (fun (nd:aD) g=>(bN nd.path,g)) ns NB:=by
 have hi:=(aN.1 hs).1;obtain ⟨g,hg⟩:∃ g,NB[i]?=some g:=⟨_,aK (by rw [h.len];exact hi)⟩;refine ⟨g,hg,aF (i:=i) ?_⟩;rw [List.getElem?_zipWith,hs,hg]
theorem Hb {α β γ:Type} {f:α->β->γ} {l:List α} {m:List β} {z:γ} (h:z∈List.zipWith f l m):∃ a∈l,∃ b,z=f a b:=by
 induction l generalizing m with
 | nil=>simp at h
 | cons a l ih=>
  cases m with
  | nil=>simp at h
  | cons b m=>
   simp only [List.zipWith_cons_cons,List.mem_cons] at h;rcases h with rfl | h;{exact ⟨a,aU,b,rfl⟩};{obtain ⟨a',ha,b',e⟩:=ih h;exact ⟨a',by simp [ha],b',e⟩}
theorem Fa {w:World} (h:JF w bs ss SB) (hs:ss.Pairwise (fun s s'=>s.1<s'.1)) (m:MapTo D (List.zipWith (fun (s:aY) g=>(Lit.U s.1,g)) ss SB)) {ids:List Int} (ha:Q.Asc D ids):ids=ss.map (·.1):=by
 refine mW ha.lt (List.pairwise_map.2 hs) fun x=>?_;rw [ha.mem x,m.hs];constructor;{rintro ⟨p,hp,e⟩;obtain ⟨s,uS,g,rfl⟩:=Hb hp;simp only [Lit.int.injEq,true_and] at e;exact List.mem_map.2 ⟨s,uS,e⟩};{intro hx;obtain ⟨s,uS,rfl⟩:=List.mem_map.1 hx;obtain ⟨i,hi,e⟩:=List.getElem_of_mem uS;obtain ⟨g,hg,hm⟩:=xe h (i:=i) (s:=s) (by rw [aK hi,e]);exact ⟨_,hm,rfl⟩}
def ko (l:List Int):List UInt8:=l.map fun n=>UInt8.ofNat n.toNat
theorem Gt {α:Type} [LT α] (irr:∀ a:α,¬ a<a) (tr:∀ a b c:α,a<b->b<c->a<c):∀ {l m:List α},l.Pairwise (·<·)->m.Pairwise (·<·)->(∀ x,x∈l↔x∈m)->l=m
 | [],[],_,_,_=>rfl
 | [],b::m,_,_,h=>absurd ((h b).2 aU) aU
 | a::l,[],_,_,h=>absurd ((h a).1 aU) aU
 | a::l,b::m,h1,h2,h=>by
  rw [List.pairwise_cons] at h1 h2;have FR:a=b:=by rcases List.mem_cons.1 ((h a).1 aU) with e | e;{exact e};{rcases List.mem_cons.1 ((h b).2 aU) with e' | e';{exact e'.symm};{exact absurd (tr _ _ _ (h2.1 a e) (h1.1 b e')) (irr _)}}
  subst FR;rw [Gt irr tr h1.2 h2.2 (fun x=>?_)];constructor;{intro hx;rcases List.mem_cons.1 ((h x).1 (by simp [hx])) with e | e;{subst e;exact absurd (h1.1 _ hx) (irr _)};{exact e}};{intro hx;rcases List.mem_cons.1 ((h x).2 (by simp [hx])) with e | e;{subst e;exact absurd (h2.1 _ hx) (irr _)};{exact e}}
theorem qH {w:World} {NB:List Nat} (h:JG w bn ns NB) (hs:(ns.map fun nd=>ko nd.path).Pairwise (·<·)) (m:MapTo D (List.zipWith (fun (nd:aD) g=>(bN nd.path,g)) ns NB)) {ks:List (List UInt8)} (ha:T.Asc D ks):ks=ns.map fun nd=>ko nd.path:=by
 refine Gt (fun a=>List.lt_irrefl a) (fun a b c=>List.lt_trans) ha.lt hs fun x=>?_;rw [ha.mem x,m.hs];constructor;{rintro ⟨p,hp,e⟩;obtain ⟨s,uS,g,rfl⟩:=Hb hp;simp only [bN,Lit.string.injEq] at e;exact List.mem_map.2 ⟨s,uS,e⟩};{intro hx;obtain ⟨s,uS,rfl⟩:=List.mem_map.1 hx;obtain ⟨i,hi,e⟩:=List.getElem_of_mem uS;obtain ⟨g,hg,hm⟩:=xg h (i:=i) (nd:=s) (by rw [aK hi,e]);exact ⟨_,hm,rfl⟩}
theorem Cm (w:World):(zeroValue 133).run prog w=.ok (.pointer none) w:=by kernel_rfl
theorem De {w:World} {bs n:Nat} {l:List (Lit × Nat)} (o:w.ownsMap prog 23 aZ bs n D) (m:MapTo D l) {I:Int} {g:Nat} (hp:(Lit.U I,g)∈l) (hI:0<=I/\I<18446744073709551616) :
  (Instr.lookup 129 (.map (some bs)) (.U I) false).run prog w=.ok (.pointer (some ⟨g,0,none⟩)) w:=by
 obtain ⟨v,ps,hr,hv⟩:=o.lookup gR underlying129 (Cm w) (zd:=.nil) (zp:=[]) rfl (key:=.U I) (keyOf_int_mk underlying23 (jO hI));rw [m.at' _ hp] at hv;obtain rfl:=iB hv;exact hr
theorem Df {w:World} {bn n:Nat} {l:List (Lit × Nat)} (o:w.ownsMap prog 9 aZ bn n D) (m:MapTo D l) {P:List Int} {g:Nat} (hp:(bN P,g)∈l) (hP:P.length<=1048576) :
  (Instr.lookup 130 (.map (some bn)) (.string (aC P)) false).run prog w=.ok (.pointer (some ⟨g,0,none⟩)) w:=by
 obtain ⟨v,ps,hr,hv⟩:=o.lookup kM underlying130 (ke w) (zd:=.nil) (zp:=[]) rfl (key:=.string (aC P)) (kl:=bN P) (by rw [WideMaps.keyOf_string_mk underlying9 (by rw [di];unfold maxLen;omega),kq])
 rw [m.at' _ hp] at hv;obtain rfl:=iB hv;exact hr
theorem jt {w w1 w2:World} {row:Option Nat} (h:w.grownBy w1 (some sb)) (k:w1.grownBy w2 row) (hr:∀ b,row=some b->w.heap.size<=b\/b=sb):w.grownBy w2 (some sb):=
 ⟨k.os.trans h.os,k.tape.trans h.tape,k.output.trans h.output,Nat.le_trans h.size k.size,fun i hi gd=>(k.block i (Nat.lt_of_lt_of_le hi h.size) (fun e=>by rcases hr i e.symm with h' | h';{omega};{exact gd (by rw [h'])})).trans (h.block i hi gd)⟩
theorem aE (w:World) (a:Addr) (v:Value):w.grownBy (w.setCell a v) (some a.block):=
 ⟨rfl,rfl,rfl,aU,fun k _ hk=>dF _ _ _ _ (fun e=>hk (by rw [e]))⟩
theorem qY {w w1 w2:World} (h:Bw w w1) (k:w1.grownBy w2 (some sb)) (hs:w.heap.size<=sb):Bw w w2:=h.grown k h.size (fun b e=>by cases e;exact hs)
theorem rO {w w':World} {k:TypeId} {R:Value->Option (DataW Unit × List MemPlace)} {b n:Nat} (h:w.ownsMap prog k R b n D) (hh:w'.heap[b]?=w.heap[b]?):w'.ownsMap prog k R b n D:=by
 obtain ⟨es,clock,h1,h2⟩:=h;exact ⟨es,clock,hh.trans h1,h2⟩
theorem aq.grown {w w':World} {vs:List Value} {row:Option Nat} (h:aq w b vs) (hb:b<w.heap.size) (hg:w.grownBy w' row) (gd:some b≠row):aq w' b vs:=by
 have hh:=hg.block b hb gd;refine ⟨fun i v hi=>(ai hh _).trans (h.1 i v hi),fun o=>?_⟩;have:w'.frozen? ⟨b,o,none⟩=w.frozen? ⟨b,o,none⟩:=World.frozen?_of_block hh;rw [this];exact h.2 o
theorem Of (l:List Int):(⟨(ko l).toArray⟩:ByteArray)=aC l:=by
 have h:(aC l).data=(ko l).toArray:=by rw [<-Array.toList_inj];simpa [ko] using fM l
 cases hb:aC l with
 | mk d=>rw [hb] at h;simp only at h;rw [h]
theorem AJ {B:Nat} {w:World} {v:Value} (h:T.SC B w v (ns.map fun nd=>ko nd.path)):∃ p c,v=.S p ns.length c/\(ns=[]\/∃ g,p=some ⟨g,0,none⟩/\B<=g/\g<w.heap.size/\∀ (j:Nat) (nd:aD),ns[j]?=some nd->w.cell? ⟨g,0+j,none⟩=some (.string (aC nd.path))):=by
 rcases h with ⟨rfl,h0⟩ | ⟨g,cap,rfl,hb,hl,hH⟩;{
 have:ns=[]:=by simpa using h0
 subst this;exact ⟨none,0,rfl,.inl rfl⟩};{
 refine ⟨some ⟨g,0,none⟩,cap,by rw [List.length_map],.inr ⟨g,rfl,hb,hl,fun j nd hj=>?_⟩⟩;have Bf:=(aN.1 hj).1;have:=(hH j (by simpa using Bf)).1;rw [this,<-Of];have e:(ns.map fun nd=>ko nd.path).toArray[j]! = ko nd.path:=by have e2:ns[j]=nd:=(aN.1 hj).2;simp [Bf,e2]
 rw [e]}
theorem mT.cells {w:World} {c:Array Value} {l:List Lf} (h:mT w nd c.toList l):∃ q0 q1 q2 q3 q4 q5 q6 q7,c=#[q0,q1,q2,q3,q4,q5,q6,q7]/\∀ u∈[q0,q1,q2,q3,q4,q5,q6,q7],u.oneCell'=true:=by
 obtain ⟨p0,c0,p1,c1,p4,c4,p7,c7,l0,l1,l4,l7,-,h2,-⟩:=h;refine ⟨_,_,_,_,_,_,_,_,by rw [<-Array.toList_inj,h2],fun u hu=>?_⟩;simp only [List.mem_cons,List.not_mem_nil,or_false] at hu;rcases hu with rfl | rfl | rfl | rfl | rfl | rfl | rfl | rfl<;>rfl
theorem Iv (b bs bn:Nat) (e g x t:Int) (ss:List aY) (ns:List aD) (SB NB:List Nat) (w:World) (h:Sto w b bs bn e g x t ss ns SB NB) (hs:Hid (ss.Pairwise (fun s s'=>s.1<s'.1))) (hn:Hid ((ns.map fun nd=>ko nd.path).Pairwise (·<·)))
  (ls:ss.length<=1048576) (ln:ns.length<=1048576) (X8:Hid (∀ s∈ss,(0<=s.1/\s.1<18446744073709551616)/\s.2.2.length<=1048576/\∀ e∈s.2.2,e.2.length<=1048576))
  (Wn:Hid (∀ nd∈ns,bM nd.path/\nd.path.length<=1048576/\nd.value.length<=1048576/\nd.holders.length<=1048576/\nd.watchers.length<=1048576/\nd.holders.Pairwise (·<·)/\nd.watchers.Pairwise (·<·))) :
  Calls prog 38 #[.pointer (some ⟨b,0,none⟩)] w fun r w'=>∃ p c q d A1 A2,r=.returned (cY e g x t (.S p ss.length c) (.S q ns.length d))/\ic w' (.S p ss.length c) ss/\kJ w' (.S q ns.length d) ns/\LvS w' (.S p ss.length c) ss A1/\LvN w' (.S q ns.length d) ns A2/\lx w.heap.size w' (A1++A2)/\Bw w w':=by
 have k0:w.cell? ⟨b,0,none⟩=some (.U e):=ay h.hd 0;have k1:w.cell? ⟨b,1,none⟩=some (.U g):=ay h.hd 1;have k2:w.cell? ⟨b,2,none⟩=some (.U x):=ay h.hd 2;have k3:w.cell? ⟨b,3,none⟩=some (.I t):=ay h.hd 3;obtain ⟨is,his,sz0,sz1,sz2⟩:=info_parts Tryz.infoSes;obtain ⟨io,hio,oz0,oz1,oz2⟩:=info_parts Tryz.infoNod;obtain ⟨W0,dh⟩:=ax (w.alloc (.cells #[.U 0,.U 0,.U 0,.I 0,.S none 0 0,.S none 0 0] 27));have b0:=ju dh;have z0:W0.heap.size=w.heap.size+1:=by rw [dh];simp
 have r0:aq W0 w.heap.size [.U 0,.U 0,.U 0,.I 0,.S none 0 0,.S none 0 0]:=by rw [dh];exact aq.alloc w #[.U 0,.U 0,.U 0,.I 0,.S none 0 0,.S none 0 0] _
 go_enter func38,ntmps38;go_wp2_with fail;rw [<-dh];obtain ⟨v0,IV⟩:=ax W0.drew;have bv:Bw w v0:=by rw [IV];exact b0.drew
 have zv:v0.heap.size=w.heap.size+1:=by rw [IV];exact z0
 have R0:Hid (aq v0 w.heap.size [.U 0,.U 0,.U 0,.I 0,.S none 0 0,.S none 0 0]):=by rw [IV];exact r0
 have S0:=ae (ag (af k0 bv) (ag (af k1 bv) (ag (af k2 bv) (af k3 bv))));have H0:=ae (h.below bv);have ZV:=ae zv;refine bO (fun w'=>w'.cell? ⟨b,0,none⟩=some (.U e)/\w'.cell? ⟨b,1,none⟩=some (.U g)/\w'.cell? ⟨b,2,none⟩=some (.U x)/\w'.cell? ⟨b,3,none⟩=some (.I t)) (by rw [<-IV];exact aa S0) fun hS=>?_;rw [<-IV] at hS ⊢;clear IV dh b0 z0 r0 k0 k1 k2 k3 zv;refine gy 0 1 2 3 4 5 6 7 hS ?_;refine gy 8 9 10 11 12 13 14 15 hS ?_;refine tn 16 hS ?_;refine bH 17 fun KK hK=>?_;go_simp;obtain ⟨v1,DA⟩:=ax (v0.alloc (.cells #[.U 0,.U 0,.U 0,.I 0,.S none 0 0,.S none 0 0] 27));have bq:=ju DA;have c1:aq v1 v0.heap.size [.U 0,.U 0,.U 0,.I 0,.S none 0 0,.S none 0 0]:=by rw [DA];exact aq.alloc v0 #[.U 0,.U 0,.U 0,.I 0,.S none 0 0,.S none 0 0] _
 have z1:v1.heap.size=v0.heap.size+1:=by rw [DA];simp
 rw [<-DA];obtain ⟨sb,RH⟩:=ax v0.heap.size;rw [<-RH] at c1 ⊢;have S1:=ae (ag (af S0.1 bq) (ag (af S0.2.1 bq) (ag (af S0.2.2.1 bq) (af S0.2.2.2 bq))));have H1:=ae (H0.below bq);have R1:=ae (R0.below (by have:=aa ZV;omega) bq);have b1:=ah bv bq;have HZ:=ae (ag (aa ZV) (ag RH z1));refine cg hK (by exact S1) fun hS=>?_;have rc0:=c1.1 0 _ rfl;have rc1:=c1.1 1 _ rfl;have rc2:=c1.1 2 _ rfl;have rc3:=c1.1 3 _ rfl;have rc4:=c1.1 4 _ rfl;have rc5:=c1.1 5 _ rfl;have rf:=c1.2;clear hK KK DA bq RH z1;refine bH 18 fun KK hK=>?_;go_simp;obtain ⟨Z,hZ⟩:=ax ((((((v1.setCell ⟨sb,0,none⟩ (.U e)).setCell ⟨sb,1,none⟩ (.U g)).setCell ⟨sb,2,none⟩ (.U x)).setCell ⟨sb,3,none⟩ (.I t)).setCell ⟨sb,4,none⟩ (.S none 0 0)).setCell ⟨sb,5,none⟩ (.S none 0 0));obtain ⟨zz0,zz1,zz2⟩:=aa HZ;have CZ:aq Z sb [.U e,.U g,.U x,.I t,.S none 0 0,.S none 0 0]:=by rw [hZ];exact ((((((c1.dI 0 aU _).dI 1 aU _).dI 2 aU _).dI 3 aU _).dI 4 aU _).dI 5 aU _)
 have hgZ:v1.grownBy Z (some sb):=by rw [hZ];exact gK (gK (gK (gK (gK (aE _ _ _) (aE _ _ _)) (aE _ _ _)) (aE _ _ _)) (aE _ _ _)) (aE _ _ _)
 have bZ:Bw w Z:=qY b1 hgZ ab;have RZ:=R1.grown ab hgZ dx;have SZ:Z.cell? ⟨b,0,none⟩=some (.U e)/\Z.cell? ⟨b,1,none⟩=some (.U g)/\Z.cell? ⟨b,2,none⟩=some (.U x)/\Z.cell? ⟨b,3,none⟩=some (.I t):=⟨ay (h.below bZ).hd 0,ay (h.below bZ).hd 1,ay (h.below bZ).hd 2,ay (h.below bZ).hd 3⟩;have zZ:sb<Z.heap.size:=by have:=hgZ.size;omega
 rw [<-hZ];refine cg hK (by exact SZ) fun hS=>?_;clear hK KK hZ hgZ SZ c1 rc0 rc1 rc2 rc3 rc4 rc5 rf S1 H1 R1 S0 H0 R0;refine bu ?_;have Hh:w.heap.size<sb:=ab;have CZ':=ae CZ;have RZ':=ae RZ;have HS:=ae fun (w':World) (hb:Bw w w')=>h.below hb;have HLW:Hid (∀ k s gs,ss[k]?=some s->SB[k]?=some gs->b<w.heap.size/\bs<w.heap.size/\gs<w.heap.size):=fun k s gs hy qN=>by obtain ⟨_,_,o,_,_⟩:=h.ses.own;obtain ⟨_,y3,_⟩:=h.ses.aI k _ gs hy qN;exact ⟨aG h.hd,o.lt,aG y3⟩
 have HLN:Hid (∀ k s gs,ns[k]?=some s->NB[k]?=some gs->b<w.heap.size/\bn<w.heap.size/\gs<w.heap.size):=fun k s gs hy qN=>by obtain ⟨_,_,o,_,_⟩:=h.me.own;obtain ⟨_,_,_,y3⟩:=h.me.aI k _ gs hy qN;exact ⟨aG h.hd,o.lt,aG y3.aI⟩
 have BZ:=ae bZ;clear hS CZ RZ h bv b1 zz0 zz1 zz2 HZ ZV;obtain ⟨hHd,Wv,MP⟩:=aa HS _ BZ;obtain ⟨D,nD,oD,hnD,mD⟩:=id Wv.own;have k4:Z.cell? ⟨b,4,none⟩=some (.map (some bs)):=ay hHd 4;have MD:=ae mD;have OD:=ae oD;clear hHd MP mD;go_wp2_with fail;refine (Q.iO bs nD D _ oD (Nat.le_trans oD.size_le hnD)).mono ?_;rintro r w1 ⟨kv,ids,rfl,Ez,Ca,bq⟩;obtain rfl:=Fa Wv hs MD Ez;obtain ⟨pk,ck,Ak,rfl,rk,lk,ak⟩:=AK Ca;have Hl:(ss.map (·.1)).length=ss.length:=List.length_map _;obtain ⟨nk,enk⟩:=ax ((ss.map (·.1)).length);rw [<-enk] at rk lk ⊢;have ai5:nk=ss.length:=by rw [enk,Hl]
 have ENK:=ae ai5;have bR2:nk<=1048576:=ab;have HKV:=ae (ag rk (ag lk ak));have b1:=ah BZ bq;have z1:=bq.size;have C1:=ae (CZ'.below zZ bq);have R1:=ae (RZ'.below ab bq);clear rk lk ak Ca Ez bq k4 Wv oD enk ai5 Hl CZ' RZ';go_wp2_with fail
 go_loopw [31] (fun iv wr=>∃ (k:Nat) (Sv:Value) (Ls:List (List Lf)),k<=nk/\iv=.I k/\Hid (aq wr sb [.U e,.U g,.U x,.I t,Sv,.S none 0 0]/\OwnT xE 35 3 w1.heap.size wr Sv (ss.take k) Ls)/\Hid (w1.grownBy wr (some sb))) (fun iv _=>nk-(intOf iv).toNat)
 case atStart=>exact ⟨0,_,[],Nat.zero_le _,rfl,⟨C1,OwnT.nil _ _ _ _ _⟩,qR _ _⟩
 case round =>(
 obtain ⟨k,Sv,Ls,hk,rfl,pK,yb⟩:=hrel;have BB:=qY b1 yb ab;by_cases bj:k<nk;{
 have da:=aT k nk;have fL:k<ss.length:=by rw [<-aa ENK];exact bj
 obtain ⟨⟨I,Dl,Qu⟩,hy⟩:∃ y,ss[k]?=some y:=⟨_,aK fL⟩;obtain ⟨hH,hSe,-⟩:=aa HS _ BB;obtain ⟨gs,qN,fK⟩:=xe hSe hy;obtain ⟨u,Yi,hru⟩:=hSe.aI k _ gs hy qN;dsimp only at Yi hru fK;obtain ⟨pq,cq,rfl,-⟩:=id hru;obtain ⟨nq,yJ⟩:=aH Qu.length;rw [yJ] at hru Yi;have ENQ:=ae yJ;obtain ⟨hI,L8,VB⟩:=aa X8 _ (aF hy);dsimp only at hI L8 VB;have hnq:nq<=1048576:=by rw [<-yJ];exact L8
 have Kf:Hid (∀ e∈Qu,e.2.length<=1048576):=VB;obtain ⟨gk,ok,rfl,ME⟩:∃ gk ok,pk=some ⟨gk,ok,none⟩/\wr.cell? ⟨gk,ok+k,none⟩=some (.U I):=by obtain ⟨rk,lk,ak⟩:=aa HKV;have rk':=rk.keepLv lk (w':=wr) (fun a ha=>yb.block a.b (ak.vE.lt ha) (by have:=ak.lo a ha;simp;omega));obtain ⟨p',c',ee,hd⟩:=rk';simp only [Value.slice.injEq] at ee;obtain ⟨rfl,-,-⟩:=ee;rcases hd with hd | ⟨b',o',rfl,hd⟩;{have:=congrArg List.length hd;simp at this;rw [this] at fL;simp at fL};{refine ⟨b',o',rfl,?_⟩;rw [hd k (by simpa using fL)];simp [List.getD_eq_getElem?_getD,hy]}
 have HY:=ae hy;obtain ⟨hC,hO⟩:=aa pK;have cS4:=hC.1 4 _ rfl;have ZN:wr.cell? ⟨b,4,none⟩=some (.map (some bs)):=ay hH 4;obtain ⟨D',n',ZB,I0,ZE⟩:=hSe.own;have XN:=ae (ag ZE (ag fK hI));have hLT:b<w1.heap.size/\bs<w1.heap.size/\gs<w1.heap.size:=by obtain ⟨y1,y2,-⟩:=aa HS _ b1;obtain ⟨_,_,o,_,_⟩:=y2.own;obtain ⟨_,y3,_⟩:=y2.aI k _ gs hy qN;exact ⟨aG y1,o.lt,aG y3⟩
 have HLT:=ae hLT;have hLW:b<w.heap.size/\bs<w.heap.size/\gs<w.heap.size:=aa HLW k _ gs hy qN;have t3b:b≠sb:=ab;have t4b:bs≠sb:=ab;have t5b:gs≠sb:=ab;obtain ⟨vA,aX⟩:=ax wr.drew;have cI:=dG aX;have Xw:=ae (ag (af ZN cI) (ag (ZB.kept (az cI none) aU) (ag (af (ay Yi 0) cI) (ag (af (ay Yi 1) cI) (af (ay Yi 2) cI)))));have RQ:=ae (hru.below cI);have OA:=ae (hO.below xE.keep cI);have CXA:=ae (hC.below (by have:=yb.size;omega) cI);have gA:Hid (w1.grownBy vA (some sb)):=jt yb (az cI none) (fun b e=>by cases e);have XW:=ae (Below.refl vA.heap.size vA);have zxA:sb<vA.heap.size:=by have:=gA.size;omega
 clear yJ L8 VB fL qN hLT hLW cS4;go_wp2_with fail;clear ME;refine bO (fun w'=>w'.cell? ⟨b,4,none⟩=some (.map (some bs))/\w'.ownsMap prog 23 aZ bs n' D'/\w'.cell? ⟨gs,0,none⟩=some (.U I)/\w'.cell? ⟨gs,1,none⟩=some (.I Dl)/\w'.cell? ⟨gs,2,none⟩=some (.S pq nq cq)) (by rw [<-aX];exact aa Xw) fun hS=>?_;rw [<-aX] at hS ⊢;clear aX cI Yi hru fK hI ZB ZE hC hO ZN hH hSe;refine gC 0 2 3 4 hS ?_;refine fe 5 6 hS ?_;refine wpAnyH_take (i:=7) (oi:=_) (v:=?_) (by simp only [List.getElem?_toArray,List.getElem?_cons_succ,List.getElem?_cons_zero];rfl) cW cW cW (fun _ _ _ h=>h) (Or.inl ⟨bU,?_⟩) hS ?_;rotate_left;{(intro w' qi;(try dsimp only at qi);(have hlk:=De qi.2.1 XN.1 XN.2.1 XN.2.2);go_simp;try with_reducible rfl)}
 simp only [Act.put,xa,xb,xc];refine fe 8 9 hS ?_;refine ry [1,10] (cn (fun KK hK=>?_) (cn (fun KK hK=>?_) AllReadyH.nil));have cl:=CXA.1 4 _ rfl;go_simp;refine cg hK (by exact Xw) fun hS=>?_;clear hK KK cl;refine ry [10] (cn (fun KK hK=>?_) AllReadyH.nil)
 all_goals (
  refine ia (xM I Dl pq cq nq Qu ENQ _ (RQ.below XW) hnq Kf) ?_;rintro r v1 ⟨pe,ce,Ae,rfl,JR,IK,BN,bq⟩;refine ⟨_,rfl,?_⟩;have HE1:=ae (ag JR (ag IK (BN.mono (B':=vA.heap.size) XW.size)));obtain ⟨s1,s2,s3,s4,s5⟩:=aa Xw;have Xy:=ae (ag (af s1 bq) (ag (s2.kept (az bq none) aU) (ag (af s3 bq) (ag (af s4 bq) (af s5 bq)))));have UI:=ae (CXA.below ab bq);have qw:=ae (ah XW bq);have zx1:vA.heap.size<=v1.heap.size:=qw.size;clear s1 s2 s3 s4 s5;refine cg hK (by exact Xy) fun hS=>?_;clear hK KK bq JR IK BN
  skip)
 refine ry [11] (cn (fun KK hK=>?_) AllReadyH.nil);rotate_left;refine ry [1,11] (cn (fun KK hK=>?_) (cn (fun KK hK=>?_) AllReadyH.nil));have cl:=UI.1 4 _ rfl;go_simp;refine cg hK (by exact Xy) fun hS=>?_;clear hK KK cl;refine ry [11] (cn (fun KK hK=>?_) AllReadyH.nil)
 all_goals (
  go_simp;obtain ⟨v2,pG⟩:=ax (v1.alloc (.cells #[.U I,.I Dl,.S pe nq ce] 35));have cX:=ju pG;have Wl:∀ j u,([.U I,.I Dl,.S pe nq ce]:List Value)[j]?=some u->v2.cell? ⟨v1.heap.size,j,none⟩=some u:=fun j u hu=>by rw [pG];exact (aq.alloc v1 #[.U I,.I Dl,.S pe nq ce] 35).1 j u (by simpa using hu)
  rw [<-pG];obtain ⟨gE,hgE⟩:=ax v1.heap.size;rw [<-hgE] at Wl ⊢;obtain ⟨JR,IK,BN⟩:=aa HE1;have kE:∀ a∈Ae,v2.heap[a.b]?=v1.heap[a.b]?:=fun a ha=>cX.block _ (BN.vE.lt ha);have EL2:Hid (xE v2 (I,Dl,Qu) [.U I,.I Dl,.S pe nq ce] Ae/\lx vA.heap.size v2 Ae):=⟨⟨pe,ce,by rw [aa ENQ],by rw [aa ENQ];exact JR.keepLv IK kE,by rw [aa ENQ];exact LvE.keep IK kE⟩,BN.keep kE⟩;have Gy:=ae Wl;obtain ⟨s1,s2,s3,s4,s5⟩:=aa Xy;have Xx:=ae (ag (af s1 cX) (ag (s2.kept (az cX none) aU) (ag (af s3 cX) (ag (af s4 cX) (af s5 cX)))));have SR:=ae (UI.below ab cX);have Kj:=ae (ah qw cX);have zx2:vA.heap.size<=v2.heap.size:=Kj.size;clear s1 s2 s3 s4 s5;refine cg hK (by exact Xx) fun hS=>?_;clear hK KK pG cX Wl hgE JR IK BN kE
  skip)
 rotate_left;refine ry [1] (cn (fun KK hK=>?_) AllReadyH.nil);have cl:=SR.1 4 _ rfl;go_simp;refine cg hK (by exact Xx) fun hS=>?_;clear hK KK cl
 all_goals (
  have OC:=OA.below xE.keep Kj;obtain ⟨elC,apC⟩:=aa EL2;obtain ⟨cs,g1,g2,g3,g4,g5,g6,g7⟩:=id OC;have Mq:=OA.lt;have hle:(ss.take k).length<=1048576:=by rw [List.length_take];omega
  have zA1:=gA.size;have zA:w1.heap.size<=v2.heap.size:=ab;refine ry [12] ?_;refine cn (fun KK hK=>?_) ?_;{
 refine jB bU _ _ 24 bU w1.heap.size 35 is _ 3 40 underlying24 his sz0 sz1 sz2 rfl bl Sv _ _ bU g4 gE 1 1 [.U I,.I Dl,.S pe nq ce] bU rfl (aa Gy) (fun u hu=>by simp at hu;rcases hu with rfl | rfl | rfl<;>rfl) jC ab zA ?_;intro v' w9 dW hg mr;have sn:=OwnT.snoc g1 g2 g3 g5 g6 g7 xE.keep elC rfl apC zA1 (fun a ha=>(Mq.2 a ha).2) (fun b hb=>(Mq.1 b hb).2) dW hg mr;rw [<-l9 (aa HY)] at sn;obtain ⟨pN,cN,Ua,-⟩:=id sn.read;obtain ⟨lN,Q7⟩:=ax ((ss.take (k+1)).length);rw [<-Q7] at Ua;subst Ua;clear Q7;have yA:∀ z,z<w1.heap.size->some z≠Sv.ownBlock:=fun z hz e=>by have:=(Mq.1 z e.symm).1;omega
 have fh:w1.grownBy w9 (some sb):=jt (jt gA (az Kj none) (fun b e=>by cases e)) hg (fun b e=>.inl (Mq.1 b e).1);have C9:=SR.grown ab hg (yA sb ab);obtain ⟨t1,t2,t3⟩:=aa HLT;obtain ⟨s1,s2,s3,s4,s5⟩:=aa Xx;have S9:=ae (ag (hg.cell s1 (yA (b) t1)) (ag (s2.kept hg (yA (bs) t2)) (ag (hg.cell s3 (yA (gs) t3)) (ag (hg.cell s4 (yA (gs) t3)) (hg.cell s5 (yA (gs) t3))))));refine cg hK (by exact S9) fun hS=>?_;have SN:=ae sn;have cc:=C9.1 4 _ rfl;have cf:=C9.2;have Xo:=sn.lt;clear hK KK sn dW mr g1 g2 g3 g4 g5 g6 g7 elC apC OC s1 s2 s3 s4 s5;refine tn 13 hS ?_;refine bH 14 fun KK hK=>?_;go_simp;obtain ⟨wT,Xk⟩:=ax (w9.setCell ⟨sb,4,none⟩ (.S pN lN cN));have CT:=C9.dI 4 aU (.S pN lN cN);have Mr:∀ z,z≠sb->wT.heap[z]?=w9.heap[z]?:=fun z hz=>by rw [Xk];exact dF _ _ _ _ hz
 have gT:Hid (w1.grownBy wT (some sb)):=by show World.grownBy _ _ _;rw [Xk];exact gK fh (aE _ _ _)
 have zT:w9.heap.size<=wT.heap.size:=by rw [Xk];simp
 have OT:Hid (OwnT xE 35 3 w1.heap.size wT (.S pN lN cN) (ss.take (k+1)) (Ls++[Ae])):=SN.keep (xE.keep _ _) zT (fun z hz=>Mr z (by have:=(Xo.1 z hz).1;omega)) (fun y hy=>Mr _ (by have:=(Xo.2 y hy).1;omega));rw [<-Xk] at CT ⊢;have Ty:=fun z (hz:z≠sb) o=>ai (Mr z hz) o;obtain ⟨s1,s2,s3,s4,s5⟩:=aa S9;have ST:=ag ((Ty _ t3b _).trans s1) (ag (rO s2 (Mr _ t4b)) (ag ((Ty _ t5b _).trans s3) (ag ((Ty _ t5b _).trans s4) ((Ty _ t5b _).trans s5))));refine cg hK (by exact ST) fun hS=>?_;have CT2:=ae CT;clear hK KK Xk Mr Ty C9 cc cf CT hg fh zT ST s1 s2 s3 s4 s5;refine bu ?_;clear hS Xo Mq;go_wp2;go_roundw
 case rel=>exact ⟨k+1,_,_,ab,by go_num,⟨CT2,OT⟩,gT⟩
 exact dC};exact AllReadyH.nil
  skip)}
 {
 have da:=dy k nk;have Ex:k=nk:=ab;subst Ex;obtain ⟨hC,hO⟩:=aa pK;rw [List.take_of_length_le (by rw [aa ENK];exact Nat.le_refl _)] at hO;obtain ⟨w2,ew2⟩:=ax wr;subst ew2;have R2:=ae (R1.grown ab (aa yb) dx);obtain ⟨pS,cS,evS,-⟩:=id hO.read;obtain ⟨lS,Xo⟩:=ax ss.length;rw [<-Xo] at evS;subst evS;have HLS:=ae Xo;obtain ⟨Ve,A1,Th,Sz⟩:=hO.se;have HA1:=ae fun a ha=>Sz.vE.lt (a:=a) ha;have OS:=ae (ag Ve (ag Th Sz));clear Ve Th Sz;have CS:=ae hC;have z12:=yb.size;obtain ⟨hHd,-,MP⟩:=aa HS _ BB;obtain ⟨DN,nN,oN,hnN,mN⟩:=id MP.own;have k5:w2.cell? ⟨b,5,none⟩=some (.map (some bn)):=ay hHd 5;have MN:=ae mN;clear hO hC Xo hHd mN pK hk bj da R1 C1 HKV yb;go_wp2_with fail;refine (T.iO bn nN DN _ oN (Nat.le_trans oN.size_le hnN)).mono ?_;rintro r w3 ⟨kv,ks,rfl,Ez,Ca,de⟩;obtain rfl:=qH MP hn MN Ez;obtain ⟨pk2,ck2,rfl,xv⟩:=AJ Ca;obtain ⟨Vi,WR⟩:=ax ns.length;rw [<-WR];have ap6:=ae WR;have bm2:Vi<=1048576:=ab;have HKN:=ae xv;have b3:=ah BB de;have z3:=de.size;have C3:=ae (CS.below ab de);have R3:=ae (R2.below ab de);have kS3:∀ a∈A1,w3.heap[a.b]?=w2.heap[a.b]?:=fun a ha=>de.block _ (aa HA1 a ha);have O3:=ae (ag (OS.1.keepLv OS.2.1 kS3) (ag (LvS.keep OS.2.1 kS3) (OS.2.2.keep kS3)));clear xv Ca Ez de k5 MP oN WR CS R2 OS BB kS3;go_wp2_with fail
 go_loopw [56] (fun iv wr=>∃ (k:Nat) (Sv:Value) (Ls:List (List Lf)),k<=Vi/\iv=.I k/\Hid (aq wr sb [.U e,.U g,.U x,.I t,.S pS lS cS,Sv]/\OwnT mT 38 8 w3.heap.size wr Sv (ns.take k) Ls)/\Hid (w3.grownBy wr (some sb))) (fun iv _=>Vi-(intOf iv).toNat)
 case atStart=>exact ⟨0,_,[],Nat.zero_le _,rfl,⟨C3,OwnT.nil _ _ _ _ _⟩,qR _ _⟩
 case round =>(
 obtain ⟨k,Sv,Ls,hk,rfl,pK,yb⟩:=hrel;have BB:=qY b3 yb ab;by_cases bj:k<Vi;{
 have da:=aT k Vi;have fL:k<ns.length:=by rw [<-aa ap6];exact bj
 obtain ⟨nd,hy⟩:∃ y,ns[k]?=some y:=⟨_,aK fL⟩;obtain ⟨hH,-,hNo⟩:=aa HS _ BB;obtain ⟨gs,qN,fK⟩:=xg hNo hy;obtain ⟨Vb,hb,ub,Ra⟩:=hNo.aI k _ gs hy qN;obtain ⟨Cd,uW,OY,Q8,Ya,hl6,hl7⟩:=aa Wn _ (aF hy);obtain ⟨gk,rfl,ME⟩:∃ gk,pk2=some ⟨gk,0,none⟩/\wr.cell? ⟨gk,k,none⟩=some (.string (aC nd.path)):=by rcases aa HKN with h0 | ⟨gk,rfl,h1,h2,h3⟩;{rw [h0] at fL;simp at fL};{exact ⟨gk,rfl,(ai (yb.block gk h2 dx) _).trans (by have:=h3 k nd hy;rwa [Nat.zero_add] at this)⟩}
 have HY:=ae hy;obtain ⟨hC,hO⟩:=aa pK;have ZN:wr.cell? ⟨b,5,none⟩=some (.map (some bn)):=ay hH 5;obtain ⟨D',n',ZB,I0,ZE⟩:=hNo.own;have XN:=ae (ag ZE (ag fK uW));have hLW:b<w.heap.size/\bn<w.heap.size/\gs<w.heap.size:=aa HLN k _ gs hy qN;have hLT:b<w3.heap.size/\bn<w3.heap.size/\gs<w3.heap.size:=by have:=b3.size;omega
 have HLT:=ae hLT;have t3b:b≠sb:=ab;have t4b:bn≠sb:=ab;have t5b:gs≠sb:=ab;obtain ⟨vA,aX⟩:=ax wr.drew;have cI:=dG aX;have Xw:=ae (ag (af ZN cI) (ZB.kept (az cI none) aU));have RQ:=ae (Ra.below cI);have OA:=ae (hO.below mT.keep cI);have CXA:=ae (hC.below (by have:=yb.size;omega) cI);have gA:Hid (w3.grownBy vA (some sb)):=jt yb (az cI none) (fun b e=>by cases e);have XW:=ae (Below.refl vA.heap.size vA);have zxA:sb<vA.heap.size:=by have:=gA.size;omega
 clear fL qN hLT hLW;go_wp2_with fail;clear ME;refine bO (fun w'=>w'.cell? ⟨b,5,none⟩=some (.map (some bn))/\w'.ownsMap prog 9 aZ bn n' D') (by rw [<-aX];exact aa Xw) fun hS=>?_;rw [<-aX] at hS ⊢;clear aX cI Ra fK ZB ZE hC hO ZN hH hNo;refine gC 0 2 3 4 hS ?_;refine fe 5 6 hS ?_;refine wpAnyH_take (i:=7) (oi:=_) (v:=?_) (by simp only [List.getElem?_toArray,List.getElem?_cons_succ,List.getElem?_cons_zero];rfl) cW cW cW (fun _ _ _ h=>h) (Or.inl ⟨bU,?_⟩) hS ?_;rotate_left;{(intro w' qi;(try dsimp only at qi);(have hlk:=Df qi.2 XN.1 XN.2.1 XN.2.2);go_simp;try with_reducible rfl)}
 simp only [Act.put,xa,xb,xc];refine tn 8 hS ?_;refine ry [1,9] (cn (fun KK hK=>?_) (cn (fun KK hK=>?_) AllReadyH.nil));have cl:=CXA.1 5 _ rfl;go_simp;refine cg hK (by exact Xw) fun hS=>?_;clear hK KK cl;refine ry [9] (cn (fun KK hK=>?_) AllReadyH.nil)
 all_goals (
  refine rz (Lm gs hb ub Vb nd _ (RQ.below XW) hl6 hl7 uW OY Q8 Ya Cd) ?_;rintro r v1 ⟨cn,Ae,rfl,YA,BN,bq⟩;obtain ⟨q0,q1,q2,q3,q4,q5,q6,q7,ecn,one⟩:=YA.cells;subst ecn;refine ⟨_,rfl,?_⟩;have HE1:=ae (ag YA (ag one (BN.mono (B':=vA.heap.size) XW.size)));obtain ⟨s1,s2⟩:=aa Xw;have Xy:=ae (ag (af s1 bq) (s2.kept (az bq none) aU));have UI:=ae (CXA.below ab bq);have qw:=ae (ah XW bq);have zx1:vA.heap.size<=v1.heap.size:=qw.size;clear s1 s2;refine cg hK (by exact Xy) fun hS=>?_;clear hK KK bq YA BN one
  skip)
 refine ry [10] (cn (fun KK hK=>?_) AllReadyH.nil);rotate_left;refine ry [1,10] (cn (fun KK hK=>?_) (cn (fun KK hK=>?_) AllReadyH.nil));have cl:=UI.1 5 _ rfl;go_simp;refine cg hK (by exact Xy) fun hS=>?_;clear hK KK cl;refine ry [10] (cn (fun KK hK=>?_) AllReadyH.nil)
 all_goals (
  go_simp;obtain ⟨v2,pG⟩:=ax (v1.alloc (.cells #[q0,q1,q2,q3,q4,q5,q6,q7] 38));have cX:=ju pG;have Wl:∀ j u,([q0,q1,q2,q3,q4,q5,q6,q7]:List Value)[j]?=some u->v2.cell? ⟨v1.heap.size,j,none⟩=some u:=fun j u hu=>by rw [pG];exact (aq.alloc v1 #[q0,q1,q2,q3,q4,q5,q6,q7] 38).1 j u (by simpa using hu)
  rw [<-pG];obtain ⟨gE,hgE⟩:=ax v1.heap.size;rw [<-hgE] at Wl ⊢;obtain ⟨YA,one,BN⟩:=aa HE1;have kE:∀ a∈Ae,v2.heap[a.b]?=v1.heap[a.b]?:=fun a ha=>cX.block _ (BN.vE.lt ha);have EL2:Hid (mT v2 nd [q0,q1,q2,q3,q4,q5,q6,q7] Ae/\lx vA.heap.size v2 Ae):=⟨mT.keep _ _ _ _ _ YA kE,BN.keep kE⟩;have ONE:=ae one;have Gy:=ae Wl;obtain ⟨s1,s2⟩:=aa Xy;have Xx:=ae (ag (af s1 cX) (s2.kept (az cX none) aU));have SR:=ae (UI.below ab cX);have Kj:=ae (ah qw cX);have zx2:vA.heap.size<=v2.heap.size:=Kj.size;clear s1 s2;refine cg hK (by exact Xx) fun hS=>?_;clear hK KK pG cX Wl hgE YA BN kE one
  skip)
 rotate_left;refine ry [1] (cn (fun KK hK=>?_) AllReadyH.nil);have cl:=SR.1 5 _ rfl;go_simp;refine cg hK (by exact Xx) fun hS=>?_;clear hK KK cl
 all_goals (
  have OC:=OA.below mT.keep Kj;obtain ⟨elC,apC⟩:=aa EL2;obtain ⟨cs,g1,g2,g3,g4,g5,g6,g7⟩:=id OC;have Mq:=OA.lt;have hle:(ns.take k).length<=1048576:=by rw [List.length_take];omega
  have zA1:=gA.size;have zA:w3.heap.size<=v2.heap.size:=ab;refine ry [11] ?_;refine cn (fun KK hK=>?_) ?_;{
 refine jB bU _ _ 25 bU w3.heap.size 38 io _ 8 128 underlying25 hio oz0 oz1 oz2 rfl bl Sv _ _ bU g4 gE 1 1 [q0,q1,q2,q3,q4,q5,q6,q7] bU rfl Gy ONE jC ab zA ?_;intro v' w9 dW hg mr;have sn:=OwnT.snoc g1 g2 g3 g5 g6 g7 mT.keep elC rfl apC zA1 (fun a ha=>(Mq.2 a ha).2) (fun b hb=>(Mq.1 b hb).2) dW hg mr;rw [<-l9 (aa HY)] at sn;obtain ⟨pN,cN,Ua,-⟩:=id sn.read;obtain ⟨lN,Q7⟩:=ax ((ns.take (k+1)).length);rw [<-Q7] at Ua;subst Ua;clear Q7;have yA:∀ z,z<w3.heap.size->some z≠Sv.ownBlock:=fun z hz e=>by have:=(Mq.1 z e.symm).1;omega
 have fh:w3.grownBy w9 (some sb):=jt (jt gA (az Kj none) (fun b e=>by cases e)) hg (fun b e=>.inl (Mq.1 b e).1);have C9:=SR.grown ab hg (yA sb ab);obtain ⟨t1,t2,t3⟩:=aa HLT;obtain ⟨s1,s2⟩:=aa Xx;have S9:=ae (ag (hg.cell s1 (yA (b) t1)) (s2.kept hg (yA (bn) t2)));refine cg hK (by exact S9) fun hS=>?_;have SN:=ae sn;have cc:=C9.1 5 _ rfl;have cf:=C9.2;have Xo:=sn.lt;clear hK KK sn dW mr g1 g2 g3 g4 g5 g6 g7 elC apC OC s1 s2;refine tn 12 hS ?_;refine bH 13 fun KK hK=>?_;go_simp;obtain ⟨wT,Xk⟩:=ax (w9.setCell ⟨sb,5,none⟩ (.S pN lN cN));have CT:=C9.dI 5 aU (.S pN lN cN);have Mr:∀ z,z≠sb->wT.heap[z]?=w9.heap[z]?:=fun z hz=>by rw [Xk];exact dF _ _ _ _ hz
 have gT:Hid (w3.grownBy wT (some sb)):=by show World.grownBy _ _ _;rw [Xk];exact gK fh (aE _ _ _)
 have zT:w9.heap.size<=wT.heap.size:=by rw [Xk];simp
 have OT:Hid (OwnT mT 38 8 w3.heap.size wT (.S pN lN cN) (ns.take (k+1)) (Ls++[Ae])):=SN.keep (mT.keep _ _) zT (fun z hz=>Mr z (by have:=(Xo.1 z hz).1;omega)) (fun y hy=>Mr _ (by have:=(Xo.2 y hy).1;omega));rw [<-Xk] at CT ⊢;have Ty:=fun z (hz:z≠sb) o=>ai (Mr z hz) o;obtain ⟨s1,s2⟩:=aa S9;have ST:=ag ((Ty _ t3b _).trans s1) (rO s2 (Mr _ t4b));refine cg hK (by exact ST) fun hS=>?_;have CT2:=ae CT;clear hK KK Xk Mr Ty C9 cc cf CT hg fh zT ST s1 s2;refine bu ?_;clear hS Xo Mq;go_wp2;go_roundw
 case rel=>exact ⟨k+1,_,_,ab,by go_num,⟨CT2,OT⟩,gT⟩
 exact dC};exact AllReadyH.nil
  skip)}
 {
 have da:=dy k Vi;have Ex:k=Vi:=ab;subst Ex;obtain ⟨hC,hO⟩:=aa pK;rw [List.take_of_length_le (by rw [aa ap6];exact Nat.le_refl _)] at hO;obtain ⟨pN,cN,Ua,-⟩:=id hO.read;obtain ⟨lN,Q7⟩:=ax ns.length;rw [<-Q7] at Ua;subst Ua;obtain ⟨rdN,A2,ZF,apN⟩:=hO.no;obtain ⟨Ve,Th,Sz⟩:=aa O3;have R4:=R3.grown ab (aa yb) dx;have c0:=hC.1 0 _ rfl;have c1:=hC.1 1 _ rfl;have c2:=hC.1 2 _ rfl;have c3:=hC.1 3 _ rfl;have c4:=hC.1 4 _ rfl;have c5:=hC.1 5 _ rfl;have r0:=R4.1 0 _ rfl;have r1:=R4.1 1 _ rfl;have r2:=R4.1 2 _ rfl;have r3:=R4.1 3 _ rfl;have r4:=R4.1 4 _ rfl;have r5:=R4.1 5 _ rfl;have rf:=R4.2;have Tn:¬ w.heap.size=sb:=ab;have hsn:¬ sb=w.heap.size:=ab;have YN:=ae (ag rdN (ag ZF apN));have FIS:=ae (ag Ve (ag Th Sz));have bb9:=ae Q7;have z3r:=yb.size;clear rdN ZF apN Ve Th Sz hO hC R4 pK Q7;go_wp2;obtain ⟨rdN,ZF,apN⟩:=aa YN;obtain ⟨Ve,Th,Sz⟩:=aa FIS;obtain ⟨Z,hZ⟩:=ax ((((((wr.setCell ⟨w.heap.size,0,none⟩ (.U e)).setCell ⟨w.heap.size,1,none⟩ (.U g)).setCell ⟨w.heap.size,2,none⟩ (.U x)).setCell ⟨w.heap.size,3,none⟩ (.I t)).setCell ⟨w.heap.size,4,none⟩ (.S pS lS cS)).setCell ⟨w.heap.size,5,none⟩ (.S pN lN cN));have Xp:∀ z,z≠w.heap.size->Z.heap[z]?=wr.heap[z]?:=fun z hz=>by
  rw [hZ]
  iterate 6 rw [dF _ _ _ _ hz]
 have k1:∀ a∈A1,Z.heap[a.b]?=w3.heap[a.b]?:=fun a ha=>by have h1:=aa HA1 a ha;have h2:=Sz.lo a ha;rw [Xp _ ab];exact yb.block _ ab dx
 have k2:∀ a∈A2,Z.heap[a.b]?=wr.heap[a.b]?:=fun a ha=>by have h2:=apN.lo a ha;exact Xp _ (by have:=b3.size;omega)
 have Yk:Bw w Z:=by rw [hZ];exact (((((BB.setCell aA _).setCell aA _).setCell aA _).setCell aA _).setCell aA _).setCell aA _
 have eS:=aa HLS;have eN:=aa bb9;refine bodyPost_ret (v:=cY e g x t (.S pS lS cS) (.S pN lN cN)) (by simp [results,results38,go_sem,r0,r1,r2,r3,r4,r5,c0,c1,c2,c3,c4,c5]) rfl ?_;rw [<-hZ];subst eS eN;refine ⟨pS,cS,pN,cN,rfl,Ve.keepLv Th k1,rdN.keepLv ZF k2,A1,LvS.keep Th k1,A2,LvN.keep ZF k2,?_,Yk⟩;exact ((Sz.keep k1).app (apN.keep k2) ab (fun a ha=>by have:=aa HA1 a ha;omega)).mono ab})})
theorem GX {α:Type} {R:α->α->Prop} {l:List α} (h:∀ (i j:Nat) (a b:α),l[i]?=some a->l[j]?=some b->i<j->R a b):l.Pairwise R:=by
 rw [List.pairwise_iff_getElem];intro i j hi hj jc;exact h i j _ _ (aK hi) (aK hj) jc
theorem Qh (h:jh x ss=true):ss.Pairwise (fun s s'=>s.1<s'.1):=by
 refine GX fun i j s s' hi hj jc=>?_;rw [jh,Bool.and_eq_true] at h;have:=sP h.2 (fun i j k h1 h2=>by simp at h1 h2 ⊢;omega) j i (aN.1 hj).1 jc;simpa only [List.getD_eq_getElem?_getD,hi,hj,Option.getD_some,decide_eq_true_eq] using this
theorem QA (h:jk e g ns=true):(ns.map fun nd=>ko nd.path).Pairwise (·<·):=by
 rw [List.pairwise_map];refine GX fun i j s s' hi hj jc=>?_;rw [jk,Bool.and_eq_true] at h;have:=sP h.2 (fun i j k h1 h2=>oQ.2 (sO (oQ.1 h1) (oQ.1 h2))) j i (aN.1 hj).1 jc;simp only [List.getD_eq_getElem?_getD,hi,hj,Option.getD_some] at this;rw [oQ,T.j9,decide_eq_true_eq,dR,dR] at this;exact this
theorem Eh {l:List Int} (h:Nz l=true):l.Pairwise (·<·):=by
 refine GX fun i j s s' hi hj jc=>?_;rw [Nz] at h;have:=sP h (fun i j k h1 h2=>by simp at h1 h2 ⊢;omega) j i (aN.1 hj).1 jc;simpa only [List.getD_eq_getElem?_getD,hi,hj,Option.getD_some,decide_eq_true_eq] using this
theorem CM (h:jk e g ns=true):∀ nd∈ns,nd.holders.Pairwise (·<·)/\nd.watchers.Pairwise (·<·):=by
 intro nd aV;rw [jk,Bool.and_eq_true] at h;have h1:∀ y∈ns,tz e g y=true:=(mH ns fq (tz e g)).1 fun i hi=>List.all_eq_true.1 h.1 i (List.mem_range.2 hi);have:=h1 nd aV;simp only [tz,Bool.and_eq_true] at this;exact ⟨Eh this.2.2.2.1,Eh this.2.2.2.2⟩
structure Uy (ss:List aY) (ns:List aD):Prop where
 s1:ss.Pairwise (fun s s'=>s.1<s'.1)
 n1:(ns.map fun nd=>ko nd.path).Pairwise (·<·)
 s2:∀ s∈ss,(0<=s.1/\s.1<18446744073709551616)/\s.2.2.length<=1048576/\∀ e∈s.2.2,e.2.length<=1048576
 n2:∀ nd∈ns,bM nd.path/\nd.path.length<=1048576/\nd.value.length<=1048576/\nd.holders.length<=1048576/\nd.watchers.length<=1048576/\nd.holders.Pairwise (·<·)/\nd.watchers.Pairwise (·<·)
 s3:∀ (i j:Nat) (s s':aY),ss[i]?=some s->ss[j]?=some s'->i<j->s.1≠s'.1
 n3:∀ (i j:Nat) (z z':aD),ns[i]?=some z->ns[j]?=some z'->i<j->z.path≠z'.path
theorem RS (h:jY e g x t ss ns=true) (nO:∀ s∈ss,s.2.2.length<=1048576/\∀ e∈s.2.2,bM e.2/\e.2.length<=1048576)
  (fI:∀ nd∈ns,bM nd.path/\nd.path.length<=1048576/\nd.value.length<=1048576/\nd.holders.length<=1048576/\nd.watchers.length<=1048576):Uy ss ns:=by
 obtain ⟨h1,h2,h3,h4,h5⟩:=(Cv e g x t ss ns).1 h;have hx:x<=4611686018427387904:=by simp only [wS,decide_eq_true_eq] at h1;exact h1.2.2.1
 refine ⟨Qh h2,QA h3,fun s hs=>⟨GO h2 hx s hs,(nO s hs).1,fun e he=>((nO s hs).2 e he).2⟩,fun nd aV=>?_,yY h2,zy h3⟩;obtain ⟨a,b,c,d,f⟩:=fI nd aV;exact ⟨a,b,c,d,f,(CM h3 nd aV).1,(CM h3 nd aV).2⟩
theorem al1 {w0 w:World} {SB NB HB UB:List Nat} (h:kc w0 w b bs bn e g x t ss ns SB NB HB UB) (hb:Bw w0 w) (l1:ss.length<=1048576) (l2:ns.length<=1048576):Sto w b bs bn e g x t ss ns SB NB:=by
 refine ⟨h.hd,⟨h.ses.len,?_,fun i s gb hs hg=>?_⟩,⟨h.me.len,?_,fun i nd gb hs hg=>?_⟩⟩;{obtain ⟨D,o,m⟩:=h.ses.own;exact ⟨D,_,o,l1,m⟩};{obtain ⟨-,u,q1,q2⟩:=h.ses.aI i s gb hs hg;exact ⟨u,q1,q2.below hb⟩};{obtain ⟨D,o,m⟩:=h.me.own;exact ⟨D,_,o,l2,m⟩};{have hi:=(aN.1 hs).1;obtain ⟨hh,jT⟩:∃ y,HB[i]?=some y:=⟨_,aK (by rw [h.me.Fp];exact hi)⟩;obtain ⟨uu,jX⟩:∃ y,UB[i]?=some y:=⟨_,aK (by rw [h.me.Fo];exact hi)⟩;obtain ⟨-,-,-,⟨V,q1,q2⟩,q3,q4⟩:=h.me.aI i nd gb hh uu hs hg jT jX;exact ⟨V,hh,uu,q1,q2.below hb,q3,q4⟩}
theorem tQ (ss:List aY) (id:Int) (ev:Ev):(jG ss id ev).map (·.1)=ss.map (·.1):=by
 unfold jG;rw [List.map_map];refine List.map_congr_left fun s _=>?_;simp only [Function.comp];split<;>rfl
theorem kh (ids:List Int) (ev:Ev):∀ ss:List aY,(fN ss ids ev).map (·.1)=ss.map (·.1):=by
 unfold fN
 induction ids with
 | nil=>intro ss;rfl
 | cons a r ih=>intro ss;rw [List.foldl_cons,ih,tQ]
theorem ly {id x:Int}:x∈lQ s id↔x∈s/\x≠id:=by
 unfold lQ;simp
theorem U9 {id:Int} (h:s.Pairwise (·<·)):(lQ s id).Pairwise (·<·):=h.filter _
theorem nY:∀ {s:List Int} {id x:Int},x∈ig s id↔x=id\/x∈s
 | [],id,x=>by simp [ig]
 | y::r,id,x=>by
  unfold ig;split;{rw [List.mem_cons,ly];by_cases e:x=id<;>simp [e]}
  {rw [List.mem_cons,nY,List.mem_cons];constructor;{rintro (h | h | h);{exact .inr (.inl h)};{exact .inl h};{exact .inr (.inr h)}};{rintro (h | h | h);{exact .inr (.inl h)};{exact .inl h};{exact .inr (.inr h)}}}
theorem yQ:∀ {s:List Int} {id:Int},s.Pairwise (·<·)->(ig s id).Pairwise (·<·)
 | [],id,_=>by simp [ig]
 | y::r,id,h=>by
  unfold ig;obtain ⟨h1,h2⟩:=List.pairwise_cons.1 h;split;{
 rename_i hle
 refine List.pairwise_cons.2 ⟨fun z hz=>?_,U9 h⟩;obtain ⟨iT,jW⟩:=ly.1 hz;rcases List.mem_cons.1 iT with rfl | iT;{omega};{have:=h1 z iT;omega}};{
 rename_i hle
 refine List.pairwise_cons.2 ⟨fun z hz=>?_,yQ h2⟩;rcases nY.1 hz with rfl | hz;{omega};{exact h1 z hz}}
theorem EF (s:List Int) (id:Int):(ig s id).length<=s.length+1:=by
 induction s with
 | nil=>simp [ig]
 | cons y r ih=>
  unfold ig;split;{have:=nW (y::r) id;simp at this ⊢;omega};{simp;omega}
theorem kk {k:Nat} {nd':aD} (hk:ns[k]?=some nd) (hp:nd'.path=nd.path):(ns.set k nd').map (·.path)=ns.map (·.path):=by
 rw [List.map_set,hp];exact kN (by rw [List.getElem?_map,hk];rfl)
theorem xG {α:Type} (l:List α) (k:Nat) (hk:k<l.length):(l.eraseIdx k).drop k=l.drop (k+1):=by
 rw [List.eraseIdx_eq_take_drop_succ,List.drop_append,List.drop_take];simp [show min k l.length=k by omega]
end Go.Proofs.YtcfcafeciggjeaaGreatDoor
