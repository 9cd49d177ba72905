import Derived.Test.YtcfcafeciggjeaaGreatDoorDW4
namespace Go.Proofs.YtcfcafeciggjeaaGreatDoor
set_option maxHeartbeats 6400000
set_option linter.all false
set_option maxRecDepth 100000
open Go.ChangeShapes Go.WideShapes Go.ChangeAt Go.RowKit Go.Deep
variable {B c g rb sb t:Nat} {D:SD} {cd l:List Int} {ns:List aD} {p:Option Addr} {v:Value} {vs:List Value}
theorem RT.ZL {α:Type} {el el':World->α->List Value->Prop} {ty:TypeId} {sz:Nat} {w w':World} {xs:List α} (h:RT el ty sz B w v xs) (pL:∀ x∈xs,∀ c,el w x c->el' w' x c) (hr:∀ b,v.ownBlock=some b->w'.heap[b]?=w.heap[b]?):RT el' ty sz B w' v xs:=by
 obtain ⟨cs,h1,h2,h3,h4⟩:=h;refine ⟨cs,h1,h2,⟨h3.1,?_⟩,fun i x c hx hc=>pL x (aF hx) c (h4 i x c hx hc)⟩;rcases h3.2 with hn | ⟨g,cap,cur,rfl,hb,hg,rest⟩;{exact .inl hn};{exact .inr ⟨g,cap,cur,rfl,hb,(hr g rfl).trans hg,rest⟩}
def TW (w:World) (v:Value) (l:List Int):Prop:=nH w v l/\∀ b,v.ownBlock=some b->∃ cur,w.heap[b]?=some (.cells cur 23)
theorem TU.tw {w:World} (h:TU B w v l):TW w v l:=⟨h.1,h.2.1⟩
theorem TW.fr {T:List TypeId} {w w':World} (h:TW w v l) (hf:Fr T w w') (ht:23∉T:=by decide):TW w' v l:=by
 obtain ⟨⟨p,c,rfl,hd⟩,h2⟩:=h;have hk:∀ b,(Value.slice p l.length c).ownBlock=some b->w'.heap[b]?=w.heap[b]?:=fun b e=>by obtain ⟨cur,hb⟩:=h2 b e;exact (hf.2 b cur _ _ ht hb).trans hb.symm
 refine ⟨⟨p,c,rfl,?_⟩,fun b e=>?_⟩;{rcases hd with hd | ⟨b,o,rfl,hd⟩;{exact .inl hd};{exact .inr ⟨b,o,rfl,fun i hi=>(ai (hk b rfl) _).trans (hd i hi)⟩}};{obtain ⟨cur,hb⟩:=h2 b e;exact ⟨cur,(hk b e).trans hb⟩}
def xF (w:World) (nd:aD) (c:List Value):Prop:=∃ P V H U,c=[P,V,.U nd.owner,.I nd.mode,H,.U nd.aB,.U nd.gen,U]/\TB w P nd.path/\TB w V nd.value/\TW w H nd.holders/\TW w U nd.watchers
abbrev Ig (B:Nat) (w:World) (v:Value) (ns:List aD):Prop:=RT xF 38 8 B w v ns
theorem xF.fr {T:List TypeId} {w w':World} (hf:Fr T w w') (ht:5∉T) (hu:23∉T) (x:aD) (c:List Value) (h:xF w x c):xF w' x c:=by
 obtain ⟨P,V,H,U,e,h1,h2,h3,h4⟩:=h;exact ⟨P,V,H,U,e,h1.fr hf ht,h2.fr hf ht,h3.fr hf hu,h4.fr hf hu⟩
theorem Ig.fr {T:List TypeId} {w w':World} (h:Ig B w v ns) (hf:Fr T w w') (ht:5∉T/\23∉T/\38∉T:=by decide):Ig B w' v ns:=
 RT.fr h hf ht.2.2 (xF.fr hf ht.1 ht.2.1)
theorem Ig.Td {w:World} (h:Ig B w v ns):kJ w v ns:=by
 obtain ⟨p,c,rfl,-,-,hp⟩:=RT.form h;refine ⟨p,c,rfl,?_⟩;by_cases h0:ns=[];{exact .inl h0};{obtain ⟨g,rfl⟩:=hp (List.length_pos_iff.2 h0);refine .inr ⟨g,0,rfl,fun i nd hi=>?_⟩;obtain ⟨cs,-,⟨P,V,H,U,rfl,h1,h2,h3,h4⟩,la,hf⟩:=RT.at h hi;rw [Nat.zero_add];exact ⟨P,V,H,U,la 0 _ rfl,la 1 _ rfl,la 2 _ rfl,la 3 _ rfl,la 4 _ rfl,la 5 _ rfl,la 6 _ rfl,la 7 _ rfl,h1.1,h2.1,h3.1,h4.1,h1.2.2⟩}
abbrev LX:List TypeId:=[27,29,41,117]
abbrev Kx (w w':World):Prop:=Fr LX w w'
theorem SpS.kx {w w':World} {ss:List aY} {Qs:List Value} (h:SpS B w v ss Qs) (hk:Kx w w'):ic w' v ss:=(h.fr hk).Zv
theorem Ig.kx {w w':World} (h:Ig B w v ns) (hk:Kx w w'):kJ w' v ns:=(Ig.fr h hk).Td
theorem bS.kx {B0:Nat} {w w':World} (h:bS B0 B w v ns) (hk:Kx w w'):kJ w' v ns:=bS.Td (bS.fr h hk)
theorem Kx.pre {w w1 w':World} {T:List TypeId} (f:Fr T w w1) (h:Kx w1 w') (hs:∀ t∈T,t∈LX:=by decide):Kx w w':=(f.sub hs).trans h
open Go.Proofs.Tryz
structure UE (D:SD):Prop where
 e:0<=D.e/\D.e<18446744073709551616
 g:0<=D.g/\D.g<18446744073709551616
 x:0<=D.x/\D.x<18446744073709551616
 sl:D.ss.length<=1000
 nl:D.ns.length<=1000
 s:∀ s∈D.ss,s.2.2.length<=1000/\∀ e∈s.2.2,bM e.2/\e.2.length<=1000
 n:∀ nd∈D.ns,bM nd.path/\nd.path.length<=1000/\nd.value.length<=1000/\bM nd.value/\nd.holders.length<=1000/\nd.watchers.length<=1000
structure BD (D:SD):Prop extends UE D where
 m:Sn D.ss D.ns
theorem VD.ids (h:VD D) (hp:l.Pairwise (·<·)) (hm:∀ i∈l,i∈iD D.ss):l.length<=50:=by
 have:=vD l (iD D.ss) (hp.imp (fun FR e=>ab)) hm;have:=h.sl;unfold iD at *;rw [List.length_map] at *;omega
theorem SV.q {x:Int} {s:aY} (h:SV x s):s.2.2.length<=8/\∀ e∈s.2.2,bM e.2/\e.2.length<=136:=by
 have q:=h.2.2.1;unfold fy at q;simp only [Bool.and_eq_true,decide_eq_true_eq,List.all_eq_true,List.mem_range] at q;refine ⟨q.1,fun e he=>⟨h.2.2.2 e he,?_⟩⟩;obtain ⟨i,hi⟩:=List.mem_iff_getElem?.1 he;have h1:=q.2 i (aN.1 hi).1;rw [List.getD_eq_getElem?_getD,hi,Option.getD_some] at h1;unfold iy at h1;split at h1;{simp only [Bool.and_eq_true,beq_iff_eq] at h1;omega};{simp only [Bool.and_eq_true] at h1;exact nZ h1.2.2}
theorem VD.bd1 (h:VD D) (he:0<=D.e):UE D:=by
 have h1:=h.e;have h2:=h.g;have h3:=h.x;have h4:=h.sl;have h5:=h.nl;refine ⟨⟨he,ab⟩,⟨h2.1,ab⟩,⟨h3.1,ab⟩,ab,ab,fun s hs=>?_,fun nd aV=>?_⟩;{obtain ⟨q1,q2⟩:=(h.s2 s hs).q;exact ⟨ab,fun e he=>⟨(q2 e he).1,by have:=(q2 e he).2;omega⟩⟩};{have hn:=h.n2 nd aV;have a1:=nZ hn.vp;have a2:=hn.va;have a3:=h.ids hn.h1 hn.h2;have a4:=h.ids hn.w1 hn.w2;exact ⟨hn.pb,ab,ab,hn.vb,ab,ab⟩}
theorem VD.smw (h:VD D) (he:UD D):Sn D.ss D.ns:=by
 have hx:=h.x;have hg:=h.g;have h1:=h.e;have h4:=h.sl;have h5:=h.nl;have hi:∀ i∈iD D.ss,0<=i/\i<18446744073709551616:=fun i hi=>by obtain ⟨s,hs,rfl⟩:=List.mem_map.1 hi;have:=(h.s2 s hs).1;omega
 refine ⟨ab,ab,fun s hs=>hi _ (List.mem_map.2 ⟨s,hs,rfl⟩),fun nd aV=>?_⟩;have hn:=h.n2 nd aV;have a1:=nZ hn.vp;have a2:=hn.va;have a3:=h.ids hn.h1 hn.h2;have e0:=he.2 nd aV;have ow:0<=nd.owner/\nd.owner<18446744073709551616:=by rcases hn.ow with e | e;{omega};{exact hi _ e}
 have lk:=hn.lk;unfold dN at lk;have ml:(0<=nd.mode/\nd.mode<=3)/\nd.aB<18446744073709551616/\0<=nd.gen/\nd.gen<18446744073709551616:=by
  split at lk;{simp only [Bool.and_eq_true,decide_eq_true_eq] at lk;omega};{
 simp only [Bool.and_eq_true,beq_iff_eq] at lk;obtain ⟨b1,b2,b3⟩:=lk;have:0<=nd.mode/\nd.mode<=3:=by split at b3;{omega};{simp only [Bool.and_eq_true,beq_iff_eq] at b3;omega}
 omega}
 exact ⟨⟨ab,ab,ab⟩,ml.1,ow,⟨e0,ml.2.1⟩,ml.2.2,fun i O0=>hi i (hn.h2 i O0)⟩
theorem VD.bd (h:VD D) (he:UD D):BD D:=⟨h.bd1 he.1,h.smw he⟩
def xz (g:Nat) (w w':World):Prop:=(w'.os=w.os/\w'.tape=w.tape/\w'.output=w.output)/\w.heap.size<=w'.heap.size/\∀ b,b≠g->b<w.heap.size->w'.heap[b]?=w.heap[b]?
theorem Dr.z {w w':World} (h:Dr g w w'):xz g w w':=⟨⟨h.2.1.os,h.2.1.tape,h.2.1.output⟩,h.2.1.size,h.2.2⟩
theorem xz.tr {w w1 w2:World} (h:xz g w w1) (h1:w2.os=w1.os/\w2.tape=w1.tape/\w2.output=w1.output) (hz:w1.heap.size<=w2.heap.size) (hk:∀ b,b≠g->b<w.heap.size->w2.heap[b]?=w1.heap[b]?):xz g w w2:=
 ⟨⟨h1.1.trans h.1.1,h1.2.1.trans h.1.2.1,h1.2.2.trans h.1.2.2⟩,Nat.le_trans h.2.1 hz,fun b hb hl=>(hk b hb hl).trans (h.2.2 b hb hl)⟩
theorem xz.trans {w w1 w2:World} (h:xz g w w1) (h2:xz g w1 w2):xz g w w2:=h.tr h2.1 h2.2.1 fun b hb hl=>h2.2.2 b hb (by have:=h.2.1;omega)
theorem xz.dr {w w1 w2:World} (h:xz g w w1) (d:Dr g w1 w2):xz g w w2:=h.tr ⟨d.2.1.os,d.2.1.tape,d.2.1.output⟩ d.2.1.size fun b hb hl=>d.2.2 b hb (by have:=h.2.1;omega)
theorem xz.add {w w1 w2:World} (h:xz g w w1) (h2:Below w.heap.size w1 w2):xz g w w2:=h.tr ⟨h2.os,h2.tape,h2.output⟩ h2.size fun b _ hl=>h2.block b hl
structure RA (w0 w:World) (sb rb g:Nat) (p:Option Addr) (cd:List Int) (c t:Nat) (vs:List Value):Prop where
 box:BX w sb vs
 res:BX w rb [.U 0,.U 0,.U 0,.I 0,.S none 0 0,.S none 0 0]
 jP:lu w g p cd c t
 dr:xz g w0 w
 ne:rb≠sb
 lo:w0.heap.size<=sb/\w0.heap.size<=rb
 gl:g<w0.heap.size
theorem RA.fr {T:List TypeId} {w0 w w1:World} (h:RA w0 w sb rb g p cd c t vs) (hf:Fr T w w1) (ht:27∉T) (hb:Below w0.heap.size w w1):RA w0 w1 sb rb g p cd c t vs:=
 ⟨h.box.fr hf ht,h.res.fr hf ht,h.jP.low hb h.gl,h.dr.add hb,h.ne,h.lo,h.gl⟩
theorem RA.draw {w0 w w1:World} {t':Nat} (h:RA w0 w sb rb g p cd c t vs) (hd:lu w1 g p cd c t') (d:Dr g w w1):RA w0 w1 sb rb g p cd c t' vs:=
 ⟨h.box.fr d.1,h.res.fr d.1,hd,h.dr.dr d,h.ne,h.lo,h.gl⟩
theorem RA.below {w0 w w1:World} (h:RA w0 w sb rb g p cd c t vs) (b:Bw w w1):RA w0 w1 sb rb g p cd c t vs:=h.draw (h.jP.low b h.jP.lt) (Dr.below b h.jP.lt)
theorem RA.set {w0 w:World} (h:RA w0 w sb rb g p cd c t vs) (j:Nat) (hj:j<vs.length) (u:Value):RA w0 (w.setCell ⟨sb,j,none⟩ u) sb rb g p cd c t (vs.set j u)/\Fr [27] w (w.setCell ⟨sb,j,none⟩ u):=by
 have ts:=bf (j:=j) (u:=u) h.box.2;have b2:Below sb w (w.setCell ⟨sb,j,none⟩ u):=aJ.setCell (p:=⟨sb,j,none⟩) aA _;exact ⟨⟨⟨h.box.1.dI j hj _,ts.1⟩,h.res.qz h.ne,h.jP.low (b2.mono h.lo.1) h.gl,h.dr.add (b2.mono h.lo.1),h.ne,h.lo,h.gl⟩,ts.2⟩
theorem RA.fin {w0 w:World} (h:RA w0 w sb rb g p cd c t vs) {v0 v1 v2 v3 v4 v5:Value} {Z:World} (hZ:Z=bg w rb v0 v1 v2 v3 v4 v5):BX Z rb [v0,v1,v2,v3,v4,v5]/\Fr [27] w Z/\lu Z g p cd c t/\xz g w0 Z:=by
 subst hZ;obtain ⟨cur,hc⟩:=h.res.2;have b2:=bt w rb v0 v1 v2 v3 v4 v5;exact ⟨h.res.put _ _ _ _ _ _,dT hc,h.jP.low (b2.mono h.lo.2) h.gl,h.dr.add (b2.mono h.lo.2)⟩
def JP (m:Nat):List aY:=(List.range m).map fun (i:Nat)=>((i:Int)+1,(i:Int),[])
def Kn (n:Nat):List aD:=(List.range n).map fun (i:Nat)=>gj [47,97+(i:Int) / 26,97+(i:Int) % 26] [] 0
theorem Ao (m:Nat):(JP m).length=m:=by simp [JP]
theorem Ap (m:Nat):(Kn m).length=m:=by simp [Kn]
theorem Kl (m:Nat):JP (m+1)=JP m++[((m:Int)+1,(m:Int),[])]:=by simp [JP,List.range_succ]
theorem Km (m:Nat):Kn (m+1)=Kn m++[gj [47,97+(m:Int) / 26,97+(m:Int) % 26] [] 0]:=by simp [Kn,List.range_succ]
theorem ak6 (m n:Nat) (hm:m<=500) (hn:n<=500):UE ⟨1,0,m,0,JP m,Kn n⟩:=by
 refine ⟨⟨by show (0:Int)<=1;decide,by show (1:Int)<18446744073709551616;decide⟩,⟨Int.le_refl _,by show (0:Int)<18446744073709551616;decide⟩,by show 0<=(m:Int)/\(m:Int)<18446744073709551616;omega,by show (JP m).length<=_;rw [Ao];omega,by show (Kn n).length<=_;rw [Ap];omega,fun s hs=>?_,fun nd aV=>?_⟩;{obtain ⟨i,-,rfl⟩:=List.mem_map.1 hs;exact ⟨Nat.zero_le _,fun e he=>by simp at he⟩};{obtain ⟨i,hi,rfl⟩:=List.mem_map.1 aV;have:=List.mem_range.1 hi;refine ⟨fun z hz=>?_,by simp [gj],by simp [gj],fun z hz=>by simp [gj] at hz,by simp [gj],by simp [gj]⟩;simp [gj] at hz;omega}
theorem YU (m n:Nat) (hm:m<=51) (hn:n<=201):BD ⟨1,0,m,0,JP m,Kn n⟩:=⟨ak6 m n (by omega) (by omega),by show (JP m).length<=_;rw [Ao];exact hm,by show (Kn n).length<=_;rw [Ap];exact hn,fun s hs=>by
 obtain ⟨i,hi,rfl⟩:=List.mem_map.1 hs;have:=List.mem_range.1 hi;show 0<=(i:Int)+1/\(i:Int)+1<18446744073709551616;omega,fun nd aV=>by
 obtain ⟨i,hi,rfl⟩:=List.mem_map.1 aV;simp [NM,gj]⟩
def DSf (f:FuncId) (cd:List Int) (t:Nat) (D:SD):Prop:=
 ∀ (g:Nat) (p:Option Addr) (c:Nat) (w:World),lu w g p cd c t->Calls prog f #[.pointer (some ⟨g,0,none⟩)] w fun r w'=>∃ ps cs qs ds,r=.returned (cY D.e D.g D.x D.t (.S ps D.ss.length cs) (.S qs D.ns.length ds))/\(∀ w2,Kx w' w2->ic w2 (.S ps D.ss.length cs) D.ss/\kJ w2 (.S qs D.ns.length ds) D.ns)/\xz g w w'
def DSp (cd:List Int) (t:Nat) (D D':SD):Prop:=
 ∀ (g:Nat) (p:Option Addr) (c:Nat) (w0 w:World) (ps:Option Addr) (cs:Nat) (qs:Option Addr) (ds:Nat) (Qs:List Value),lu w g p cd c t->g<w0.heap.size->xz g w0 w->SpS w0.heap.size w (.S ps D.ss.length cs) D.ss Qs->SpN w0.heap.size w (.S qs D.ns.length ds) D.ns->Calls prog 84 #[cY D.e D.g D.x D.t (.S ps D.ss.length cs) (.S qs D.ns.length ds),.pointer (some ⟨g,0,none⟩)] w fun r w'=>∃ Qm Sf Zy ds',r=.returned (cY D'.e D'.g D'.x D'.t (.S Qm D'.ss.length Sf) (.S Zy D'.ns.length ds'))/\(∀ w2,Kx w' w2->ic w2 (.S Qm D'.ss.length Sf) D'.ss/\kJ w2 (.S Zy D'.ns.length ds') D'.ns)/\xz g w0 w'
theorem Kk (cd:List Int) (t:Nat) (hb:bM cd) (hl:cd.length<=500):∃ D,BD D/\DSf 82 cd t D:=by
 have r0:=cG cd hb t;obtain ⟨x,ex⟩:=aL (cd.getD t 0);rw [aa ex] at r0;obtain ⟨m,n,em,en,hm,hn⟩:∃ m n:Nat,Hid ((if x % 2=0 then 2 else 49+x / 2 % 3)=(m:Int))/\Hid ((if x % 2=0 then 199+x / 2 % 3 else 2)=(n:Int))/\m<=51/\n<=201:=by by_cases h:x % 2=0;{exact ⟨2,(199+x / 2 % 3).toNat,by show _=_;rw [if_pos h];rfl,by show _=_;rw [if_pos h];omega,ab,ab⟩};{exact ⟨(49+x / 2 % 3).toNat,2,by show _=_;rw [if_neg h];omega,by show _=_;rw [if_neg h];rfl,ab,ab⟩}
 refine ⟨⟨1,0,m,0,JP m,Kn n⟩,YU m n ab ab,?_⟩;intro g p c w h;have mn:=h.lt;obtain ⟨W0,dh,b0,z0,C0⟩:=iq w;have hr0:=h.low b0 mn;have PC:=ae (ag C0 (Dr.below b0 mn));clear b0 C0;go_enter func82,ntmps82;go_wp2_with fail;rw [<-dh];clear dh;refine (fD g p cd c t W0 hr0 hb hl).mono ?_;rintro r w1 ⟨rfl,h1,d1⟩;rw [aa ex];have z1:=d1.2.1.size;obtain ⟨W2,iL,b2,z2,C2⟩:=ft w1 (.U 1) (.U 0) (.U 0) (.I 0) (.S none 0 0) (.S none 0 0);obtain ⟨sb,tX⟩:=aH w1.heap.size;have H0:Hid (RA w W2 sb w.heap.size g p cd c (t+1) [.U 1,.U 0,.U 0,.I 0,.S none 0 0,.S none 0 0]):=by rw [<-tX];exact ⟨C2,(PC.1.fr d1.1).below b2,h1.low b2 h1.lt,((PC.2.trans d1).trans (Dr.below b2 ab)).z,ab,⟨ab,Nat.le_refl _⟩,mn⟩
 have xW:=ae tX;clear tX b2 z2 C2 d1 h1 hr0 h z0 PC z1
 go_upto_if 19 with fail
 rw [<-iL];rw [aa xW];clear xW iL
 go_cut [5,6] (fun nv mv wc=>nv=.I n/\mv=.I m/\wc=W2)
 case first =>(
 have e1:=aa em;have e2:=aa en;by_cases h:x % 2=0;{
 rw [if_pos h] at e1 e2;have Rc:(x % 2==0)=true:=by simp [h]
 have E1:=ae e1;have E2:=ae e2;clear e1 e2;go_wp2;go_meet
 case rel=>exact ⟨by rw [<-aa E2],by rw [<-aa E1],rfl⟩}
 {
 rw [if_neg h] at e1 e2;have Rc:(x % 2==0)=false:=by simp [h]
 have E1:=ae e1;have E2:=ae e2;clear e1 e2;go_wp2;go_meet
 case rel=>exact ⟨by rw [<-aa E2],by rw [<-aa E1],rfl⟩})
 case rest=>
 obtain ⟨rfl,rfl,Hg⟩:=hcut;rw [Hg];clear Hg wc;go_wp2
 go_loopw [7] (fun iv wr=>∃ (k:Nat) (ps:Option Addr) (cs:Nat) (Qs:List Value),k<=m/\iv=.I k/\Hid (RA w wr sb w.heap.size g p cd c (t+1) [.U 1,.U 0,.U k,.I 0,.S ps k cs,.S none 0 0])/\Hid (SpS w.heap.size wr (.S ps k cs) (JP k) Qs)) (fun iv _=>m-(intOf iv).toNat)
 case atStart=>exact ⟨0,none,0,[],ab,rfl,H0,SpS.nil _ _⟩
 case round =>(
 clear H0;obtain ⟨k,ps,cs,Qs,hk,rfl,HR,HS⟩:=hrel;have hwl:=HR.dr.2.1;by_cases bj:k<m;{
 have da:=aT k m;obtain ⟨q0,q1,q2,q3,q4,q5,qf⟩:=HR.box.cells;have wk:IntKind.u64.wrap ((k:Int)+1)=(k:Int)+1:=IntWalk.u64_in _ ab;obtain ⟨X,hX⟩:∃ X,X=wr.setCell ⟨sb,2,none⟩ (.U ((k:Int)+1)):=⟨_,rfl⟩;obtain ⟨RX,fX⟩:=HR.set 2 aU (.U ((k:Int)+1));rw [<-hX] at RX fX;obtain ⟨Y,hY,bY,zY,CY,-⟩:=aj X #[.U ((k:Int)+1),.I k,.S none 0 0] 35;have zX:X.heap.size=wr.heap.size:=by rw [hX];simp
 rw [zX] at CY zY;have HY:=ae (ag (RX.below bY) (ag ((HS.fr fX).fr (al bY)) (ag CY.1 zY)));have lz:Hid (((JP k).zip Qs).length=k):=by show _=_;rw [List.length_zip,HS.len,Ao];simp
 have yB:Hid (∀ b,(Value.slice ps k cs).ownBlock=some b->w.heap.size<=b):=fun b hb=>(HS.row.lt b hb).1;clear RX fX bY zY CY zX;go_wp2_with (at_builtin;rw [<-hX,<-hY];refine gO rfl _ _ rfl w.heap.size (.S ps k cs) ((JP k).zip Qs) (((k:Int)+1,(k:Int),[]),ao) k lz rfl HY.2.1.row wr.heap.size rfl rfl HY.2.2.1 ab (by have:=HY.1.dr.2.1;exact this) ?_);intro p' c' w9 Oa fh uY;rw [<-hX,<-hY] at fh uY;have S9:=ae (HY.2.1.KI uY _ _ Oa);have B9:Below w.heap.size Y w9:=⟨fh.os,fh.tape,fh.output,fh.size,fun b hb=>fh.block b (by have:=HY.1.dr.2.1;omega) (fun e=>by have:=aa yB b e.symm;omega)⟩;have R9:=ae (HY.1.fr uY bl B9);clear Oa fh uY B9 HY lz yB q0 q1 q2 q3 q4 q5 qf hX hY;obtain ⟨q0,q1,q2,q3,q4,q5,qf⟩:=R9.box.cells;obtain ⟨RZ,fZ⟩:=R9.set 4 aU (.S p' (k+1) c');have HZ:=ae (ag RZ (S9.fr fZ));clear RZ fZ;go_wp2;go_roundw
 case rel=>exact ⟨k+1,p',c',_,ab,by go_num,HZ.1,by rw [Kl];exact HZ.2⟩
 exact dC};{
 have da:=dy k m;have e3:k=m:=ab;subst e3;go_wp2
 go_loopw [8] (fun iv wr=>∃ (j:Nat) (qs:Option Addr) (ds:Nat),j<=n/\iv=.I j/\Hid (RA w wr sb w.heap.size g p cd c (t+1) [.U 1,.U 0,.U k,.I 0,.S ps k cs,.S qs j ds])/\Hid (SpS w.heap.size wr (.S ps k cs) (JP k) Qs)/\Hid (SpN w.heap.size wr (.S qs j ds) (Kn j))) (fun iv _=>n-(intOf iv).toNat)
 case atStart=>exact ⟨0,none,0,ab,rfl,HR,HS,RT.nil _ _ _ _ _⟩
 case round =>(
 clear HR HS;obtain ⟨j,qs,ds,hj,rfl,HR,HS,HN⟩:=hrel;have hwl:=HR.dr.2.1;by_cases bj:j<n;{
 have da:=aT j n;obtain ⟨q0,q1,q2,q3,q4,q5,qf⟩:=HR.box.cells;obtain ⟨a1,ea1⟩:∃ a1:Int,97+(j:Int) / 26=a1:=⟨_,rfl⟩;obtain ⟨a2,ea2⟩:∃ a2:Int,97+(j:Int) % 26=a2:=⟨_,rfl⟩;obtain ⟨X,hX,bX,zX,CX,TX⟩:=aj wr #[.int .u8 47,.int .u8 (97+(j:Int) / 26),.int .u8 (97+(j:Int) % 26)] 5;obtain ⟨Y,hY,bY,zY,CY,-⟩:=aj X #[.S (some ⟨wr.heap.size,0,none⟩) 3 3,.S none 0 0,.U 0,.I 0,.S none 0 0,.U 0,.U 0,.S none 0 0] 38;have bW:=ah bX bY;have tb:TB Y (.S (some ⟨wr.heap.size,0,none⟩) 3 3) [47,97+(j:Int) / 26,97+(j:Int) % 26]:=by
  refine ⟨⟨_,_,rfl,.inr ⟨wr.heap.size,0,rfl,fun i hi=>?_⟩⟩,fun b e=>.inr ?_,_,_,_,rfl,ab,jC⟩;{
 have SR:=CX.below ab bY;simp at hi;have:i=0\/i=1\/i=2:=by omega
 rw [Nat.zero_add];rcases this with rfl | rfl | rfl;{exact SR.1 0 _ rfl};{exact SR.1 1 _ rfl};{exact SR.1 2 _ rfl}};{simp only [Value.ownBlock,Option.some.injEq] at e;subst e;exact ⟨_,_,(bY.block _ ab).trans TX⟩}
 have HY:=ae (ag (HR.below bW) (ag (HS.fr (al bW)) (ag (bS.fr (aa HN) (al bW)) (ag CY.1 tb))));have yB:Hid (∀ b,(Value.slice qs j ds).ownBlock=some b->w.heap.size<=b):=fun b hb=>(HN.lt b hb).1;have lz:Hid ((Kn j).length=j):=Ap j;have k5:=af q5 bX;rw [hX] at k5;rw [zX] at CY;have Im:=ae CY;clear bX bY bW CX CY TX tb zX zY ea1 ea2;go_wp2_with (at_builtin;rw [<-hX,<-hY];refine eG rfl _ _ rfl w.heap.size (.S qs j ds) (Kn j) (gj [47,97+(j:Int) / 26,97+(j:Int) % 26] [] 0) j lz rfl HY.2.2.1 (wr.heap.size+1) _ rfl ⟨_,_,_,_,rfl,HY.2.2.2.2,TB.nil _,TU.nil _,TU.nil _⟩ Im.1 ab (by have:=HY.1.dr.2.1;exact this) ?_);intro p' c' w9 Oa fh uY;rw [<-hX,<-hY] at fh uY;have B9:Below w.heap.size Y w9:=⟨fh.os,fh.tape,fh.output,fh.size,fun b hb=>fh.block b (by have:=HY.1.dr.2.1;omega) (fun e=>by have:=aa yB b e.symm;omega)⟩;have R9:=ae (HY.1.fr uY bl B9);have S9:=ae (ag (HY.2.1.fr uY) Oa);clear Oa fh uY B9 HY Im lz yB q0 q1 q2 q3 q4 q5 qf hX hY k5;obtain ⟨q0,q1,q2,q3,q4,q5,qf⟩:=R9.box.cells;obtain ⟨RZ,fZ⟩:=R9.set 5 aU (.S p' (j+1) c');have HZ:=ae (ag RZ (ag (S9.1.fr fZ) (bS.fr S9.2 fZ)));clear RZ fZ;go_wp2;go_roundw
 case rel=>exact ⟨j+1,p',c',ab,by go_num,HZ.1,HZ.2.1,by rw [Km];exact HZ.2.2⟩
 exact dC};{have da:=dy j n;have e3:j=n:=ab;subst e3;obtain ⟨Z,hZ⟩:=ax (bg wr w.heap.size (.U 1) (.U 0) (.U k) (.I 0) (.S ps k cs) (.S qs j ds));have HZ:=ae (HR.fin hZ);obtain ⟨q0,q1,q2,q3,q4,q5,qf⟩:=HR.box.cells;obtain ⟨u0,u1,u2,u3,u4,u5,uf⟩:=HR.res.cells;unfold bg at hZ;go_wp2;rw [<-hZ];clear hZ q0 q1 q2 q3 q4 q5 qf u0 u1 u2 u3 u4 u5 uf;obtain ⟨s0,s1,s2,s3,s4,s5,sf⟩:=HZ.1.cells;refine bodyPost_ret (v:=cY 1 0 k 0 (.S ps k cs) (.S qs j ds)) (by simp [results,results82,go_sem,s0,s1,s2,s3,s4,s5]) rfl ?_;have f2:=HZ.2.1;refine ⟨ps,cs,qs,ds,?_⟩;rw [Ao,Ap];exact ⟨rfl,fun w2 hk=>⟨(HS.fr f2).kx hk,bS.kx (bS.fr HN f2) hk⟩,HZ.2.2.2⟩})})
end Go.Proofs.YtcfcafeciggjeaaGreatDoor
