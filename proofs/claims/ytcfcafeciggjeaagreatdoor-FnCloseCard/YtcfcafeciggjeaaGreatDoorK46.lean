import Derived.Test.YtcfcafeciggjeaaGreatDoorK45
namespace Go.Proofs.YtcfcafeciggjeaaGreatDoor
set_option maxHeartbeats 6400000
set_option linter.unusedVariables false
set_option linter.unusedSimpArgs false
set_option maxRecDepth 100000
open Go.ChangeShapes Go.WideShapes Go.ChangeAt Go.RowKit Go.Deep
variable {B L b c cs ds g i j m1 n1 rb sb t:Nat} {D:SD} {Qs vs:List Value} {Z w w' w0 w1 w2 wc:World} {cd l:List Int} {ns:List aA} {p ps qs:Option Addr} {s:aL} {ss:List aL} {v v' v0 v1 v2 v3 v4 v5:Value} {x:Int}
theorem RT.Mw {α:Type} {el el':World->α->List Value->Prop} {ty:TypeId} {sz:Nat} {xs:List α} (h:RT el ty sz B w v xs) (mF:∀ x∈xs,∀ c,el w x c->el' w' x c) (hr:∀ b,v.ownBlock=some b->w'.heap[b]?=w.heap[b]?):RT el' ty sz B w' v xs:=by
 obtain ⟨cs,h1,h2,h3,h4⟩:=h;refine ⟨cs,h1,h2,⟨h3.1,?_⟩,fun i x c hx hc=>mF x (aF hx) c (h4 i x c hx hc)⟩;rcases h3.2 with hn | ⟨g,cap,cur,rfl,hb,hg,rest⟩;{exact .inl hn};{exact .inr ⟨g,cap,cur,rfl,hb,(hr g rfl).trans hg,rest⟩}
def TW (w:World) (v:Value) (l:List Int):Prop:=kL w v l/\∀ b,v.ownBlock=some b->∃ cur,w.heap[b]?=some (.cells cur 23)
theorem TU.tw (h:TU B w v l):TW w v l:=⟨h.1,h.2.1⟩
theorem TW.fr {T:List TypeId} (h:TW w v l) (hf:Fr T w w') (ht:23∉T):TW w' v l:=by
 obtain ⟨⟨p,c,rfl,hd⟩,h2⟩:=h;have hk:∀ b,(Value.slice p l.length c).ownBlock=some b->w'.heap[b]?=w.heap[b]?:=fun b e=>by obtain ⟨cur,hb⟩:=h2 b e;exact (hf.2 b cur _ _ ht hb).trans hb.symm
 refine ⟨⟨p,c,rfl,?_⟩,fun b e=>?_⟩;{rcases hd with hd | ⟨b,o,rfl,hd⟩;{exact .inl hd};{exact .inr ⟨b,o,rfl,fun i hi=>(ah (hk b rfl) _).trans (hd i hi)⟩}};{obtain ⟨cur,hb⟩:=h2 b e;exact ⟨cur,(hk b e).trans hb⟩}
def ta (w:World) (nd:aA) (c:List Value):Prop:=∃ P V H U,c=[P,V,.int .u64 nd.owner,.int .i64 nd.mode,H,.int .u64 nd.aD,.int .u64 nd.gen,U]/\TB w P nd.path/\TB w V nd.value/\TW w H nd.holders/\TW w U nd.watchers
abbrev zl (B:Nat) (w:World) (v:Value) (ns:List aA):Prop:=RT ta 38 8 B w v ns
theorem ta.fr {T:List TypeId} (hf:Fr T w w') (ht:5∉T) (hu:23∉T) (x:aA) (c:List Value) (h:ta w x c):ta w' x c:=by
 obtain ⟨P,V,H,U,e,h1,h2,h3,h4⟩:=h;exact ⟨P,V,H,U,e,h1.fr hf ht,h2.fr hf ht,h3.fr hf hu,h4.fr hf hu⟩
theorem zl.fr {T:List TypeId} (h:zl B w v ns) (hf:Fr T w w') (ht:5∉T/\23∉T/\38∉T):zl B w' v ns:=
 RT.fr h hf ht.2.2 (ta.fr hf ht.1 ht.2.1)
theorem zl.Oj (h:zl B w v ns):mi w v ns:=by
 obtain ⟨p,c,rfl,-,-,hp⟩:=RT.form h;refine ⟨p,c,rfl,?_⟩;by_cases h0:ns=[];{exact .inl h0};{obtain ⟨g,rfl⟩:=hp (List.length_pos_iff.2 h0);refine .inr ⟨g,0,rfl,fun i nd hi=>?_⟩;obtain ⟨cs,-,⟨P,V,H,U,rfl,h1,h2,h3,h4⟩,iH,hf⟩:=RT.at h hi;rw [Nat.zero_add];exact ⟨P,V,H,U,iH 0 _ rfl,iH 1 _ rfl,iH 2 _ rfl,iH 3 _ rfl,iH 4 _ rfl,iH 5 _ rfl,iH 6 _ rfl,iH 7 _ rfl,h1.1,h2.1,h3.1,h4.1,h1.2.2⟩}
abbrev LX:List TypeId:=[27,29,41,117]
abbrev Kx (w w':World):Prop:=Fr LX w w'
theorem de.kx (h:de B w v ss Qs) (hk:Kx w w'):gh w' v ss:=(h.fr hk (by decide)).YT
theorem zl.kx (h:zl B w v ns) (hk:Kx w w'):mi w' v ns:=(zl.fr h hk (by decide)).Oj
theorem aR.kx {B0:Nat} (h:aR B0 B w v ns) (hk:Kx w w'):mi w' v ns:=aR.Oj (aR.fr h hk (by decide))
theorem Kx.pre {T:List TypeId} (f:Fr T w w1) (h:Kx w1 w') (hs:∀ t∈T,t∈LX:=by decide):Kx w w':=(f.sub hs).trans h
open Go.Proofs.Tryz
structure BD (D:SD):Prop where
 e:0<=D.e/\D.e<18446744073709551616
 g:0<=D.g/\D.g<18446744073709551616
 x:0<=D.x/\D.x<18446744073709551616
 sl:D.ss.length<=1000
 nl:D.ns.length<=1000
 s:∀ s∈D.ss,s.2.2.length<=1000/\∀ e∈s.2.2,bQ e.2/\e.2.length<=1000
 n:∀ nd∈D.ns,bQ nd.path/\nd.path.length<=1000/\nd.value.length<=1000/\bQ nd.value/\nd.holders.length<=1000/\nd.watchers.length<=1000
theorem VD.ids (h:VD D) (hp:l.Pairwise (·<·)) (hm:∀ i∈l,i∈gR D.ss):l.length<=50:=by
 have:=rG l (gR D.ss) (hp.imp (fun Bo e=>by omega)) hm;have:=h.sl;unfold gR at *;rw [List.length_map] at *;omega
theorem SV.q (h:SV x s):s.2.2.length<=8/\∀ e∈s.2.2,bQ e.2/\e.2.length<=136:=by
 have q:=h.2.2.1;unfold dM at q;simp only [Bool.and_eq_true,decide_eq_true_eq,List.all_eq_true,List.mem_range] at q;refine ⟨q.1,fun e he=>⟨h.2.2.2 e he,?_⟩⟩;obtain ⟨i,hi⟩:=List.mem_iff_getElem?.1 he;have h1:=q.2 i (aJ.1 hi).1;rw [List.getD_eq_getElem?_getD,hi,Option.getD_some] at h1;unfold fQ at h1;split at h1;{simp only [Bool.and_eq_true,beq_iff_eq] at h1;omega};{simp only [Bool.and_eq_true] at h1;exact kR h1.2.2}
theorem VD.bd (h:VD D) (he:0<=D.e):BD D:=by
 have h1:=h.e;have h2:=h.g;have h3:=h.x;have h4:=h.sl;have h5:=h.nl;refine ⟨⟨he,by omega⟩,⟨h2.1,by omega⟩,⟨h3.1,by omega⟩,by omega,by omega,fun s hs=>?_,fun nd aK=>?_⟩;{obtain ⟨q1,q2⟩:=(h.s2 s hs).q;exact ⟨by omega,fun e he=>⟨(q2 e he).1,by have:=(q2 e he).2;omega⟩⟩};{have hn:=h.n2 nd aK;have a1:=kR hn.vp;have a2:=hn.va;have a3:=h.ids hn.h1 hn.h2;have a4:=h.ids hn.w1 hn.w2;exact ⟨hn.pb,by omega,by omega,hn.vb,by omega,by omega⟩}
def mr (g:Nat) (w w':World):Prop:=(w'.os=w.os/\w'.tape=w.tape/\w'.output=w.output)/\w.heap.size<=w'.heap.size/\∀ b,b≠g->b<w.heap.size->w'.heap[b]?=w.heap[b]?
theorem Dr.z (h:Dr g w w'):mr g w w':=⟨⟨h.2.1.os,h.2.1.tape,h.2.1.output⟩,h.2.1.size,h.2.2⟩
theorem mr.tr (h:mr g w w1) (h1:w2.os=w1.os/\w2.tape=w1.tape/\w2.output=w1.output) (hz:w1.heap.size<=w2.heap.size) (hk:∀ b,b≠g->b<w.heap.size->w2.heap[b]?=w1.heap[b]?):mr g w w2:=
 ⟨⟨h1.1.trans h.1.1,h1.2.1.trans h.1.2.1,h1.2.2.trans h.1.2.2⟩,Nat.le_trans h.2.1 hz,fun b hb hl=>(hk b hb hl).trans (h.2.2 b hb hl)⟩
theorem mr.trans (h:mr g w w1) (h2:mr g w1 w2):mr g w w2:=h.tr h2.1 h2.2.1 fun b hb hl=>h2.2.2 b hb (by have:=h.2.1;omega)
theorem mr.dr (h:mr g w w1) (d:Dr g w1 w2):mr g w w2:=h.tr ⟨d.2.1.os,d.2.1.tape,d.2.1.output⟩ d.2.1.size fun b hb hl=>d.2.2 b hb (by have:=h.2.1;omega)
theorem mr.add (h:mr g w w1) (h2:Below w.heap.size w1 w2):mr g w w2:=h.tr ⟨h2.os,h2.tape,h2.output⟩ h2.size fun b _ hl=>h2.block b hl
structure RA (w0 w:World) (sb rb g:Nat) (p:Option Addr) (cd:List Int) (c t:Nat) (vs:List Value):Prop where
 box:BX w sb vs
 res:BX w rb [.int .u64 0,.int .u64 0,.int .u64 0,.int .i64 0,.slice none 0 0,.slice none 0 0]
 fR:ji w g p cd c t
 dr:mr g w0 w
 ne:rb≠sb
 lo:w0.heap.size<=sb/\w0.heap.size<=rb
 gl:g<w0.heap.size
theorem RA.fr {T:List TypeId} (h:RA w0 w sb rb g p cd c t vs) (hf:Fr T w w1) (ht:27∉T) (hb:Below w0.heap.size w w1):RA w0 w1 sb rb g p cd c t vs:=
 ⟨h.box.fr hf ht,h.res.fr hf ht,h.fR.low hb h.gl,h.dr.add hb,h.ne,h.lo,h.gl⟩
theorem RA.draw {t':Nat} (h:RA w0 w sb rb g p cd c t vs) (hd:ji w1 g p cd c t') (d:Dr g w w1):RA w0 w1 sb rb g p cd c t' vs:=
 ⟨h.box.fr d.1 (by decide),h.res.fr d.1 (by decide),hd,h.dr.dr d,h.ne,h.lo,h.gl⟩
theorem RA.below (h:RA w0 w sb rb g p cd c t vs) (b:Below w.heap.size w w1):RA w0 w1 sb rb g p cd c t vs:=h.draw (h.fR.low b h.fR.lt) (Dr.below b h.fR.lt)
theorem RA.set (h:RA w0 w sb rb g p cd c t vs) (j:Nat) (hj:j<vs.length) (u:Value):RA w0 (w.setCell ⟨sb,j,none⟩ u) sb rb g p cd c t (vs.set j u)/\Fr [27] w (w.setCell ⟨sb,j,none⟩ u):=by
 have ts:=aZ (j:=j) (u:=u) h.box.2;have b2:Below sb w (w.setCell ⟨sb,j,none⟩ u):=ay.setCell (p:=⟨sb,j,none⟩) ax _;exact ⟨⟨⟨h.box.1.da j hj _,ts.1⟩,h.res.nF h.ne,h.fR.low (b2.mono h.lo.1) h.gl,h.dr.add (b2.mono h.lo.1),h.ne,h.lo,h.gl⟩,ts.2⟩
theorem RA.fin (h:RA w0 w sb rb g p cd c t vs) (hZ:Z=aP w rb v0 v1 v2 v3 v4 v5):BX Z rb [v0,v1,v2,v3,v4,v5]/\Fr [27] w Z/\ji Z g p cd c t/\mr g w0 Z:=by
 subst hZ;obtain ⟨cur,hc⟩:=h.res.2;have b2:=bH w rb v0 v1 v2 v3 v4 v5;exact ⟨h.res.put _ _ _ _ _ _,dJ hc,h.fR.low (b2.mono h.lo.2) h.gl,h.dr.add (b2.mono h.lo.2)⟩
def EY (m:Nat):List aL:=(List.range m).map fun (i:Nat)=>((i:Int)+1,(i:Int),[])
def Fz (n:Nat):List aA:=(List.range n).map fun (i:Nat)=>fy [47,97+(i:Int) / 26,97+(i:Int) % 26] [] 0
theorem vD (m:Nat):(EY m).length=m:=by simp [EY]
theorem vE (m:Nat):(Fz m).length=m:=by simp [Fz]
theorem Fx (m:Nat):EY (m+1)=EY m++[((m:Int)+1,(m:Int),[])]:=by simp [EY,List.range_succ]
theorem Fy (m:Nat):Fz (m+1)=Fz m++[fy [47,97+(m:Int) / 26,97+(m:Int) % 26] [] 0]:=by simp [Fz,List.range_succ]
theorem Sb (m n:Nat) (hm:m<=500) (hn:n<=500):BD ⟨1,0,m,0,EY m,Fz n⟩:=by
 refine ⟨⟨by show (0:Int)<=1;decide,by show (1:Int)<18446744073709551616;decide⟩,⟨Int.le_refl _,by show (0:Int)<18446744073709551616;decide⟩,by show 0<=(m:Int)/\(m:Int)<18446744073709551616;omega,by show (EY m).length<=_;rw [vD];omega,by show (Fz n).length<=_;rw [vE];omega,fun s hs=>?_,fun nd aK=>?_⟩;{obtain ⟨i,-,rfl⟩:=List.mem_map.1 hs;exact ⟨Nat.zero_le _,fun e he=>by simp at he⟩};{obtain ⟨i,hi,rfl⟩:=List.mem_map.1 aK;have:=List.mem_range.1 hi;refine ⟨fun z hz=>?_,by simp [fy],by simp [fy],fun z hz=>by simp [fy] at hz,by simp [fy],by simp [fy]⟩;simp [fy] at hz;omega}
def DSf (f:FuncId) (cd:List Int) (t:Nat) (D:SD):Prop:=
 ∀ (g:Nat) (p:Option Addr) (c:Nat) (w:World),ji w g p cd c t->Calls prog f #[.pointer (some ⟨g,0,none⟩)] w fun r w'=>∃ ps cs qs ds,r=.returned (cK D.e D.g D.x D.t (.slice ps D.ss.length cs) (.slice qs D.ns.length ds))/\(∀ w2,Kx w' w2->gh w2 (.slice ps D.ss.length cs) D.ss/\mi w2 (.slice qs D.ns.length ds) D.ns)/\mr g w w'
def NJ (cd:List Int) (t:Nat) (D D':SD):Prop:=
 ∀ (g:Nat) (p:Option Addr) (c:Nat) (w0 w:World) (ps:Option Addr) (cs:Nat) (qs:Option Addr) (ds:Nat) (Qs:List Value),ji w g p cd c t->g<w0.heap.size->mr g w0 w->de w0.heap.size w (.slice ps D.ss.length cs) D.ss Qs->jh w0.heap.size w (.slice qs D.ns.length ds) D.ns->Calls prog 84 #[cK D.e D.g D.x D.t (.slice ps D.ss.length cs) (.slice qs D.ns.length ds),.pointer (some ⟨g,0,none⟩)] w fun r w'=>∃ J1 Lx SO VB,r=.returned (cK D'.e D'.g D'.x D'.t (.slice J1 D'.ss.length Lx) (.slice SO D'.ns.length VB))/\(∀ w2,Kx w' w2->gh w2 (.slice J1 D'.ss.length Lx) D'.ss/\mi w2 (.slice SO D'.ns.length VB) D'.ns)/\mr g w0 w'
def WC (code:List Int) (D:SD) (O:Ey):Prop:=∀ (p:Option Addr) (c:Nat) (w:World),Rd w (.slice p code.length c) code->code.length<=c->Calls prog 8 #[.slice p code.length c] w fun r w'=>∃ ps cs qs ds pp cp pq cv,r=.returned (.tuple #[cK D.e D.g D.x D.t (.slice ps D.ss.length cs) (.slice qs D.ns.length ds),tJ O.K O.S (.slice pp O.P.length cp) O.F (.slice pq O.V.length cv) O.E O.G])/\gh w' (.slice ps D.ss.length cs) D.ss/\mi w' (.slice qs D.ns.length ds) D.ns/\TB w' (.slice pp O.P.length cp) O.P/\TB w' (.slice pq O.V.length cv) O.V/\Below w.heap.size w w'
theorem Fw (cd:List Int) (t:Nat) (hb:bQ cd) (hl:cd.length<=500):∃ D,BD D/\DSf 82 cd t D:=by
 have r0:=aV cd hb t;obtain ⟨x,ex⟩:∃ x,Hid (cd.getD t 0=x):=⟨_,ae rfl⟩;rw [aa ex] at r0;obtain ⟨m,n,em,en,hm,hn⟩:∃ m n:Nat,Hid ((if x % 2=0 then 2 else 49+x / 2 % 3)=(m:Int))/\Hid ((if x % 2=0 then 199+x / 2 % 3 else 2)=(n:Int))/\m<=300/\n<=300:=by by_cases h:x % 2=0;{exact ⟨2,(199+x / 2 % 3).toNat,by show _=_;rw [if_pos h];rfl,by show _=_;rw [if_pos h];omega,by omega,by omega⟩};{exact ⟨(49+x / 2 % 3).toNat,2,by show _=_;rw [if_neg h];omega,by show _=_;rw [if_neg h];rfl,by omega,by omega⟩}
 refine ⟨⟨1,0,m,0,EY m,Fz n⟩,Sb m n (by omega) (by omega),?_⟩;intro g p c w h;have iu:=h.lt;obtain ⟨W0,cA,b0,z0,C0⟩:=bg w (.int .u64 0) (.int .u64 0) (.int .u64 0) (.int .i64 0) (.slice none 0 0) (.slice none 0 0);have Tz:=h.low b0 iu;have Jz:=ae (ag C0 (Dr.below b0 iu));clear b0 C0;go_enter func82,ntmps82;go_wp2_with fail;rw [<-cA];clear cA;refine (cY g p cd c t W0 Tz hb hl).mono ?_;rintro r w1 ⟨rfl,h1,d1⟩;rw [aa ex];have z1:=d1.2.1.size;obtain ⟨W2,iY,b2,z2,C2⟩:=bg w1 (.int .u64 1) (.int .u64 0) (.int .u64 0) (.int .i64 0) (.slice none 0 0) (.slice none 0 0);obtain ⟨sb,il⟩:=aN w1.heap.size;have H0:Hid (RA w W2 sb w.heap.size g p cd c (t+1) [.int .u64 1,.int .u64 0,.int .u64 0,.int .i64 0,.slice none 0 0,.slice none 0 0]):=by rw [<-il];exact ⟨C2,(Jz.1.fr d1.1 (by decide)).below b2,h1.low b2 h1.lt,((Jz.2.trans d1).trans (Dr.below b2 (by omega))).z,by omega,⟨by omega,Nat.le_refl _⟩,iu⟩
 have ko:=ae il;clear il b2 z2 C2 d1 h1 Tz h z0 Jz z1
 go_upto_if 19 with fail
 rw [<-iY];rw [aa ko];clear ko iY
 go_cut [5,6] (fun nv mv wc=>nv=.int .i64 n/\mv=.int .i64 m/\wc=W2)
 case first =>(
 have e1:=aa em;have e2:=aa en;by_cases h:x % 2=0;{
 rw [if_pos h] at e1 e2;have KI:(x % 2==0)=true:=by simp [h]
 have E1:=ae e1;have E2:=ae e2;clear e1 e2;go_wp2;go_meet
 case rel=>exact ⟨by rw [<-aa E2],by rw [<-aa E1],rfl⟩}
 {
 rw [if_neg h] at e1 e2;have KI:(x % 2==0)=false:=by simp [h]
 have E1:=ae e1;have E2:=ae e2;clear e1 e2;go_wp2;go_meet
 case rel=>exact ⟨by rw [<-aa E2],by rw [<-aa E1],rfl⟩})
 case rest=>
 obtain ⟨rfl,rfl,ky⟩:=hcut;rw [ky];clear ky wc;go_wp2
 go_loopw [7] (fun iv wr=>∃ (k:Nat) (ps:Option Addr) (cs:Nat) (Qs:List Value),k<=m/\iv=.int .i64 k/\Hid (RA w wr sb w.heap.size g p cd c (t+1) [.int .u64 1,.int .u64 0,.int .u64 k,.int .i64 0,.slice ps k cs,.slice none 0 0])/\Hid (de w.heap.size wr (.slice ps k cs) (EY k) Qs)) (fun iv _=>m-(intOf iv).toNat)
 case atStart=>exact ⟨0,none,0,[],by omega,rfl,H0,de.nil _ _⟩
 case round =>(
 clear H0;obtain ⟨k,ps,cs,Qs,hk,rfl,HR,HS⟩:=hrel;have hwl:=HR.dr.2.1;by_cases br:k<m;{
 have bt:(k:Int)<(m:Int):=by omega
 obtain ⟨q0,q1,q2,q3,q4,q5,qf⟩:=HR.box.cells;have wk:IntKind.u64.wrap ((k:Int)+1)=(k:Int)+1:=IntWalk.u64_in _ (by omega);obtain ⟨X,hX⟩:∃ X,X=wr.setCell ⟨sb,2,none⟩ (.int .u64 ((k:Int)+1)):=⟨_,rfl⟩;obtain ⟨RX,fX⟩:=HR.set 2 (by simp) (.int .u64 ((k:Int)+1));rw [<-hX] at RX fX;obtain ⟨Y,hY,bY,zY,CY,-⟩:=aj X #[.int .u64 ((k:Int)+1),.int .i64 k,.slice none 0 0] 35;have zX:X.heap.size=wr.heap.size:=by rw [hX];simp
 rw [zX] at CY zY;have HY:=ae (ag (RX.below bY) (ag ((HS.fr fX (by decide)).fr (Fr.below (T:=[]) bY) (by decide)) (ag CY.1 zY)));have lz:Hid (((EY k).zip Qs).length=k):=by show _=_;rw [List.length_zip,HS.len,vD];simp
 have uv:Hid (∀ b,(Value.slice ps k cs).ownBlock=some b->w.heap.size<=b):=fun b hb=>(HS.row.lt b hb).1;clear RX fX bY zY CY zX;go_wp2_with (at_builtin;rw [<-hX,<-hY];refine fh rfl _ _ rfl w.heap.size (.slice ps k cs) ((EY k).zip Qs) (((k:Int)+1,(k:Int),[]),aq) k lz rfl HY.2.1.row wr.heap.size rfl rfl HY.2.2.1 (by omega) (by have:=HY.1.dr.2.1;exact this) ?_);intro p' c' w9 wh cT rj;rw [<-hX,<-hY] at cT rj;have S9:=ae (HY.2.1.FV rj _ _ wh);have B9:Below w.heap.size Y w9:=⟨cT.os,cT.tape,cT.output,cT.size,fun b hb=>cT.block b (by have:=HY.1.dr.2.1;omega) (fun e=>by have:=aa uv b e.symm;omega)⟩;have R9:=ae (HY.1.fr rj (by decide) B9);clear wh cT rj B9 HY lz uv q0 q1 q2 q3 q4 q5 qf hX hY;obtain ⟨q0,q1,q2,q3,q4,q5,qf⟩:=R9.box.cells;obtain ⟨RZ,fZ⟩:=R9.set 4 (by simp) (.slice p' (k+1) c');have HZ:=ae (ag RZ (S9.fr fZ (by decide)));clear RZ fZ;go_wp2;go_roundw
 case rel=>exact ⟨k+1,p',c',_,by omega,by go_num,HZ.1,by rw [Fx];exact HZ.2⟩
 case measure=>simp [intOf];omega}
 {
 have bt:¬ (k:Int)<(m:Int):=by omega
 have e3:k=m:=by omega
 subst e3;go_wp2
 go_loopw [8] (fun iv wr=>∃ (j:Nat) (qs:Option Addr) (ds:Nat),j<=n/\iv=.int .i64 j/\Hid (RA w wr sb w.heap.size g p cd c (t+1) [.int .u64 1,.int .u64 0,.int .u64 k,.int .i64 0,.slice ps k cs,.slice qs j ds])/\Hid (de w.heap.size wr (.slice ps k cs) (EY k) Qs)/\Hid (jh w.heap.size wr (.slice qs j ds) (Fz j))) (fun iv _=>n-(intOf iv).toNat)
 case atStart=>exact ⟨0,none,0,by omega,rfl,HR,HS,RT.nil _ _ _ _ _⟩
 case round =>(
 clear HR HS;obtain ⟨j,qs,ds,hj,rfl,HR,HS,HN⟩:=hrel;have hwl:=HR.dr.2.1;by_cases br:j<n;{
 have bt:(j:Int)<(n:Int):=by omega
 obtain ⟨q0,q1,q2,q3,q4,q5,qf⟩:=HR.box.cells;obtain ⟨a1,ea1⟩:∃ a1:Int,97+(j:Int) / 26=a1:=⟨_,rfl⟩;obtain ⟨a2,ea2⟩:∃ a2:Int,97+(j:Int) % 26=a2:=⟨_,rfl⟩;obtain ⟨X,hX,bX,zX,CX,TX⟩:=aj wr #[.int .u8 47,.int .u8 (97+(j:Int) / 26),.int .u8 (97+(j:Int) % 26)] 5;obtain ⟨Y,hY,bY,zY,CY,-⟩:=aj X #[.slice (some ⟨wr.heap.size,0,none⟩) 3 3,.slice none 0 0,.int .u64 0,.int .i64 0,.slice none 0 0,.int .u64 0,.int .u64 0,.slice none 0 0] 38;have bW:=ai bX bY;have tb:TB Y (.slice (some ⟨wr.heap.size,0,none⟩) 3 3) [47,97+(j:Int) / 26,97+(j:Int) % 26]:=by
  refine ⟨⟨_,_,rfl,.inr ⟨wr.heap.size,0,rfl,fun i hi=>?_⟩⟩,fun b e=>.inr ?_,_,_,_,rfl,by omega,by unfold maxLen;omega⟩;{
 have Ml:=CX.below (by omega) bY;simp at hi;have:i=0\/i=1\/i=2:=by omega
 rw [Nat.zero_add];rcases this with rfl | rfl | rfl;{exact Ml.1 0 _ rfl};{exact Ml.1 1 _ rfl};{exact Ml.1 2 _ rfl}};{simp only [Value.ownBlock,Option.some.injEq] at e;subst e;exact ⟨_,_,(bY.block _ (by omega)).trans TX⟩}
 have HY:=ae (ag (HR.below bW) (ag (HS.fr (Fr.below (T:=[]) bW) (by decide)) (ag (aR.fr (aa HN) (Fr.below (T:=[]) bW) (by decide)) (ag CY.1 tb))));have uv:Hid (∀ b,(Value.slice qs j ds).ownBlock=some b->w.heap.size<=b):=fun b hb=>(HN.lt b hb).1;have lz:Hid ((Fz j).length=j):=vE j;have k5:=af q5 bX;rw [hX] at k5;rw [zX] at CY;have Dz:=ae CY;clear bX bY bW CX CY TX tb zX zY ea1 ea2;go_wp2_with (at_builtin;rw [<-hX,<-hY];refine dB rfl _ _ rfl w.heap.size (.slice qs j ds) (Fz j) (fy [47,97+(j:Int) / 26,97+(j:Int) % 26] [] 0) j lz rfl HY.2.2.1 (wr.heap.size+1) _ rfl ⟨_,_,_,_,rfl,HY.2.2.2.2,TB.nil _,TU.nil _,TU.nil _⟩ Dz.1 (by omega) (by have:=HY.1.dr.2.1;exact this) ?_);intro p' c' w9 wh cT rj;rw [<-hX,<-hY] at cT rj;have B9:Below w.heap.size Y w9:=⟨cT.os,cT.tape,cT.output,cT.size,fun b hb=>cT.block b (by have:=HY.1.dr.2.1;omega) (fun e=>by have:=aa uv b e.symm;omega)⟩;have R9:=ae (HY.1.fr rj (by decide) B9);have S9:=ae (ag (HY.2.1.fr rj (by decide)) wh);clear wh cT rj B9 HY Dz lz uv q0 q1 q2 q3 q4 q5 qf hX hY k5;obtain ⟨q0,q1,q2,q3,q4,q5,qf⟩:=R9.box.cells;obtain ⟨RZ,fZ⟩:=R9.set 5 (by simp) (.slice p' (j+1) c');have HZ:=ae (ag RZ (ag (S9.1.fr fZ (by decide)) (aR.fr S9.2 fZ (by decide))));clear RZ fZ;go_wp2;go_roundw
 case rel=>exact ⟨j+1,p',c',by omega,by go_num,HZ.1,HZ.2.1,by rw [Fy];exact HZ.2.2⟩
 case measure=>simp [intOf];omega}
 {
 have bt:¬ (j:Int)<(n:Int):=by omega
 have e3:j=n:=by omega
 subst e3;obtain ⟨Z,hZ⟩:=ar (aP wr w.heap.size (.int .u64 1) (.int .u64 0) (.int .u64 k) (.int .i64 0) (.slice ps k cs) (.slice qs j ds));have HZ:=ae (HR.fin hZ);obtain ⟨q0,q1,q2,q3,q4,q5,qf⟩:=HR.box.cells;obtain ⟨u0,u1,u2,u3,u4,u5,uf⟩:=HR.res.cells;unfold aP at hZ;go_wp2;rw [<-hZ];clear hZ q0 q1 q2 q3 q4 q5 qf u0 u1 u2 u3 u4 u5 uf;obtain ⟨s0,s1,s2,s3,s4,s5,sf⟩:=HZ.1.cells;refine bodyPost_ret (v:=cK 1 0 k 0 (.slice ps k cs) (.slice qs j ds)) (by simp [results,results82,go_sem,s0,s1,s2,s3,s4,s5]) rfl ?_;have f2:=HZ.2.1;refine ⟨ps,cs,qs,ds,?_⟩;rw [vD,vE];exact ⟨rfl,fun w2 hk=>⟨(HS.fr f2 (by decide)).kx hk,aR.kx (aR.fr HN f2 (by decide)) hk⟩,HZ.2.2.2⟩})})
def qc (I:Nat) (f:aA->aA) (D:SD):SD:=match D.ns[I]? with
 | none=>D
 | some nd=>{ D with ns:=D.ns.set I (f nd) }
def xl (J:Nat) (f:aL->aL) (D:SD):SD:=match D.ss[J]? with
 | none=>D
 | some s=>{ D with ss:=D.ss.set J (f s) }
def YN (I:Nat) (D:SD):SD:=match D.ns[I]? with
 | none=>D
 | some nd=>{ D with ns:=D.ns++[nd] }
def aO (k:Nat) (v:Int) (I J:Nat) (P:List Int) (D:SD):SD:=
 if k=0 then { D with g:=4611686018427387904+v % 2 } else if k=1 then { D with x:=4611686018427387904+v % 2 } else if k=2 then { D with t:=1000000+v % 2 } else if k=3 then { D with t:=-1 }
 else if D.ns.length=0\/D.ss.length=0 then { D with e:=4611686018427387904+v % 2 }
 else if k=4 then xl J (fun s=>(0,s.2.1,s.2.2)) D
 else if k=5 then xl J (fun s=>(s.1,1000015+v % 2,s.2.2)) D
 else if k=6 then xl J (fun s=>(s.1,s.2.1,s.2.2++[(v % 6,[47,97])])) D
 else if k=7 then xl J (fun s=>(s.1,s.2.1,s.2.2++List.replicate ((7+v % 3).toNat-s.2.2.length) (1,[47,97]))) D
 else if k=8 then qc I (fun nd=>{ nd with mode:=v % 4 }) D
 else if k=9 then qc I (fun nd=>{ nd with holders:=jA nd.holders (v % 5) }) D
 else if k=10 then qc I (fun nd=>{ nd with watchers:=nd.watchers++[v % 5] }) D
 else if k=11 then qc I (fun nd=>{ nd with owner:=v % 5 }) D
 else if k=12 then qc I (fun nd=>{ nd with gen:=D.g+v % 2 }) D
 else if k=13 then qc I (fun nd=>{ nd with aD:=D.e+v % 2 }) D
 else if k=14 then zO D I
 else if k=15 then YN I D
 else if k=16 then qc I (fun nd=>{ nd with value:=List.replicate (40+v % 2).toNat 113 }) D
 else if k=17 then qc I (fun nd=>{ nd with path:=P }) D
 else if k=18 then xl J (fun s=>(s.1,-1,s.2.2)) D
 else if k=19 then { D with x:=0 }
 else if k=20 then { D with ss:=D.ss++[(v % 5,0,[])] }
 else { D with ss:=D.ss.drop 1 }
theorem BD.num (h:BD D) {e g t:Int} (he:0<=e/\e<18446744073709551616) (hg:0<=g/\g<18446744073709551616) (hx:0<=x/\x<18446744073709551616):BD ⟨e,g,x,t,D.ss,D.ns⟩:=⟨he,hg,hx,h.sl,h.nl,h.s,h.n⟩
def NBd (nd:aA):Prop:=bQ nd.path/\nd.path.length<=1000/\nd.value.length<=1000/\bQ nd.value/\nd.holders.length<=1000/\nd.watchers.length<=1000
theorem BD.qc (h:BD D) (I:Nat) {f:aA->aA} (hf:∀ nd∈D.ns,NBd (f nd)):BD (qc I f D):=by
 unfold Proofs.YtcfcafeciggjeaaGreatDoor.qc;cases hk:D.ns[I]? with
 | none=>exact h
 | some nd=>
  refine ⟨h.e,h.g,h.x,h.sl,by show (List.set _ _ _).length<=_;rw [List.length_set];exact h.nl,h.s,fun y hy=>?_⟩;rcases List.mem_or_eq_of_mem_set hy with hy | rfl;{exact h.n y hy};{exact hf nd (aF hk)}
theorem BD.xl (h:BD D) (J:Nat) {f:aL->aL} (hf:∀ s∈D.ss,(f s).2.2.length<=1000/\∀ e∈(f s).2.2,bQ e.2/\e.2.length<=1000):BD (xl J f D):=by
 unfold Proofs.YtcfcafeciggjeaaGreatDoor.xl;cases hk:D.ss[J]? with
 | none=>exact h
 | some s=>
  refine ⟨h.e,h.g,h.x,by show (List.set _ _ _).length<=_;rw [List.length_set];exact h.sl,h.nl,fun y hy=>?_,h.n⟩;rcases List.mem_or_eq_of_mem_set hy with hy | rfl;{exact h.s y hy};{exact hf s (aF hk)}
theorem IP:bQ [47,97]:=fun z hz=>by simp at hz;omega
theorem jE (hv:VD D) (he:0<=D.e) (k:Nat) {v:Int} (hr:0<=v/\v<256) (I J:Nat) {P:List Int} (hP:bQ P) (lP:P.length<=18):BD (aO k v I J P D):=by
 have h:=hv.bd he;have e0:=h.e;have g0:=h.g;have x0:=h.x;have e1:=hv.e;have g1:=hv.g;have hq:∀ s∈D.ss,s.2.2.length<=8:=fun s hs=>(hv.s2 s hs).q.1;have hh:∀ nd∈D.ns,nd.holders.length<=50/\nd.watchers.length<=50:=fun nd aK=>⟨hv.ids (hv.n2 nd aK).h1 (hv.n2 nd aK).h2,hv.ids (hv.n2 nd aK).w1 (hv.n2 nd aK).w2⟩
 unfold aO;by_cases c0:k=0;{rw [if_pos c0];exact h.num e0 (by omega) x0};rw [if_neg c0];by_cases c1:k=1;{rw [if_pos c1];exact h.num e0 g0 (by omega)};rw [if_neg c1];by_cases c2:k=2;{rw [if_pos c2];exact h.num e0 g0 x0};rw [if_neg c2];by_cases c3:k=3;{rw [if_pos c3];exact h.num e0 g0 x0};rw [if_neg c3];by_cases c4:D.ns.length=0\/D.ss.length=0;{rw [if_pos c4];exact h.num (by omega) g0 x0};rw [if_neg c4];by_cases c5:k=4;{rw [if_pos c5];exact h.xl J (fun s hs=>h.s s hs)};rw [if_neg c5];by_cases c6:k=5;{rw [if_pos c6];exact h.xl J (fun s hs=>h.s s hs)};rw [if_neg c6];by_cases c7:k=6;{rw [if_pos c7];refine h.xl J fun s hs=>⟨by have:=hq s hs;simp;omega,fun e he=>?_⟩;rcases List.mem_append.1 he with he | he;{exact (h.s s hs).2 e he};{simp at he;rw [he];exact ⟨IP,by simp⟩}};rw [if_neg c7];by_cases c8:k=7;{rw [if_pos c8];refine h.xl J fun s hs=>⟨by have:=hq s hs;simp;omega,fun e he=>?_⟩;rcases List.mem_append.1 he with he | he;{exact (h.s s hs).2 e he};{rw [List.eq_of_mem_replicate he];exact ⟨IP,by simp⟩}};rw [if_neg c8];by_cases c9:k=8;{rw [if_pos c9];exact h.qc I fun nd aK=>h.n nd aK};rw [if_neg c9];by_cases c10:k=9;{rw [if_pos c10];refine h.qc I fun nd aK=>?_;have a:=h.n nd aK;have:=Am nd.holders (v % 5);have:=(hh nd aK).1;exact ⟨a.1,a.2.1,a.2.2.1,a.2.2.2.1,by show (jA _ _).length<=_;omega,a.2.2.2.2.2⟩};rw [if_neg c10];by_cases c11:k=10;{rw [if_pos c11];refine h.qc I fun nd aK=>?_;have a:=h.n nd aK;have:=(hh nd aK).2;exact ⟨a.1,a.2.1,a.2.2.1,a.2.2.2.1,a.2.2.2.2.1,by show (_++[_]).length<=_;simp;omega⟩};rw [if_neg c11];by_cases c12:k=11;{rw [if_pos c12];exact h.qc I fun nd aK=>h.n nd aK};rw [if_neg c12];by_cases c13:k=12;{rw [if_pos c13];exact h.qc I fun nd aK=>h.n nd aK};rw [if_neg c13];by_cases c14:k=13;{rw [if_pos c14];exact h.qc I fun nd aK=>h.n nd aK};rw [if_neg c14];by_cases c15:k=14;{rw [if_pos c15];exact ⟨h.e,h.g,h.x,h.sl,Nat.le_trans (List.Sublist.length_le (List.eraseIdx_sublist _ _)) h.nl,h.s,fun y hy=>h.n y (List.mem_of_mem_eraseIdx hy)⟩};rw [if_neg c15];by_cases c16:k=15;{
 rw [if_pos c16];unfold YN;have nl:=hv.nl;cases hk:D.ns[I]? with
 | none=>exact h
 | some nd=>
  refine ⟨h.e,h.g,h.x,h.sl,by show (_++[_]).length<=_;simp;omega,h.s,fun y hy=>?_⟩;rcases List.mem_append.1 hy with hy | hy;{exact h.n y hy};{simp at hy;rw [hy];exact h.n nd (aF hk)}};rw [if_neg c16];by_cases c17:k=16;{rw [if_pos c17];refine h.qc I fun nd aK=>?_;have a:=h.n nd aK;exact ⟨a.1,a.2.1,by show (List.replicate _ _).length<=_;rw [List.length_replicate];omega,rD _ (by omega),a.2.2.2.2⟩};rw [if_neg c17];by_cases c18:k=17;{rw [if_pos c18];refine h.qc I fun nd aK=>?_;have a:=h.n nd aK;exact ⟨hP,by show P.length<=_;omega,a.2.2⟩};rw [if_neg c18];by_cases c19:k=18;{rw [if_pos c19];exact h.xl J (fun s hs=>h.s s hs)};rw [if_neg c19];by_cases c20:k=19;{rw [if_pos c20];exact h.num e0 g0 (by omega)};rw [if_neg c20];by_cases c21:k=20;{rw [if_pos c21];have sl:=hv.sl;refine ⟨h.e,h.g,h.x,by show (_++[_]).length<=_;simp;omega,h.nl,fun y hy=>?_,h.n⟩;rcases List.mem_append.1 hy with hy | hy;{exact h.s y hy};{simp at hy;rw [hy];exact ⟨by simp,fun e he=>by simp at he⟩}};rw [if_neg c21];exact ⟨h.e,h.g,h.x,by have:=h.sl;show (List.drop _ _).length<=_;simp;omega,h.nl,fun y hy=>h.s y (List.mem_of_mem_drop hy),h.n⟩
theorem de.idn {g n cap:Nat} (h:de B w (.slice (some ⟨g,0,none⟩) n cap) ss Qs) (hx:ss[i]?=some s) (d:Int) :
  de B (w.setCell ⟨g,i*3,none⟩ (.int .u64 d)) (.slice (some ⟨g,0,none⟩) n cap) (ss.set i (d,s.2.1,s.2.2)) Qs/\Fr [35] w (w.setCell ⟨g,i*3,none⟩ (.int .u64 d)):=by
 obtain ⟨cur,hc⟩:=h.row.gS g rfl;have hf:Fr [35] w (w.setCell ⟨g,i*3,none⟩ (.int .u64 d)):=Fr.set hc (by simp);have hi:=(aJ.1 hx).1;obtain ⟨Q,hQ⟩:∃ Q,Qs[i]?=some Q:=⟨_,aE (by rw [h.len];exact hi)⟩;have hz:(ss.zip Qs)[i]?=some (s,Q):=by rw [List.getElem?_zip_eq_some];exact ⟨hx,hQ⟩
 refine ⟨⟨by rw [List.length_set];exact h.len,?_,fun k s' Q' hs hq=>?_,h.pD⟩,hf⟩;{
 have:=RT.put h.row hz (j:=0) (by omega) (.int .u64 d) ((d,s.2.1,s.2.2),Q) (fun _ _ h=>h) (fun c _ he=>by
  unfold jO at he ⊢;subst he
  rfl)
 rwa [rA,dX hQ] at this};{rw [List.getElem?_set] at hs;by_cases e:i=k;{subst e;rw [if_pos rfl,if_pos hi] at hs;cases hs;exact tX.fr (h.xm i s Q' hx hq) hf (by decide)};{rw [if_neg e] at hs;exact tX.fr (h.xm k s' Q' hs hq) hf (by decide)}}
def AU (w w':World) (v:Value) (L:Nat):Prop:=w.grownBy w' v.ownBlock/\∀ b,v.ownBlock=some b->((∃ cur,w'.heap[b]?=some (.cells cur 23))/\∃ cur,w.heap[b]?=some (.cells cur 23))/\((∀ j,w'.cell? ⟨b,j,none⟩=w.cell? ⟨b,j,none⟩)\/(w.cell? ⟨b,L,none⟩=some (.int .u64 0)/\∀ j,j≠L->w'.cell? ⟨b,j,none⟩=w.cell? ⟨b,j,none⟩))
theorem TW.au (h:TW w v' l) (hz:∀ i∈l,i≠0) (ha:AU w w' v L):TW w' v' l:=by
 obtain ⟨⟨p,c,rfl,hd⟩,h2⟩:=h;refine ⟨⟨p,c,rfl,?_⟩,fun b e=>?_⟩;{
 rcases hd with hd | ⟨b,o,rfl,hd⟩;{exact .inl hd};{
 refine .inr ⟨b,o,rfl,fun i hi=>?_⟩;obtain ⟨cur,hb⟩:=h2 b rfl;by_cases e:v.ownBlock=some b;{
 rcases (ha.2 b e).2 with hk | ⟨h0,hk⟩;{rw [hk];exact hd i hi};{
 by_cases ej:o+i=L;{
 have:=hd i hi;rw [ej,h0] at this;simp only [Option.some.injEq,Value.int.injEq,true_and] at this;have hm:l.getD i 0∈l:=by rw [List.getD_eq_getElem?_getD,aE hi];exact List.getElem_mem hi
 exact absurd this.symm (hz _ hm)};{rw [hk _ ej];exact hd i hi}}};{exact (ah (ha.1.block b (cD hb) (fun e2=>e e2.symm)) _).trans (hd i hi)}}};{obtain ⟨cur,hb⟩:=h2 b e;by_cases e2:v.ownBlock=some b;{exact (ha.2 b e2).1.1};{exact ⟨cur,(ha.1.block b (cD hb) (fun e3=>e2 e3.symm)).trans hb⟩}}
theorem mr.au (h:mr g w w1) (ha:AU w1 w2 v L) (uv:∀ b,v.ownBlock=some b->w.heap.size<=b):mr g w w2:=
 h.tr ⟨ha.1.os,ha.1.tape,ha.1.output⟩ ha.1.size fun b hb hl=>ha.1.block b (by have:=h.2.1;omega) (fun e=>by have:=uv b e.symm;omega)
theorem IM (h:TU B w v l) (hl:l.length<=1000) (y:Int) (g2:Nat) (c0:w.cell? ⟨g2,0,none⟩=some (.int .u64 y)) :
  ∃ p' c' w',(Builtin.append_ #[36,36] 36 #[v,.slice (some ⟨g2,0,none⟩) 1 1]).run prog w=.ok (.slice p' (l.length+1) c') w'/\TW w' (.slice p' (l.length+1) c') (l++[y])/\AU w w' v l.length:=by
 obtain ⟨i,hi,hz,hs,hb⟩:=info_parts Tryz.infoU64;obtain ⟨⟨p,c,rfl,hd⟩,h2,WZ,-⟩:=h;have dR:∀ j u,([.int .u64 y]:List Value)[j]?=some u->w.cell? ((⟨g2,0,none⟩:Addr).add j)=some u:=fun j u hu=>by
  rw [Addr.add_lit];cases j with
  | zero=>simp at hu;subst hu;exact c0
  | succ j=>simp at hu
 have Ff:([.int .u64 y]:List Value).length=1*i.size:=by rw [hs];rfl
 cases p with
 | none=>
  have rh:l=[]:=by rcases hd with hd | ⟨b,o,e,-⟩;{exact hd};{cases e}
  subst rh;have ec:=WZ.2 _ _ rfl;subst ec;obtain ⟨v',w',hr,h3,h4,-⟩:=run_append_own (P:=prog) w w.heap.size 36 36 23 i (.int .u64 0) 1 8 underlying36 hi hz hs hb rfl (by decide) (.slice none 0 0) 0 [] (World.ownsRow_nil w _ _ 1) ⟨g2,0,none⟩ 1 1 [.int .u64 y] rfl dR (fun u hu=>by simp at hu;subst hu;rfl) (by unfold maxLen;omega) (by omega) ax;have ho:mO w.heap.size w' v' [y]:=h3;obtain ⟨p',c',e⟩:=ho.form;subst e;refine ⟨p',c',w',hr,⟨ho.rdu,fun b e=>?_⟩,h4,fun b e=>by simp [Value.ownBlock] at e⟩
  change (Value.slice p' [y].length c').ownBlock=some b at e
  rcases ho.2 with ⟨e2,-⟩ | ⟨g,cap,cur,e2,-,hg,-⟩;{rw [e2] at e;simp [Value.ownBlock] at e};{rw [e2] at e;simp only [Value.ownBlock,Option.some.injEq] at e;subst e;exact ⟨cur,hg⟩}
 | some a=>
  obtain ⟨a1,a2,a3⟩:=WZ.1 a _ _ rfl;obtain ⟨b,o,sp⟩:=a;simp only at a1 a2 a3;subst a1 a2;obtain ⟨cur,hg⟩:=h2 b rfl;have bE:∀ j,j<l.length->w.cell? ⟨b,j,none⟩=some (.int .u64 (l.getD j 0)):=fun j hj=>by rcases hd with rfl | ⟨b',o',e,hc⟩;{simp at hj};{simp only [Option.some.injEq,Addr.mk.injEq,and_true] at e;obtain ⟨rfl,rfl⟩:=e;have:=hc j hj;rwa [Nat.zero_add] at this}
  have yy:∀ j,j<(l++[y]).length->(if j=l.length then some (Value.int .u64 y) else w.cell? ⟨b,j,none⟩)=some (.int .u64 ((l++[y]).getD j 0)):=fun j hj=>by
   simp at hj;by_cases ej:j=l.length;{
 rw [if_pos ej,ej,List.getD_eq_getElem?_getD,List.getElem?_append_right ax,Nat.sub_self]
 rfl}
   {rw [if_neg ej,bE j (by omega),List.getD_eq_getElem?_getD,List.getD_eq_getElem?_getD,List.getElem?_append_left (by omega)]}
  by_cases oW:l.length+1<=c;{
 have h0:=a3 l.length ax (by omega);have br:l.length<cur.toList.length:=by rw [cell_of_row _ _ _ _ _ _ hg] at h0;have:=(Array.getElem?_eq_some_iff.1 h0).1;simpa using this
 have hr:=run_append_room (P:=prog) w 36 36 23 i underlying36 hi b l.length c cur hg ⟨g2,0,none⟩ 1 1 [.int .u64 y] Ff dR (fun u hu=>by simp at hu;subst hu;rfl) oW (by rw [hs];simp at br ⊢;omega);have ag8:(cur.toList.take (l.length*i.size)++[Value.int .u64 y]++cur.toList.drop (l.length*i.size+[Value.int .u64 y].length))=cur.toList.set l.length (.int .u64 y):=by rw [hs,List.set_eq_take_append_cons_drop,if_pos br];simp
 rw [ag8] at hr;have hh:=setRow_heap w b cur (cur.toList.set l.length (.int .u64 y)).toArray _ _ hg;have hcj:∀ j,(w.setRow b (cur.toList.set l.length (.int .u64 y)).toArray).cell? ⟨b,j,none⟩=if j=l.length then some (.int .u64 y) else w.cell? ⟨b,j,none⟩:=fun j=>by rw [cell_of_row _ _ _ _ _ _ hh,cell_of_row _ _ _ _ _ _ hg,List.getElem?_toArray,List.getElem?_set];by_cases ej:l.length=j;{rw [if_pos ej,if_pos ej.symm,if_pos br]};{rw [if_neg ej,if_neg (fun e=>ej e.symm),Array.getElem?_toList]}
 refine ⟨_,_,_,hr,⟨⟨_,_,by rw [List.length_append];rfl,.inr ⟨b,0,rfl,fun j hj=>?_⟩⟩,fun b' e=>?_⟩,⟨rfl,rfl,rfl,by simp,fun k _ hk=>setRow_other w b k _ (fun e=>hk (by simp [Value.ownBlock,e]))⟩,fun b' e=>?_⟩;{rw [Nat.zero_add,hcj];exact yy j hj};{simp only [Value.ownBlock,Option.some.injEq] at e;subst e;exact ⟨_,hh⟩};{simp only [Value.ownBlock,Option.some.injEq] at e;subst e;exact ⟨⟨⟨_,hh⟩,_,hg⟩,.inr ⟨h0,fun j hj=>by rw [hcj,if_neg hj]⟩⟩}};{
 have holds:∀ j u,(l.map (Value.int .u64))[j]?=some u->w.cell? ((⟨b,0,none⟩:Addr).add j)=some u:=fun j u hu=>by
  have hj:j<l.length:=by have:=(aJ.1 hu).1;simpa using this
  rw [Addr.add_lit,Nat.zero_add,bE j hj,<-hu,List.getElem?_map,List.getD_eq_getElem?_getD,aE hj]
  rfl
 have hr:=run_append_grow (P:=prog) w 36 36 23 i (.int .u64 0) underlying36 hi hz ⟨b,0,none⟩ l.length c (l.map (Value.int .u64)) (by rw [hs];simp) holds ⟨g2,0,none⟩ 1 1 [.int .u64 y] Ff dR (by omega) (by omega) (growslice_fits (by omega) (by rw [hb];omega));refine ⟨_,_,_,hr,⟨⟨_,_,by rw [List.length_append];rfl,.inr ⟨w.heap.size,0,rfl,fun j hj=>?_⟩⟩,fun b' e=>?_⟩,⟨rfl,rfl,rfl,by simp,fun k hk _=>Go.heap_alloc_old w.drew _ hk⟩,fun b' e=>?_⟩;{
 rw [Nat.zero_add,cell_of_row _ w.heap.size _ _ _ _ (Go.heap_alloc_new w.drew _)];rw [List.length_append] at hj;simp at hj;rw [Array.getElem?_append_left (by simp;omega),show (l.map (Value.int .u64)).toArray++[Value.int .u64 y].toArray=((l++[y]).map (Value.int .u64)).toArray by simp,List.getElem?_toArray,List.getElem?_map,List.getD_eq_getElem?_getD,aE (by simp;omega)]
 rfl}
 {simp only [Value.ownBlock,Option.some.injEq] at e;subst e;exact ⟨_,Go.heap_alloc_new w.drew _⟩};{simp only [Value.ownBlock,Option.some.injEq] at e;subst e;have hk:(w.drew.alloc (.cells ((l.map (Value.int .u64)).toArray++[Value.int .u64 y].toArray++Builtin.zeroCells (Value.cells (.int .u64 0)) (grownCap w (l.length+1) c 23-(l.length+1))) 23)).heap[b]?=w.heap[b]?:=Go.heap_alloc_old w.drew _ (cD hg);exact ⟨⟨⟨cur,hk.trans hg⟩,cur,hg⟩,.inl fun j=>ah hk _⟩}}
theorem zl.put {g n cap:Nat} (h:zl B w (.slice (some ⟨g,0,none⟩) n cap) ns) {nd:aA} (hx:ns[i]?=some nd) (hj:j<8) (u:Value) (nd':aA)
  (hn:∀ w' P V H U,TB w' P nd.path->TB w' V nd.value->TW w' H nd.holders->TW w' U nd.watchers->Fr [38] w w'->ta w' nd' ([P,V,.int .u64 nd.owner,.int .i64 nd.mode,H,.int .u64 nd.aD,.int .u64 nd.gen,U].set j u)) :
  zl B (w.setCell ⟨g,i*8+j,none⟩ u) (.slice (some ⟨g,0,none⟩) n cap) (ns.set i nd')/\Fr [38] w (w.setCell ⟨g,i*8+j,none⟩ u):=by
 obtain ⟨cur,hc⟩:=h.gS g rfl;have hf:Fr [38] w (w.setCell ⟨g,i*8+j,none⟩ u):=Fr.set hc (by simp);have t1:5∉[38]:=by decide
 have t2:23∉[38]:=by decide
 refine ⟨RT.put h hx hj u nd' (ta.fr hf t1 t2) (fun c _ he=>?_),hf⟩;obtain ⟨P,V,H,U,rfl,h1,h2,h3,h4⟩:=he;exact hn _ P V H U (h1.fr hf t1) (h2.fr hf t1) (h3.fr hf t2) (h4.fr hf t2) hf
theorem Rd.z64 (h:Rd w v l) (hk:∀ b j,v.ownBlock=some b->w'.cell? ⟨b,j,none⟩=w.cell? ⟨b,j,none⟩\/w.cell? ⟨b,j,none⟩=some (.int .u64 0)):Rd w' v l:=by
 obtain ⟨p,c,rfl,hd⟩:=h;refine ⟨p,c,rfl,?_⟩;rcases hd with hd | ⟨b,o,rfl,hd⟩;{exact .inl hd};{refine .inr ⟨b,o,rfl,fun i hi=>?_⟩;rcases hk b (o+i) rfl with e | e;{rw [e];exact hd i hi};{have:=hd i hi;rw [e] at this;simp at this}}
theorem AU.fr (h:AU w w' v L):Fr [23] w w':=Fr.grown h.1 fun b hb=>by
 obtain ⟨⟨-,cur,hc⟩,-⟩:=h.2 b hb;exact ⟨cur,_,hc,by simp⟩
theorem AU.cell (h:AU w w' v L) (b j:Nat) (hb:b<w.heap.size):w'.cell? ⟨b,j,none⟩=w.cell? ⟨b,j,none⟩\/w.cell? ⟨b,j,none⟩=some (.int .u64 0):=by
 by_cases e:v.ownBlock=some b;{rcases (h.2 b e).2 with hc | ⟨h0,hc⟩;{exact .inl (hc j)};{by_cases ej:j=L;{rw [ej];exact .inr h0};{exact .inl (hc j ej)}}};{exact .inl (ah (h.1.block b hb (fun e2=>e e2.symm)) _)}
theorem RA.au (h:RA w0 w sb rb g p cd c t vs) (ha:AU w w1 v L) (uv:∀ b,v.ownBlock=some b->w0.heap.size<=b):RA w0 w1 sb rb g p cd c t vs:=by
 have f:=ha.fr;obtain ⟨cur,hc⟩:=h.fR.ty;have hg:=f.2 _ _ _ _ (by decide) hc;have hgk:=hg.trans hc.symm;have iu:=h.fR.lt;refine ⟨h.box.fr f (by decide),h.res.fr f (by decide),⟨(ah hgk _).trans h.fR.c0,(ah hgk _).trans h.fR.c1,⟨cur,hg⟩,?_,h.fR.lo⟩,h.dr.au ha uv,h.ne,h.lo,h.gl⟩;by_cases hcd:cd=[];{obtain ⟨q,d,e1,-⟩:=h.fR.rd;exact ⟨q,d,e1,.inl hcd⟩};{exact h.fR.rd.z64 fun b j e=>ha.cell b j (by have:=h.fR.lo hcd b e;omega)}
theorem tb2 {y:Int} (h:al w b [.int .u8 x,.int .u8 y]) (ht:∃ cur,w.heap[b]?=some (.cells cur 5)):TB w (.slice (some ⟨b,0,none⟩) 2 2) [x,y]:=by
 refine ⟨⟨_,_,rfl,.inr ⟨b,0,rfl,fun i hi=>?_⟩⟩,fun b' e=>.inr ?_,_,_,_,rfl,by omega,by unfold maxLen;omega⟩;{
 simp at hi;have:i=0\/i=1:=by omega
 rw [Nat.zero_add];rcases this with rfl | rfl;{exact h.1 0 _ rfl};{exact h.1 1 _ rfl}};{simp only [Value.ownBlock,Option.some.injEq] at e;subst e;obtain ⟨cur,hc⟩:=ht;exact ⟨cur,_,hc⟩}
theorem rM (w:World):∃ W1 W2,W1=w.alloc (.cells #[.int .u8 47,.int .u8 97] 5)/\(convert 22 22 (.slice (some ⟨w.heap.size,0,none⟩) 2 2)).run prog W1=.ok (.slice (some ⟨w.heap.size,0,none⟩) 2 2) W2/\Below w.heap.size w W1/\Below w.heap.size w W2/\TB W2 (.slice (some ⟨w.heap.size,0,none⟩) 2 2) [47,97]:=by
 have hcv:=Lib.run_convert_bytes_const (P:=prog) w 22 5 #[.int .u8 47,.int .u8 97] 2 2 underlying22 underlying5;refine ⟨_,_,rfl,hcv,ay.alloc ax _,ay.alloc ax _,⟨_,_,rfl,.inr ⟨w.heap.size,0,rfl,fun i hi=>?_⟩⟩,fun b e=>.inr ?_,_,_,_,rfl,by omega,by unfold maxLen;omega⟩;{
 match i,hi with
 | 0,_=>(rw [Nat.zero_add,tv];rfl)
 | 1,_=>(rw [Nat.zero_add,tv];rfl)}
 {simp only [Value.ownBlock,Option.some.injEq] at e;subst e;exact ⟨#[.int .u8 47,.int .u8 97],(2,3),by show (w.heap.push _)[w.heap.size]?=_;simp⟩}
def Gk (w:World) (g j:Nat):Nat:=match w.cell? ⟨g,j*3+2,none⟩ with
 | some (.slice _ n _)=>20-n
 | _=>0
theorem lh {g n cap:Nat} (h:de B w (.slice (some ⟨g,0,none⟩) n cap) ss Qs) (hs:ss[j]?=some s):Gk w g j=20-s.2.2.length:=by
 obtain ⟨g',Q,e,-,-,-,-,-,hc,hq,-⟩:=de.at h hs;simp only [Option.some.injEq,Addr.mk.injEq,and_true] at e;subst e;obtain ⟨p,c,rfl,-⟩:=RT.form hq;unfold Gk;rw [hc]
theorem ot {ops:Array Oper} {o:Oper} {a:Act} {K:Act->World->Prop} {Q:Exit->Act->World->Prop} {E:Prop} {t tn:TypeId} {vs vx:Value} (hr:(Builtin.append_ #[t,tn] o.type #[vs,vx]).run prog w=.ok v' w') (h:K (a.put o.dst v') w') {s x:Operand} (jw:o.guard=none:=by rfl) (ho:o.op=.call { callee:=.builtin .append,args:=#[s,x],argTypes:=#[t,tn] }:=by rfl) (hs:a.eval s=vs:=by rfl) (hx:a.eval x=vx:=by rfl) :
  if Region.wanted o (yielded ops a.tmps)=true then Oper.wp prog o a w K Q else E:=by
 have hw:Region.wanted o (yielded ops a.tmps)=true:=by simp [Region.wanted,jw]
 rw [if_pos hw];exact Lib.wp_append_run w s x t tn ho vs vx hs hx v' w' hr h
theorem RA.row {T:List TypeId} (h:RA w0 w sb rb g p cd c t vs) {u:Value} (hf:Fr T w (w.setCell ⟨b,j,none⟩ u)) (ht:27∉T) (hb:w0.heap.size<=b):RA w0 (w.setCell ⟨b,j,none⟩ u) sb rb g p cd c t vs:=
 h.fr hf ht (ay.setCell (p:=⟨b,j,none⟩) hb _)
theorem gh.VC {gs m:Nat} (h:gh w (.slice (some ⟨gs,0,none⟩) m cs) ss) (hm:ss.length=m) (c':Nat):gh w (.slice (some ⟨gs,3,none⟩) (m-1) c') (ss.drop 1):=by
 obtain ⟨p,c,e,hd⟩:=h;simp only [Value.slice.injEq] at e;obtain ⟨rfl,-,rfl⟩:=e;refine ⟨_,_,by rw [List.length_drop,hm],?_⟩;rcases hd with rfl | ⟨b,o,e2,hc⟩;{exact .inl rfl};{simp only [Option.some.injEq,Addr.mk.injEq,and_true] at e2;obtain ⟨rfl,rfl⟩:=e2;refine .inr ⟨gs,3,rfl,fun i s hi=>?_⟩;rw [List.getElem?_drop,Nat.add_comm] at hi;have:=hc (i+1) s hi;rw [show 0+(i+1)*3=3+i*3 by omega] at this;exact this}
theorem OI {G H:World->World->Option Addr->Nat->Option Addr->Nat->Option Addr->Nat->Option Addr->Nat->Prop} {Q:Prop} (main:(∀ v1 v2 a0 b0 a1 b1 a4 b4 a7 b7,H v1 v2 a0 b0 a1 b1 a4 b4 a7 b7->G v1 v2 a0 b0 a1 b1 a4 b4 a7 b7)->Q) (tail:∀ v1 v2 a0 b0 a1 b1 a4 b4 a7 b7,H v1 v2 a0 b0 a1 b1 a4 b4 a7 b7->G v1 v2 a0 b0 a1 b1 a4 b4 a7 b7):Q:=main tail
theorem RA.Y6 {o0 o1 o2 o3 o4 o5:Value} (h:RA w0 w sb rb g p cd c t [o0,o1,o2,o3,o4,o5]) (hZ:Z=aP w sb v0 v1 v2 v3 v4 v5):RA w0 Z sb rb g p cd c t [v0,v1,v2,v3,v4,v5]/\Fr [27] w Z:=by
 subst hZ;obtain ⟨cur,hc⟩:=h.box.2;have b2:=bH w sb v0 v1 v2 v3 v4 v5;exact ⟨⟨h.box.put _ _ _ _ _ _,h.res.pD h.ne _ _ _ _ _ _,h.fR.low (b2.mono h.lo.1) h.gl,h.dr.add (b2.mono h.lo.1),h.ne,h.lo,h.gl⟩,dJ hc⟩
def jS (w0 wc:World) (sb rb g:Nat) (p:Option Addr) (cd:List Int) (c:Nat) (D:SD):Prop:=∃ t ps cs qs ds,RA w0 wc sb rb g p cd c t [.int .u64 D.e,.int .u64 D.g,.int .u64 D.x,.int .i64 D.t,.slice ps D.ss.length cs,.slice qs D.ns.length ds]/\∀ w',Kx wc w'->gh w' (.slice ps D.ss.length cs) D.ss/\mi w' (.slice qs D.ns.length ds) D.ns
theorem jS.of (h:RA w0 wc sb rb g p cd c t [.int .u64 D.e,.int .u64 D.g,.int .u64 D.x,.int .i64 D.t,.slice ps n1 cs,.slice qs m1 ds]) (hS:∀ w',Kx wc w'->gh w' (.slice ps n1 cs) D.ss) (hN:∀ w',Kx wc w'->mi w' (.slice qs m1 ds) D.ns):jS w0 wc sb rb g p cd c D:=by
 have e1:n1=D.ss.length:=by obtain ⟨p',c',e,-⟩:=hS wc (Fr.refl _ _);simp only [Value.slice.injEq] at e;exact e.2.1
 have e2:m1=D.ns.length:=by obtain ⟨p',c',e,-⟩:=hN wc (Fr.refl _ _);simp only [Value.slice.injEq] at e;exact e.2.1
 subst e1 e2;exact ⟨t,ps,cs,qs,ds,h,fun w' hf=>⟨hS w' hf,hN w' hf⟩⟩
theorem jS.sp {B2 B3:Nat} (h:RA w0 wc sb rb g p cd c t [.int .u64 D.e,.int .u64 D.g,.int .u64 D.x,.int .i64 D.t,.slice ps n1 cs,.slice qs m1 ds]) (hS:de B wc (.slice ps n1 cs) D.ss Qs) (hN:aR B3 B2 wc (.slice qs m1 ds) D.ns):jS w0 wc sb rb g p cd c D:=
 jS.of h (fun w' hf=>hS.kx hf) (fun w' hf=>aR.kx hN hf)
end Go.Proofs.YtcfcafeciggjeaaGreatDoor
