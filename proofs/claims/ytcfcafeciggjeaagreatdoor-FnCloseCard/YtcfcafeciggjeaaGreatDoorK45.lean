import Derived.Test.YtcfcafeciggjeaaGreatDoorDW2
import Derived.Test.YtcfcafeciggjeaaGreatDoorK42
import Derived.Test.YtcfcafeciggjeaaGreatDoorASg
namespace Go.Proofs.YtcfcafeciggjeaaGreatDoor
set_option maxHeartbeats 12800000
set_option linter.unusedVariables false
set_option linter.unusedSimpArgs false
set_option maxRecDepth 100000
open Go.ChangeShapes Go.WideShapes Go.ChangeAt Go.RowKit Go.Deep Go.Proofs.Tryz
variable {D:SD} {Qs:List Value} {c cs ds g i sb t:Nat} {cd:List Int} {f:Nat->Ey} {p ps qs:Option Addr} {w w0 w1:World}
def Ax (cd:List Int) (f:Nat->Ey) (s:SD × Nat):SD × Nat:=
 if cd.length<=s.2 then s
 else if cd.getD (f s.2).t 0 % 8=1 then ({ (bS s.1 (f s.2).K (f s.2).S (f s.2).F (f s.2).E (f s.2).G (f s.2).P (f s.2).V).1 with t:=s.1.t+cd.getD ((f s.2).t+1) 0 % 6 },(f s.2).t+1+1)
 else ((bS s.1 (f s.2).K (f s.2).S (f s.2).F (f s.2).E (f s.2).G (f s.2).P (f s.2).V).1,(f s.2).t+1)
def runK (cd:List Int) (f:Nat->Ey) (s:SD × Nat):Nat->SD × Nat
 | 0=>s
 | k+1=>Ax cd f (runK cd f s k)
theorem uQ {s:SD × Nat} (h:cd.length<=(runK cd f s i).2):∀ j,runK cd f s (i+j)=runK cd f s i
 | 0=>rfl
 | j+1=>by show Ax cd f (runK cd f s (i+j))=_;rw [uQ h j,Ax,if_pos h]
def VR (i:Nat) (D:SD):Prop:=VD D/\0<=D.e/\D.t<=40+5*i
theorem VR.app (h:VR i D) {K S F E G:Int} {P V:List Int} (hP:bQ P) (hV:bQ V):VR i (bS D K S F E G P V).1:=⟨h.1.apply hP hV,by rw [LM];exact h.2.1,by rw [Dp];exact h.2.2⟩
theorem VD.time (h:VD D) {t:Int} (h0:0<=t) (h1:t<=1000000):VD { D with t:=t }:=⟨h.e,h.g,h.x,⟨h0,h1⟩,h.sl,h.nl,h.s1,h.s2,h.n1,h.n2⟩
theorem JV (hb:bQ cd) (hf:∀ t,Fo (f t)) {s:SD × Nat} (hi:i<1000) (h:VR i s.1):VR (i+1) (Ax cd f s).1:=by
 unfold Ax;have h':VR (i+1) s.1:=⟨h.1,h.2.1,by have:=h.2.2;omega⟩;split;{exact h'};{have ha:=h.app (K:=(f s.2).K) (S:=(f s.2).S) (F:=(f s.2).F) (E:=(f s.2).E) (G:=(f s.2).G) (hf s.2).p (hf s.2).v;split;{have r:=aV cd hb ((f s.2).t+1);have ht:=h.1.t;have h2:=h.2.2;refine ⟨ha.1.time (by omega) (by omega),ha.2.1,?_⟩;show s.1.t+cd.getD ((f s.2).t+1) 0 % 6<=_;omega};{exact ⟨ha.1,ha.2.1,Int.le_trans ha.2.2 (by omega)⟩}}
theorem Co (hb:bQ cd) (hf:∀ t,Fo (f t)) {s:SD × Nat} (h:VR 0 s.1):∀ i,i<1000->VR i (runK cd f s i).1
 | 0,_=>h
 | i+1,hi=>JV hb hf (by omega) (Co hb hf h i (by omega))
theorem VS {x0 x1:Int} (r0:0<=x0/\x0<256) (r1:0<=x1/\x1<256):VR 0 ⟨1+x0 % 3,0,0,x1 % 40,[],[]⟩:=by
 refine ⟨⟨by show 1+x0 % 3<=4611686018427387904;omega,⟨Int.le_refl _,by show (0:Int)<=4611686018427387904;decide⟩,⟨Int.le_refl _,by show (0:Int)<=4611686018427387904;decide⟩,by show 0<=x1 % 40/\x1 % 40<=1000000;omega,by simp,by simp,List.Pairwise.nil,fun s hs=>by simp at hs,List.Pairwise.nil,fun s hs=>by simp at hs⟩,by show 0<=1+x0 % 3;omega,by show x1 % 40<=40+5*((0:Nat):Int);omega⟩
def xP (D:SD):Nat->SD
 | 0=>D
 | k+1=>(bS (xP D k) 1 0 0 0 0 [] []).1
def yX (D:SD):Nat->SD
 | 0=>D
 | k+1=>(bS (yX D k) 4 1 0 0 0 (xM.getD k []) []).1
theorem Cv (h:VR 0 D):∀ k,VR 0 (xP D k)
 | 0=>h
 | k+1=>(Cv h k).app (fun z hz=>by simp at hz) (fun z hz=>by simp at hz)
theorem Dg (h:VR 0 D):∀ k,VR 0 (yX D k)
 | 0=>h
 | k+1=>(Dg h k).app (rE k).1 (fun z hz=>by simp at hz)
structure RB (w0 w:World) (sb g:Nat) (p:Option Addr) (cd:List Int) (c t:Nat) (D:SD):Prop where
 st:∃ ps cs qs ds Qs,BX w sb [.int .u64 D.e,.int .u64 D.g,.int .u64 D.x,.int .i64 D.t,.slice ps D.ss.length cs,.slice qs D.ns.length ds]/\de w0.heap.size w (.slice ps D.ss.length cs) D.ss Qs/\jh w0.heap.size w (.slice qs D.ns.length ds) D.ns
 res:BX w w0.heap.size [.int .u64 0,.int .u64 0,.int .u64 0,.int .i64 0,.slice none 0 0,.slice none 0 0]
 fR:ji w g p cd c t
 dr:Dr g w0 w
 lo:w0.heap.size<sb
 gl:g<w0.heap.size
theorem RB.draw {t':Nat} (h:RB w0 w sb g p cd c t D) (hd:ji w1 g p cd c t') (d:Dr g w w1):RB w0 w1 sb g p cd c t' D:=by
 have h2:=h.lo;have h3:=h.gl;obtain ⟨ps,cs,qs,ds,Qs,hx,hS,hN⟩:=h.st;exact ⟨⟨ps,cs,qs,ds,Qs,hx.fr d.1 (by decide),hS.fr d.1 (by decide),aR.fr hN d.1 (by decide)⟩,h.res.fr d.1 (by decide),hd,h.dr.trans d,h2,h3⟩
theorem RB.below (h:RB w0 w sb g p cd c t D) (b:Below w.heap.size w w1):RB w0 w1 sb g p cd c t D:=
 h.draw (h.fR.low b h.fR.lt) (Dr.below b h.fR.lt)
theorem RB.put {D1:SD} (h:RB w0 w sb g p cd c t D) (hS:de w0.heap.size w1 (.slice ps D1.ss.length cs) D1.ss Qs) (hN:jh w0.heap.size w1 (.slice qs D1.ns.length ds) D1.ns) (hf:Fr [49,35,38] w w1) (hb:Below w0.heap.size w w1) :
  RB w0 (aP w1 sb (.int .u64 D1.e) (.int .u64 D1.g) (.int .u64 D1.x) (.int .i64 D1.t) (.slice ps D1.ss.length cs) (.slice qs D1.ns.length ds)) sb g p cd c t D1:=by
 have h2:=h.lo;have h3:=h.gl;obtain ⟨ps0,cs0,qs0,ds0,Qs0,hx,-,-⟩:=h.st;have Tn:=hx.fr hf (by decide);obtain ⟨cur,hc⟩:=Tn.2;have f2:Fr [27] w1 (aP w1 sb (.int .u64 D1.e) (.int .u64 D1.g) (.int .u64 D1.x) (.int .i64 D1.t) (.slice ps D1.ss.length cs) (.slice qs D1.ns.length ds)):=dJ hc;have b2:=bH w1 sb (.int .u64 D1.e) (.int .u64 D1.g) (.int .u64 D1.x) (.int .i64 D1.t) (.slice ps D1.ss.length cs) (.slice qs D1.ns.length ds);exact ⟨⟨ps,cs,qs,ds,Qs,Tn.put _ _ _ _ _ _,hS.fr f2 (by decide),aR.fr hN f2 (by decide)⟩,(h.res.fr hf (by decide)).pD (by omega) _ _ _ _ _ _,(h.fR.low hb h3).low b2 (by omega),(h.dr.add hb h3).add (b2.mono (by omega)) h3,h2,h3⟩
theorem RB.time (h:RB w0 w sb g p cd c t D) (y:Int):RB w0 (w.setCell ⟨sb,3,none⟩ (.int .i64 y)) sb g p cd c t { D with t:=y }:=by
 have h2:=h.lo;have h3:=h.gl;obtain ⟨ps,cs,qs,ds,Qs,hx,hS,hN⟩:=h.st;have ts:=aZ (j:=3) (u:=.int .i64 y) hx.2;have b2:Below sb w (w.setCell ⟨sb,3,none⟩ (.int .i64 y)):=ay.setCell (p:=⟨sb,3,none⟩) ax _;exact ⟨⟨ps,cs,qs,ds,Qs,⟨hx.1.da 3 (by simp) _,ts.1⟩,hS.fr ts.2 (by decide),aR.fr hN ts.2 (by decide)⟩,h.res.nF (by omega),h.fR.low b2 (by omega),h.dr.add (b2.mono (by omega)) h3,h2,h3⟩
theorem RB.fin (h:RB w0 w sb g p cd c t D) (hS:de w0.heap.size w (.slice ps D.ss.length cs) D.ss Qs) (hN:jh w0.heap.size w (.slice qs D.ns.length ds) D.ns) {Z:World} (hZ:Z=aP w w0.heap.size (.int .u64 D.e) (.int .u64 D.g) (.int .u64 D.x) (.int .i64 D.t) (.slice ps D.ss.length cs) (.slice qs D.ns.length ds)) :
  BX Z w0.heap.size [.int .u64 D.e,.int .u64 D.g,.int .u64 D.x,.int .i64 D.t,.slice ps D.ss.length cs,.slice qs D.ns.length ds]/\de w0.heap.size Z (.slice ps D.ss.length cs) D.ss Qs/\jh w0.heap.size Z (.slice qs D.ns.length ds) D.ns/\ji Z g p cd c t/\Dr g w0 Z:=by
 subst hZ;obtain ⟨cur,hc⟩:=h.res.2;have f2:Fr [27] w (aP w w0.heap.size (.int .u64 D.e) (.int .u64 D.g) (.int .u64 D.x) (.int .i64 D.t) (.slice ps D.ss.length cs) (.slice qs D.ns.length ds)):=dJ hc;have b2:=bH w w0.heap.size (.int .u64 D.e) (.int .u64 D.g) (.int .u64 D.x) (.int .i64 D.t) (.slice ps D.ss.length cs) (.slice qs D.ns.length ds);exact ⟨h.res.put _ _ _ _ _ _,hS.fr f2 (by decide),aR.fr hN f2 (by decide),h.fR.low b2 h.gl,h.dr.add b2 h.gl⟩
theorem uL {ops:Array Oper} {o:Oper} {a:Act} {K:Act->World->Prop} {Q:Exit->Act->World->Prop} {E:Prop} (l:List Int) (hB:bQ l) (hl:l.length<=1048576)
  (hK:∀ p' c' w',Cc w.heap.size w' (.slice p' l.length c') l->Below w.heap.size w w'->K (a.put o.dst (.slice p' l.length c')) w') {x:Operand} (jw:o.guard=none:=by rfl) (yx:o.op=Op.convert 9 22 x:=by rfl) (hx:a.eval x=.string (aY l):=by rfl) :
  if Region.wanted o (yielded ops a.tmps)=true then Oper.wp prog o a w K Q else E:=by
 have hw:Region.wanted o (yielded ops a.tmps)=true:=by simp [Region.wanted,jw]
 rw [if_pos hw];obtain ⟨c',W,du,hP,hb⟩:=rK w hB hl;unfold Oper.wp;simp only [execOp,yx,hx,Sem.run_bind,Sem.run_pure,Result.andThen_ok,du,Result.andThen];exact hK _ _ _ hP hb
theorem RB.app (h:RB w0 w sb g p cd c t D) (hv:VD D) (hx:BX w sb [.int .u64 D.e,.int .u64 D.g,.int .u64 D.x,.int .i64 D.t,.slice ps D.ss.length cs,.slice qs D.ns.length ds])
  (K S F E G:Int) (pp:Option Addr) (cp:Nat) (pq:Option Addr) (cv:Nat) (P V:List Int) (hP:TB w (.slice pp P.length cp) P) (hV:TB w (.slice pq V.length cv) V) (bP:bQ P) (lP:P.length<=1000) (lV:V.length<=1000) (R:SD × RP) (eR:Hid (bS D K S F E G P V=R)) :
  Calls prog 40 #[cK D.e D.g D.x D.t (.slice ps D.ss.length cs) (.slice qs D.ns.length ds),tJ K S (.slice pp P.length cp) F (.slice pq V.length cv) E G] w fun r w'=>∃ p1 c1 q1 d1 Rv,r=.returned (.tuple #[cK R.1.e R.1.g R.1.x R.1.t (.slice p1 R.1.ss.length c1) (.slice q1 R.1.ns.length d1),Rv])/\RB w0 (aP w' sb (.int .u64 R.1.e) (.int .u64 R.1.g) (.int .u64 R.1.x) (.int .i64 R.1.t) (.slice p1 R.1.ss.length c1) (.slice q1 R.1.ns.length d1)) sb g p cd c t R.1/\BX w' sb [.int .u64 D.e,.int .u64 D.g,.int .u64 D.x,.int .i64 D.t,.slice ps D.ss.length cs,.slice qs D.ns.length ds]/\Fr [49,35,38] w w':=by
 obtain ⟨ps0,cs0,qs0,ds0,Qs,Zq,hS,hN⟩:=h.st;have e4:=(hx.1.1 4 _ rfl).symm.trans (Zq.1.1 4 _ rfl);have e5:=(hx.1.1 5 _ rfl).symm.trans (Zq.1.1 5 _ rfl);simp only [Option.some.injEq,Value.slice.injEq] at e4 e5;obtain ⟨rfl,-,rfl⟩:=e4;obtain ⟨rfl,-,rfl⟩:=e5;obtain ⟨p1,n1,c1,ec,mG,jN⟩:=hP.2.2;simp only [Value.slice.injEq] at ec;obtain ⟨-,rfl,rfl⟩:=ec;have sl:=hv.sl;have nl:=hv.nl;refine (BQ D.e D.g D.x D.t ps D.ss.length cs qs D.ns.length ds D.ss Qs D.ns (ae rfl) (ae rfl) K S F E G pp P.length cp pq V.length cv P V (ae rfl) (ae rfl) w0.heap.size w (ae hS) (ae hN) (ae hP.1) (ae hV.1) (h.dr.2.1.size) (by omega) (by omega) (by omega) (by omega) mG jN (ae hv.wf) (ae bP) R eR).mono ?_;rintro r w' ⟨p',c',q',d',Dv,Nv,Ev,tY,rfl,UN,hN',tD,tN,tE,hF,ij⟩;exact ⟨p',c',q',d',_,rfl,h.put UN hN' hF ij,hx.fr hF (by decide),hF⟩
def Ny (w:World) (pb:Nat):Prop:=∃ cur,w.heap[pb]?=some (.cells cur 9)/\∀ m,m<10->w.cell? ⟨pb,m,none⟩=some (.string (aY (xM.getD m [])))
theorem Ny.fr {T:List TypeId} {w':World} {pb:Nat} (h:Ny w pb) (hf:Fr T w w') (ht:9∉T):Ny w' pb:=by
 obtain ⟨cur,hc,hm⟩:=h;have hk:=hf.2 _ _ _ _ ht hc;exact ⟨cur,hk,fun m h=>(ah (hk.trans hc.symm) _).trans (hm m h)⟩
def aq7 (cd:List Int) (t n:Nat) (D:SD) (t':Nat):Prop:=
 ∀ (g:Nat) (p:Option Addr) (c:Nat) (w:World),ji w g p cd c t->Calls prog 83 #[.pointer (some ⟨g,0,none⟩),.int .i64 n] w fun r w'=>∃ ps cs qs ds Qs,r=.returned (cK D.e D.g D.x D.t (.slice ps D.ss.length cs) (.slice qs D.ns.length ds))/\de w.heap.size w' (.slice ps D.ss.length cs) D.ss Qs/\jh w.heap.size w' (.slice qs D.ns.length ds) D.ns/\ji w' g p cd c t'/\Dr g w w'
theorem rC (cd:List Int) (t n:Nat) (hb:bQ cd) (hl:cd.length<=500) (hn:n<=900):∃ D t',VD D/\0<=D.e/\aq7 cd t n D t':=by
 obtain ⟨f,hf⟩:=Classical.axiomOfChoice (fun t=>ti cd t hb hl);have yD:∀ t,Fo (f t):=fun t=>(hf t).1;have r0:=aV cd hb t;have r1:=aV cd hb (t+1);obtain ⟨x0,ex0⟩:=aN (cd.getD t 0);obtain ⟨x1,ex1⟩:=aN (cd.getD (t+1) 0);rw [ex0] at r0;rw [ex1] at r1;obtain ⟨D0,eD0⟩:∃ D:SD,Hid ((⟨1+x0 % 3,0,0,x1 % 40,[],[]⟩:SD)=D):=⟨_,ae rfl⟩;have V0:VR 0 D0:=by rw [<-aa eD0];exact VS r0 r1
 have V3:=fun k=>Cv V0 k;obtain ⟨D3,X5⟩:∃ D,Hid (xP D0 3=D):=⟨_,ae rfl⟩;have W3:VR 0 D3:=by rw [<-aa X5];exact V3 3
 have V7:=fun k=>Dg W3 k;obtain ⟨D7,eD7⟩:∃ D,Hid (yX D3 4=D):=⟨_,ae rfl⟩;have W7:VR 0 D7:=by rw [<-aa eD7];exact V7 4
 have VK:=Co hb yD (s:=(D7,t+1+1)) W7;have Xh:n<1000:=by omega
 have VN:=VK n Xh;refine ⟨_,(runK cd f (D7,t+1+1) n).2,VN.1,VN.2.1,?_⟩;intro g p c w h;have EX:=ae (ag ex0 ex1);have HV:=ae (ag V3 (ag V7 VK));have HF:=ae hf;clear ex0 ex1 V0 V3 V7 VK hf yD W3 W7 VN;have iu:=h.lt;obtain ⟨W0,cA,b0,z0,C0⟩:=bg w (.int .u64 0) (.int .u64 0) (.int .u64 0) (.int .i64 0) (.slice none 0 0) (.slice none 0 0);have Tz:=h.low b0 iu;have Jz:=ae (ag C0 (Dr.below b0 iu));clear b0 C0;go_enter func83,ntmps83;go_wp2_with fail;rw [<-cA];clear cA;refine (cY g p cd c t W0 Tz hb hl).mono ?_;rintro r w1 ⟨rfl,h1,d1⟩;rw [EX.1];go_wp2_with fail;refine (cY g p cd c (t+1) w1 h1 hb hl).mono ?_;rintro r w2 ⟨rfl,h2,d2⟩;rw [EX.2];have d12:=ae (d1.trans d2);have z2:w.heap.size+1<=w2.heap.size:=by have:=d12.2.1.size;omega
 obtain ⟨W3,j8,b3,z3,C3⟩:=bg w2 (.int .u64 (1+x0 % 3)) (.int .u64 0) (.int .u64 0) (.int .i64 (x1 % 40)) (.slice none 0 0) (.slice none 0 0);have H0:RB w W3 w2.heap.size g p cd c (t+1+1) D0:=by rw [<-aa eD0];exact ⟨⟨none,0,none,0,[],C3,de.nil _ _,RT.nil _ _ _ _ _⟩,((Jz.1.fr d12.1 (by decide))).below b3,h2.low b3 h2.lt,((Jz.2.trans d12)).trans (Dr.below b3 (by omega)),by omega,iu⟩
 obtain ⟨sb,il⟩:=aN w2.heap.size;rw [il] at H0;have HH:=ae H0;have ko:=ae il;clear H0 h1 d1 d2 h2 b3 C3 h Tz z0 z3 d12 Jz;have w3a:IntKind.u64.wrap (1+x0 % 3)=1+x0 % 3:=IntWalk.u64_in _ (by omega);clear il z2;go_wp2;rw [<-j8];clear j8;rw [aa ko];clear ko
 go_loopw [6] (fun iv wr=>∃ k:Nat,k<=3/\iv=.int .i64 k/\Hid (RB w wr sb g p cd c (t+1+1) (xP D0 k))) (fun iv _=>3-(intOf iv).toNat)
 case atStart=>exact ⟨0,by omega,rfl,HH⟩
 case round =>(
 obtain ⟨k,hk,rfl,HR⟩:=hrel;by_cases br:k<3;{
 have bt:(k:Int)<3:=by omega
 obtain ⟨ps,cs,qs,ds,Qs,hx,-,-⟩:=HR.st;obtain ⟨q0,q1,q2,q3,q4,q5,qf⟩:=hx.cells;obtain ⟨D,eD⟩:∃ D,Hid (xP D0 k=D):=⟨_,ae rfl⟩;have hv:VD (xP D0 k):=(HV.1 k).1;obtain ⟨R,eR⟩:∃ R,Hid (bS (xP D0 k) 1 0 0 0 0 [] []=R):=⟨_,ae rfl⟩;have hE:Hid (xP D0 (k+1)=R.1):=by rw [<-aa eR];rfl
 rw [aa eD] at HR hx q0 q1 q2 q3 q4 q5 hv eR;have HX:=ae (ag hx hv);clear hx hv;go_wp2_with fail;refine (HR.app HX.2 HX.1 1 0 0 0 0 none 0 none 0 [] [] (TB.nil _) (TB.nil _) (fun z hz=>by simp at hz) (by simp) (by simp) R eR).mono ?_;rintro r w' ⟨p1,c1,JZ,d1,Rv,rfl,H2,rH,-⟩;obtain ⟨Z,hZ⟩:=ar (aP w' sb (.int .u64 R.1.e) (.int .u64 R.1.g) (.int .u64 R.1.x) (.int .i64 R.1.t) (.slice p1 R.1.ss.length c1) (.slice JZ R.1.ns.length d1));rw [<-hZ] at H2;have H3:=ae H2;clear H2 HX HR q0 q1 q2 q3 q4 q5 qf;obtain ⟨q0,q1,q2,q3,q4,q5,qf⟩:=rH.cells;clear rH;unfold aP at hZ;go_wp2;rw [<-hZ];go_roundw
 case rel=>exact ⟨k+1,by omega,by go_num,by rw [aa hE];exact H3⟩
 case measure=>simp [intOf];omega}
 {
 have bt:¬ (k:Int)<3:=by omega
 have e3:k=3:=by omega
 subst e3;rw [aa X5] at HR;go_wp2_with fail;refine (jc wr).mono ?_;rintro r w4 ⟨rfl,yF,b4,z4,aj7,Tt⟩;have H4:=ae (HR.below b4);obtain ⟨pb,epb⟩:=aN wr.heap.size;rw [epb] at yF Tt;have P4:Hid (Ny w4 pb):=⟨aj7,Tt,yF⟩;clear HR yF Tt b4 z4;have EPB:=ae epb;clear epb;go_wp2;rw [aa EPB];clear EPB;have HCG:=ae (fun (vs:Array Value) (w:World)=>show (callFunc 40 vs).run prog w=.ok (.enter 40 vs) w by kernel_rfl)
 go_loopw [8] (fun iv wr=>∃ k:Nat,k<=4/\iv=.int .i64 k/\Hid (RB w wr sb g p cd c (t+1+1) (yX D3 k))/\Hid (Ny wr pb)) (fun iv _=>4-(intOf iv).toNat)
 case atStart=>exact ⟨0,by omega,rfl,H4,P4⟩
 case round =>(
 obtain ⟨k,hk,rfl,HR,HP⟩:=hrel;by_cases br:k<4;{
 have bt:(k:Int)<4:=by omega
 have Ea:(k:Int)<10:=by omega
 obtain ⟨D,eD⟩:∃ D,Hid (yX D3 k=D):=⟨_,ae rfl⟩;have hv:VD (yX D3 k):=(HV.2.1 k).1;obtain ⟨P,eP⟩:∃ P,Hid (xM.getD k []=P):=⟨_,ae rfl⟩;have hP:=rE k;rw [aa eP] at hP;obtain ⟨R,eR⟩:∃ R,Hid (bS (yX D3 k) 4 1 0 0 0 P []=R):=⟨_,ae rfl⟩;have hE:Hid (yX D3 (k+1)=R.1):=by rw [<-aa eR,<-aa eP];rfl
 rw [aa eD] at HR hv eR;obtain ⟨ps,cs,qs,ds,Qs,hx,-,-⟩:=HR.st;have hkp:∀ v,Ny v pb->v.cell? ⟨pb,k,none⟩=some (.string (aY P)):=fun v hv=>by obtain ⟨cur,-,hm⟩:=hv;rw [<-aa eP];exact hm k (by omega)
 have HK:=ae hkp;have HX:=ae (ag hx hv);clear hx hv hkp;go_wp2_with fail;obtain ⟨vA,bM⟩:=ar wr.drew;have bA:Below wr.heap.size wr vA:=by rw [bM];exact ay.drew
 have HA:=ae (ag (HR.below bA) (ag (HP.fr (Fr.below (T:=[]) bA) (by simp)) (HX.1.below bA)));refine wp_region_noPanic ?_;refine wp_region_held_drew (S:=fun w'=>w'.cell? ⟨pb,k,none⟩=some (.string (aY P))) (by kernel_rfl) (by rw [<-bM];exact aa HK vA HA.2.1) (fun hS=>?_);rw [<-bM] at hS ⊢;clear bM bA HR HP;refine gp 1 2 3 4 hS ?_;refine ry [0,5] ?_;refine cn (fun KK hK=>?_) (cn (fun KK hK=>?_) AllReadyH.nil);{
 obtain ⟨q0,q1,q2,q3,q4,q5,qf⟩:=HA.2.2.cells;go_simp;refine bm hK (by exact HK vA HA.2.1) fun hS=>?_;clear hK KK q0 q1 q2 q3 q4 q5 qf;refine aH 5 fun KK hK=>?_;refine uL P hP.1 (by omega) ?_;intro pp cp v1 rq b1;have HB:=ae (ag (HA.1.below b1) (ag (HA.2.1.fr (Fr.below (T:=[]) b1) (by simp)) (ag (HA.2.2.below b1) rq)));refine bm hK (by exact HK v1 HB.2.1) fun hS=>?_;clear hK KK rq b1;refine tn 6 hS ?_;refine aH 7 fun KK hK=>?_;refine ld (HB.1.app HX.2 HB.2.2.1 4 1 0 0 0 pp cp none 0 P [] HB.2.2.2.tb (TB.nil _) hP.1 (by omega) (by simp) R eR) ?_;rintro r v2 ⟨p1,c1,JZ,d1,Rv,rfl,H2,rH,wE⟩;refine ⟨_,rfl,?_⟩;have H3:=ae (ag H2 (ag rH (HB.2.1.fr wE (by decide))));clear H2 rH wE;refine bm hK (by exact HK v2 H3.2.2) fun hS=>?_;clear hK KK;refine dQ 8 9 hS ?_;refine tn 10 hS ?_;refine aH 11 fun KK hK=>?_;obtain ⟨Z,hZ⟩:=ar (aP v2 sb (.int .u64 R.1.e) (.int .u64 R.1.g) (.int .u64 R.1.x) (.int .i64 R.1.t) (.slice p1 R.1.ss.length c1) (.slice JZ R.1.ns.length d1));have HZ:Hid (RB w Z sb g p cd c (t+1+1) R.1/\Ny Z pb):=by rw [hZ];obtain ⟨cur,hc⟩:=H3.2.1.2;exact ⟨H3.1,H3.2.2.fr (dJ hc) (by decide)⟩
 obtain ⟨q0,q1,q2,q3,q4,q5,qf⟩:=H3.2.1.cells;unfold aP at hZ;go_simp;rw [<-hZ];refine hK.out _ _ (by exact HK Z HZ.2) (fun hS=>?_);clear hK KK q0 q1 q2 q3 q4 q5 qf hZ;refine wpAnyH_done (by kernel_rfl) ?_ _;refine aX ?_;clear hS;go_wp2;go_roundw
 case rel=>exact ⟨k+1,by omega,by go_num,by rw [aa hE];exact HZ.1,HZ.2⟩
 case measure=>simp [intOf];omega}
 {
 refine uL P hP.1 (by omega) ?_;intro pp cp v1 rq b1;have HB:=ae (ag (HA.1.below b1) (ag (HA.2.1.fr (Fr.below (T:=[]) b1) (by simp)) (ag (HA.2.2.below b1) rq)));refine bm hK (by exact HK v1 HB.2.1) fun hS=>?_;clear hK KK rq b1;refine tn 6 hS ?_;refine aH 0 fun KK hK=>?_;obtain ⟨q0,q1,q2,q3,q4,q5,qf⟩:=HB.2.2.1.cells;go_simp;refine bm hK (by exact HK v1 HB.2.1) fun hS=>?_;clear hK KK q0 q1 q2 q3 q4 q5 qf;refine aH 7 fun KK hK=>?_;refine ld (HB.1.app HX.2 HB.2.2.1 4 1 0 0 0 pp cp none 0 P [] HB.2.2.2.tb (TB.nil _) hP.1 (by omega) (by simp) R eR) ?_;rintro r v2 ⟨p1,c1,JZ,d1,Rv,rfl,H2,rH,wE⟩;refine ⟨_,rfl,?_⟩;have H3:=ae (ag H2 (ag rH (HB.2.1.fr wE (by decide))));clear H2 rH wE;refine bm hK (by exact HK v2 H3.2.2) fun hS=>?_;clear hK KK;refine dQ 8 9 hS ?_;refine tn 10 hS ?_;refine aH 11 fun KK hK=>?_;obtain ⟨Z,hZ⟩:=ar (aP v2 sb (.int .u64 R.1.e) (.int .u64 R.1.g) (.int .u64 R.1.x) (.int .i64 R.1.t) (.slice p1 R.1.ss.length c1) (.slice JZ R.1.ns.length d1));have HZ:Hid (RB w Z sb g p cd c (t+1+1) R.1/\Ny Z pb):=by rw [hZ];obtain ⟨cur,hc⟩:=H3.2.1.2;exact ⟨H3.1,H3.2.2.fr (dJ hc) (by decide)⟩
 obtain ⟨q0,q1,q2,q3,q4,q5,qf⟩:=H3.2.1.cells;unfold aP at hZ;go_simp;rw [<-hZ];refine hK.out _ _ (by exact HK Z HZ.2) (fun hS=>?_);clear hK KK q0 q1 q2 q3 q4 q5 qf hZ;refine wpAnyH_done (by kernel_rfl) ?_ _;refine aX ?_;clear hS;go_wp2;go_roundw
 case rel=>exact ⟨k+1,by omega,by go_num,by rw [aa hE];exact HZ.1,HZ.2⟩
 case measure=>simp [intOf];omega}}
 {
 have bt:¬ (k:Int)<4:=by omega
 have e3:k=4:=by omega
 subst e3;rw [aa eD7] at HR;go_wp2
 go_loopw [9] (fun iv wr=>∃ k:Nat,k<=n/\iv=.int .i64 k/\Hid (RB w wr sb g p cd c (runK cd f (D7,t+1+1) k).2 (runK cd f (D7,t+1+1) k).1)) (fun iv _=>n-(intOf iv).toNat)
 case atStart=>exact ⟨0,by omega,rfl,HR⟩
 case round =>(
 clear HR HP;obtain ⟨k,hk,rfl,HR⟩:=hrel;obtain ⟨s,es⟩:∃ s,Hid (runK cd f (D7,t+1+1) k=s):=⟨_,ae rfl⟩;have hv:VD (runK cd f (D7,t+1+1) k).1:=(HV.2.2 k (by omega)).1;rw [aa es] at HR hv;obtain ⟨D,tj⟩:=s;have HVD:=ae hv;clear hv;have RR:Hid (runK cd f (D7,t+1+1) n=(D,tj)->∀ (K9:Prop),K9=K9):=fun _ _=>rfl;clear RR;by_cases br:k<n;{
 have bt:(k:Int)<(n:Int):=by omega
 go_wp2_with fail;refine (Tf g p cd c tj wr HR.fR hl).mono ?_;rintro r w4 ⟨rfl,b4⟩;have H4:=ae (HR.below b4);clear HR b4;by_cases MH:cd.length<=tj;{
 have e0:cd.length-tj=0:=by omega
 rw [e0];have hE:Hid (runK cd f (D7,t+1+1) n=(D,tj)):=by have:=uQ (cd:=cd) (f:=f) (s:=(D7,t+1+1)) (i:=k) (by rw [aa es];exact MH) (n-k);rw [show k+(n-k)=n by omega,aa es] at this;exact this
 obtain ⟨ps,cs,qs,ds,Qs,hx,hS,hN⟩:=H4.st;obtain ⟨Z,hZ⟩:=ar (aP w4 w.heap.size (.int .u64 D.e) (.int .u64 D.g) (.int .u64 D.x) (.int .i64 D.t) (.slice ps D.ss.length cs) (.slice qs D.ns.length ds));have HZ:=ae (H4.fin hS hN hZ);obtain ⟨q0,q1,q2,q3,q4,q5,qf⟩:=hx.cells;obtain ⟨u0,u1,u2,u3,u4,u5,uf⟩:=H4.res.cells;unfold aP at hZ;clear hx hS hN;go_wp2;rw [<-hZ];clear hZ q0 q1 q2 q3 q4 q5 qf u0 u1 u2 u3 u4 u5 uf;obtain ⟨s0,s1,s2,s3,s4,s5,sf⟩:=HZ.1.cells;refine bodyPost_ret (v:=cK D.e D.g D.x D.t (.slice ps D.ss.length cs) (.slice qs D.ns.length ds)) (by simp [results,results83,go_sem,s0,s1,s2,s3,s4,s5]) rfl ?_;rw [aa hE]
 first | exact ⟨_,_,_,_,_,rfl,HZ.2⟩ | exact ⟨_,_,_,_,rfl,⟨_,HZ.2.1⟩,HZ.2.2⟩}
 {
 obtain ⟨lf,elf⟩:∃ lf:Nat,cd.length-tj=lf:=⟨_,rfl⟩;have hlf:(0:Int)<(lf:Int):=by omega
 rw [elf];clear elf;have hG:Fo (f tj)/\DOp cd tj (f tj):=aa HF tj;have HG:=ae hG.1;have HD:=ae hG.2;obtain ⟨R,eR⟩:∃ R,Hid (bS D (f tj).K (f tj).S (f tj).F (f tj).E (f tj).G (f tj).P (f tj).V=R):=⟨_,ae rfl⟩;obtain ⟨y,ey⟩:∃ y,Hid (cd.getD (f tj).t 0=y):=⟨_,ae rfl⟩;obtain ⟨z,ez⟩:∃ z,Hid (cd.getD ((f tj).t+1) 0=z):=⟨_,ae rfl⟩;have hy:0<=y/\y<256:=by rw [<-aa ey];exact aV cd hb _
 have hz:0<=z/\z<256:=by rw [<-aa ez];exact aV cd hb _
 have hRt:Hid (R.1.t=D.t):=by rw [<-aa eR];exact Dp _ _ _ _ _ _ _ _
 have cF:Hid (runK cd f (D7,t+1+1) (k+1)=if y % 8=1 then ({ R.1 with t:=D.t+z % 6 },(f tj).t+1+1) else (R.1,(f tj).t+1)):=by show Ax cd f (runK cd f (D7,t+1+1) k)=_;rw [aa es,Ax,if_neg MH];simp only [aa ey,aa ez,aa eR]
 clear hG;obtain ⟨ps,cs,qs,ds,Qs,hx,-,-⟩:=H4.st;have HX:=ae (ag hx (aa HVD));clear hx
 go_upto_region 14 with fail
 go_cut [] (fun wc=>Hid (RB w wc sb g p cd c (f tj).t R.1))
 case first =>(
 obtain ⟨vA,bM⟩:=ar w4.drew;have bA:Below w4.heap.size w4 vA:=by rw [bM];exact ay.drew
 have HA:=ae (ag (H4.below bA) (HX.1.below bA));refine wp_region_noPanic ?_;refine wp_region_held_drew (S:=fun w'=>True) (by kernel_rfl) trivial (fun hS=>?_);rw [<-bM];clear bM bA;refine tn 1 hS ?_;refine ry [0,2] ?_;refine cn (fun KK hK=>?_) (cn (fun KK hK=>?_) AllReadyH.nil);{
 obtain ⟨q0,q1,q2,q3,q4,q5,qf⟩:=HA.2.cells;go_simp;refine bm hK trivial fun hS=>?_;clear hK KK q0 q1 q2 q3 q4 q5 qf;refine aH 2 fun KK hK=>?_;refine fw (aa HD g p c vA HA.1.fR) ?_;rintro r v1 ⟨pp,cp,pq,cv,rfl,tP,tV,r1,d1⟩;refine ⟨_,rfl,?_⟩;have HB:=ae (ag (HA.1.draw r1 d1) (ag (HA.2.fr d1.1 (by decide)) (ag tP tV)));refine bm hK trivial fun hS=>?_;clear hK KK tP tV r1 d1;refine aH 3 fun KK hK=>?_;refine ld (HB.1.app HX.2 HB.2.1 (f tj).K (f tj).S (f tj).F (f tj).E (f tj).G pp cp pq cv (f tj).P (f tj).V HB.2.2.1 HB.2.2.2 HG.p (by have:=HG.pl;omega) (by have:=HG.vl;omega) R eR) ?_;rintro r v2 ⟨p1,c1,JZ,d1,Rv,rfl,H2,rH,wE⟩;refine ⟨_,rfl,?_⟩;have H3:=ae (ag H2 rH);clear H2 rH wE;refine bm hK trivial fun hS=>?_;clear hK KK;refine dQ 4 5 hS ?_;refine tn 6 hS ?_;refine aH 7 fun KK hK=>?_;obtain ⟨Z,hZ⟩:=ar (aP v2 sb (.int .u64 R.1.e) (.int .u64 R.1.g) (.int .u64 R.1.x) (.int .i64 R.1.t) (.slice p1 R.1.ss.length c1) (.slice JZ R.1.ns.length d1));have HZ:Hid (RB w Z sb g p cd c (f tj).t R.1):=by rw [hZ];exact H3.1
 obtain ⟨q0,q1,q2,q3,q4,q5,qf⟩:=H3.2.cells;unfold aP at hZ;go_simp;rw [<-hZ];refine hK.out _ _ trivial (fun hS=>?_);clear hK KK q0 q1 q2 q3 q4 q5 qf hZ;refine wpAnyH_done (by kernel_rfl) ?_ _;refine aX ?_;clear hS;go_wp2;go_meet
 case rel=>exact HZ}
 {
 refine fw (aa HD g p c vA HA.1.fR) ?_;rintro r v1 ⟨pp,cp,pq,cv,rfl,tP,tV,r1,d1⟩;refine ⟨_,rfl,?_⟩;have HB:=ae (ag (HA.1.draw r1 d1) (ag (HA.2.fr d1.1 (by decide)) (ag tP tV)));refine bm hK trivial fun hS=>?_;clear hK KK tP tV r1 d1;refine aH 0 fun KK hK=>?_;obtain ⟨q0,q1,q2,q3,q4,q5,qf⟩:=HB.2.1.cells;go_simp;refine bm hK trivial fun hS=>?_;clear hK KK q0 q1 q2 q3 q4 q5 qf;refine aH 3 fun KK hK=>?_;refine ld (HB.1.app HX.2 HB.2.1 (f tj).K (f tj).S (f tj).F (f tj).E (f tj).G pp cp pq cv (f tj).P (f tj).V HB.2.2.1 HB.2.2.2 HG.p (by have:=HG.pl;omega) (by have:=HG.vl;omega) R eR) ?_;rintro r v2 ⟨p1,c1,JZ,d1,Rv,rfl,H2,rH,wE⟩;refine ⟨_,rfl,?_⟩;have H3:=ae (ag H2 rH);clear H2 rH wE;refine bm hK trivial fun hS=>?_;clear hK KK;refine dQ 4 5 hS ?_;refine tn 6 hS ?_;refine aH 7 fun KK hK=>?_;obtain ⟨Z,hZ⟩:=ar (aP v2 sb (.int .u64 R.1.e) (.int .u64 R.1.g) (.int .u64 R.1.x) (.int .i64 R.1.t) (.slice p1 R.1.ss.length c1) (.slice JZ R.1.ns.length d1));have HZ:Hid (RB w Z sb g p cd c (f tj).t R.1):=by rw [hZ];exact H3.1
 obtain ⟨q0,q1,q2,q3,q4,q5,qf⟩:=H3.2.cells;unfold aP at hZ;go_simp;rw [<-hZ];refine hK.out _ _ trivial (fun hS=>?_);clear hK KK q0 q1 q2 q3 q4 q5 qf hZ;refine wpAnyH_done (by kernel_rfl) ?_ _;refine aX ?_;clear hS;go_wp2;go_meet
 case rel=>exact HZ})
 case rest=>
 have H5:=hcut;clear hcut H4 HX;obtain ⟨v5,MA⟩:=ar wc;rw [<-MA] at H5 ⊢;clear MA wc;go_wp2_with fail;refine (cY g p cd c (f tj).t v5 H5.fR hb hl).mono ?_;rintro r w6 ⟨rfl,h6,d6⟩;rw [aa ey];have H6:=ae (H5.draw h6 d6);clear H5 h6 d6;by_cases Zm:y % 8=1;{
 have e1:=aa cF;rw [if_pos Zm] at e1;have HE:=ae e1;clear e1 cF;go_wp2_with fail;have ht:0<=R.1.t/\R.1.t<=1000000:=by rw [aa hRt];exact HVD.t
 have ht1:=ht.1;have Xc:=ht.2;clear ht;have hwr:IntKind.i64.wrap (R.1.t+z.tmod 6)=R.1.t+z % 6:=by rw [Int.tmod_eq_emod_of_nonneg hz.1];exact IntWalk.i64_in _ (by omega)
 obtain ⟨vA,bM⟩:=ar w6.drew;have bA:Below w6.heap.size w6 vA:=by rw [bM];exact ay.drew
 have HA:=ae (H6.below bA);refine wp_region_noPanic ?_;refine wp_region_held_drew (S:=fun w'=>True) (by kernel_rfl) trivial (fun hS=>?_);rw [<-bM];clear bM bA H6;refine dQ 0 2 hS ?_;refine ry [1,3] ?_;refine cn (fun KK hK=>?_) (cn (fun KK hK=>?_) AllReadyH.nil);{
 obtain ⟨ps,cs,qs,ds,Qs,hx,-,-⟩:=HA.st;obtain ⟨q0,q1,q2,q3,q4,q5,qf⟩:=hx.cells;go_simp;refine bm hK trivial fun hS=>?_;clear hK KK q0 q1 q2 q3 q4 q5 qf hx;refine aH 3 fun KK hK=>?_;refine fw (cY g p cd c ((f tj).t+1) vA HA.fR hb hl) ?_;rintro r v1 ⟨rfl,r1,d1⟩;refine ⟨_,rfl,?_⟩;rw [aa ez];have HB:=ae (HA.draw r1 d1);refine bm hK trivial fun hS=>?_;clear hK KK r1 d1;refine dQ 4 5 hS ?_;refine tn 6 hS ?_;refine aH 7 fun KK hK=>?_;have HZ:=ae (HB.time (R.1.t+z % 6));obtain ⟨Z,hZ⟩:=ar (v1.setCell ⟨sb,3,none⟩ (.int .i64 (R.1.t+z % 6)));rw [<-hZ] at HZ;obtain ⟨ps,cs,qs,ds,Qs,hx,-,-⟩:=HB.st;obtain ⟨q0,q1,q2,q3,q4,q5,qf⟩:=hx.cells;go_simp
 (try rw [hwr])
 rw [<-hZ];refine hK.out _ _ trivial (fun hS=>?_);clear hK KK q0 q1 q2 q3 q4 q5 qf hZ hx;refine wpAnyH_done (by kernel_rfl) ?_ _;refine aX ?_;clear hS;go_wp2;go_roundw
 case rel=>exact ⟨k+1,by omega,by go_num,by rw [aa HE,<-aa hRt];exact HZ⟩
 case measure=>simp [intOf];omega}
 {
 refine fw (cY g p cd c ((f tj).t+1) vA HA.fR hb hl) ?_;rintro r v1 ⟨rfl,r1,d1⟩;refine ⟨_,rfl,?_⟩;rw [aa ez];have HB:=ae (HA.draw r1 d1);refine bm hK trivial fun hS=>?_;clear hK KK r1 d1;refine tn 4 hS ?_;refine aH 1 fun KK hK=>?_;obtain ⟨ps,cs,qs,ds,Qs,hx,-,-⟩:=HB.st;obtain ⟨q0,q1,q2,q3,q4,q5,qf⟩:=hx.cells;go_simp;refine bm hK trivial fun hS=>?_;clear hK KK q0 q1 q2 q3 q4 q5 qf hx;refine dQ 5 6 hS ?_;refine aH 7 fun KK hK=>?_;have HZ:=ae (HB.time (R.1.t+z % 6));obtain ⟨Z,hZ⟩:=ar (v1.setCell ⟨sb,3,none⟩ (.int .i64 (R.1.t+z % 6)));rw [<-hZ] at HZ;obtain ⟨ps,cs,qs,ds,Qs,hx,-,-⟩:=HB.st;obtain ⟨q0,q1,q2,q3,q4,q5,qf⟩:=hx.cells;go_simp
 (try rw [hwr])
 rw [<-hZ];refine hK.out _ _ trivial (fun hS=>?_);clear hK KK q0 q1 q2 q3 q4 q5 qf hZ hx;refine wpAnyH_done (by kernel_rfl) ?_ _;refine aX ?_;clear hS;go_wp2;go_roundw
 case rel=>exact ⟨k+1,by omega,by go_num,by rw [aa HE,<-aa hRt];exact HZ⟩
 case measure=>simp [intOf];omega}}
 {
 have e1:=aa cF;rw [if_neg Zm] at e1;have HE:=ae e1;have hy9:(y % 8==1)=false:=by simp [Zm]
 clear e1 cF;go_wp2;go_roundw
 case rel=>exact ⟨k+1,by omega,by go_num,by rw [aa HE];exact H6⟩
 case measure=>simp [intOf];omega}}}
 {
 have bt:¬ (k:Int)<(n:Int):=by omega
 have e3:k=n:=by omega
 subst e3;have hE:Hid (runK cd f (D7,t+1+1) k=(D,tj)):=es;obtain ⟨ps,cs,qs,ds,Qs,hx,hS,hN⟩:=HR.st;obtain ⟨Z,hZ⟩:=ar (aP wr w.heap.size (.int .u64 D.e) (.int .u64 D.g) (.int .u64 D.x) (.int .i64 D.t) (.slice ps D.ss.length cs) (.slice qs D.ns.length ds));have HZ:=ae (HR.fin hS hN hZ);obtain ⟨q0,q1,q2,q3,q4,q5,qf⟩:=hx.cells;obtain ⟨u0,u1,u2,u3,u4,u5,uf⟩:=HR.res.cells;unfold aP at hZ;clear hx hS hN;go_wp2;rw [<-hZ];clear hZ q0 q1 q2 q3 q4 q5 qf u0 u1 u2 u3 u4 u5 uf;obtain ⟨s0,s1,s2,s3,s4,s5,sf⟩:=HZ.1.cells;refine bodyPost_ret (v:=cK D.e D.g D.x D.t (.slice ps D.ss.length cs) (.slice qs D.ns.length ds)) (by simp [results,results83,go_sem,s0,s1,s2,s3,s4,s5]) rfl ?_;rw [aa hE]
 first | exact ⟨_,_,_,_,_,rfl,HZ.2⟩ | exact ⟨_,_,_,_,rfl,⟨_,HZ.2.1⟩,HZ.2.2⟩})})})
end Go.Proofs.YtcfcafeciggjeaaGreatDoor
