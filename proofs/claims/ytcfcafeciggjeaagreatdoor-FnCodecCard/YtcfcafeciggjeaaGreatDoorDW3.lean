import Derived.Test.YtcfcafeciggjeaaGreatDoorDW2
import Derived.Test.YtcfcafeciggjeaaGreatDoorK41
import Derived.Test.YtcfcafeciggjeaaGreatDoorASg
namespace Go.Proofs.YtcfcafeciggjeaaGreatDoor
set_option linter.all false
set_option maxRecDepth 100000
open Go.ChangeShapes Go.WideShapes Go.ChangeAt Go.RowKit Go.Deep Go.Proofs.Tryz
variable {D:SD} {Qs:List Value} {c cs ds g i sb t:Nat} {cd:List Int} {f:Nat->Gv} {p ps qs:Option Addr}
def Fe (cd:List Int) (f:Nat->Gv) (s:SD × Nat):SD × Nat:=
 if cd.length<=s.2 then s
 else if cd.getD (f s.2).t 0 % 8=1 then ({ (aM s.1 (f s.2).K (f s.2).S (f s.2).F (f s.2).E (f s.2).G (f s.2).P (f s.2).V).1 with t:=s.1.t+cd.getD ((f s.2).t+1) 0 % 6 },(f s.2).t+1+1)
 else ((aM s.1 (f s.2).K (f s.2).S (f s.2).F (f s.2).E (f s.2).G (f s.2).P (f s.2).V).1,(f s.2).t+1)
def runK (cd:List Int) (f:Nat->Gv) (s:SD × Nat):Nat->SD × Nat
 | 0=>s
 | k+1=>Fe cd f (runK cd f s k)
theorem Gs {s:SD × Nat} (h:cd.length<=(runK cd f s i).2):∀ j,runK cd f s (i+j)=runK cd f s i
 | 0=>rfl
 | j+1=>by show Fe cd f (runK cd f s (i+j))=_;rw [Gs h j,Fe,if_pos h]
def VR (i:Nat) (D:SD):Prop:=VD D/\UD D/\D.t<=40+5*i
theorem VR.app (h:VR i D) {K S F E G:Int} {P V:List Int} (hP:bM P) (hV:bM V):VR i (aM D K S F E G P V).1:=⟨h.1.apply hP hV,h.2.1.apply K S F E G P V,by rw [Ie];exact h.2.2⟩
theorem VD.time (h:VD D) {t:Int} (h0:0<=t) (h1:t<=1000000):VD { D with t:=t }:=⟨h.e,h.g,h.x,⟨h0,h1⟩,h.sl,h.nl,h.s1,h.s2,h.n1,h.n2⟩
theorem Qi (hb:bM cd) (hf:∀ t,Cj (f t)) {s:SD × Nat} (hi:i<1000) (h:VR i s.1):VR (i+1) (Fe cd f s).1:=by
 unfold Fe;have h':VR (i+1) s.1:=⟨h.1,h.2.1,by have:=h.2.2;omega⟩;split;{exact h'};{have ha:=h.app (K:=(f s.2).K) (S:=(f s.2).S) (F:=(f s.2).F) (E:=(f s.2).E) (G:=(f s.2).G) (hf s.2).p (hf s.2).v;split;{have r:=cG cd hb ((f s.2).t+1);have ht:=h.1.t;have h2:=h.2.2;refine ⟨ha.1.time ab ab,ha.2.1,?_⟩;show s.1.t+cd.getD ((f s.2).t+1) 0 % 6<=_;omega};{exact ⟨ha.1,ha.2.1,Int.le_trans ha.2.2 ab⟩}}
theorem GS (hb:bM cd) (hf:∀ t,Cj (f t)) {s:SD × Nat} (h:VR 0 s.1):∀ i,i<1000->VR i (runK cd f s i).1
 | 0,_=>h
 | i+1,hi=>Qi hb hf ab (GS hb hf h i ab)
theorem al8 {x0 x1:Int} (r0:0<=x0/\x0<256) (r1:0<=x1/\x1<256):VR 0 ⟨1+x0 % 3,0,0,x1 % 40,[],[]⟩:=by
 refine ⟨⟨by show 1+x0 % 3<=4611686018427387904;omega,⟨Int.le_refl _,by show (0:Int)<=4611686018427387904;decide⟩,⟨Int.le_refl _,by show (0:Int)<=4611686018427387904;decide⟩,by show 0<=x1 % 40/\x1 % 40<=1000000;omega,aU,aU,List.Pairwise.nil,fun s hs=>by simp at hs,List.Pairwise.nil,fun s hs=>by simp at hs⟩,⟨by show 0<=1+x0 % 3;omega,fun nd aV=>by simp at aV⟩,by show x1 % 40<=40+5*((0:Nat):Int);omega⟩
def CL (D:SD):Nat->SD
 | 0=>D
 | k+1=>(aM (CL D k) 1 0 0 0 0 [] []).1
def D8 (D:SD):Nat->SD
 | 0=>D
 | k+1=>(aM (D8 D k) 4 1 0 0 0 (CJ.getD k []) []).1
theorem Q9 (h:VR 0 D):∀ k,VR 0 (CL D k)
 | 0=>h
 | k+1=>(Q9 h k).app (fun z hz=>by simp at hz) (fun z hz=>by simp at hz)
theorem Hu (h:VR 0 D):∀ k,VR 0 (D8 D k)
 | 0=>h
 | k+1=>(Hu h k).app (vw k).1 (fun z hz=>by simp at hz)
structure RB (w0 w:World) (sb g:Nat) (p:Option Addr) (cd:List Int) (c t:Nat) (D:SD):Prop where
 st:∃ ps cs qs ds Qs,BX w sb [.U D.e,.U D.g,.U D.x,.I D.t,.S ps D.ss.length cs,.S qs D.ns.length ds]/\SpS w0.heap.size w (.S ps D.ss.length cs) D.ss Qs/\SpN w0.heap.size w (.S qs D.ns.length ds) D.ns
 res:BX w w0.heap.size [.U 0,.U 0,.U 0,.I 0,.S none 0 0,.S none 0 0]
 jP:lu w g p cd c t
 dr:Dr g w0 w
 lo:w0.heap.size<sb
 gl:g<w0.heap.size
theorem RB.draw {w0 w w1:World} {t':Nat} (h:RB w0 w sb g p cd c t D) (hd:lu w1 g p cd c t') (d:Dr g w w1):RB w0 w1 sb g p cd c t' D:=by
 have h2:=h.lo;have h3:=h.gl;obtain ⟨ps,cs,qs,ds,Qs,hx,hS,hN⟩:=h.st;exact ⟨⟨ps,cs,qs,ds,Qs,hx.fr d.1,hS.fr d.1,bS.fr hN d.1⟩,h.res.fr d.1,hd,h.dr.trans d,h2,h3⟩
theorem RB.below {w0 w w1:World} (h:RB w0 w sb g p cd c t D) (b:Bw w w1):RB w0 w1 sb g p cd c t D:=
 h.draw (h.jP.low b h.jP.lt) (Dr.below b h.jP.lt)
theorem RB.put {w0 w w1:World} {D1:SD} (h:RB w0 w sb g p cd c t D) (hS:SpS w0.heap.size w1 (.S ps D1.ss.length cs) D1.ss Qs) (hN:SpN w0.heap.size w1 (.S qs D1.ns.length ds) D1.ns) (hf:Fr [49,35,38] w w1) (hb:Below w0.heap.size w w1) :
  RB w0 (bg w1 sb (.U D1.e) (.U D1.g) (.U D1.x) (.I D1.t) (.S ps D1.ss.length cs) (.S qs D1.ns.length ds)) sb g p cd c t D1:=by
 have h2:=h.lo;have h3:=h.gl;obtain ⟨ps0,cs0,qs0,ds0,Qs0,hx,-,-⟩:=h.st;have JV:=hx.fr hf;obtain ⟨cur,hc⟩:=JV.2;have f2:Fr [27] w1 (bg w1 sb (.U D1.e) (.U D1.g) (.U D1.x) (.I D1.t) (.S ps D1.ss.length cs) (.S qs D1.ns.length ds)):=dT hc;have b2:=bt w1 sb (.U D1.e) (.U D1.g) (.U D1.x) (.I D1.t) (.S ps D1.ss.length cs) (.S qs D1.ns.length ds);exact ⟨⟨ps,cs,qs,ds,Qs,JV.put _ _ _ _ _ _,hS.fr f2,bS.fr hN f2⟩,(h.res.fr hf).rj ab _ _ _ _ _ _,(h.jP.low hb h3).low b2 ab,(h.dr.add hb h3).add (b2.mono ab) h3,h2,h3⟩
theorem RB.time {w0 w:World} (h:RB w0 w sb g p cd c t D) (y:Int):RB w0 (w.setCell ⟨sb,3,none⟩ (.I y)) sb g p cd c t { D with t:=y }:=by
 have h2:=h.lo;have h3:=h.gl;obtain ⟨ps,cs,qs,ds,Qs,hx,hS,hN⟩:=h.st;have ts:=bf (j:=3) (u:=.I y) hx.2;have b2:Below sb w (w.setCell ⟨sb,3,none⟩ (.I y)):=aJ.setCell (p:=⟨sb,3,none⟩) aA _;exact ⟨⟨ps,cs,qs,ds,Qs,⟨hx.1.dI 3 aU _,ts.1⟩,hS.fr ts.2,bS.fr hN ts.2⟩,h.res.qz ab,h.jP.low b2 ab,h.dr.add (b2.mono ab) h3,h2,h3⟩
theorem RB.fin {w0 w:World} (h:RB w0 w sb g p cd c t D) (hS:SpS w0.heap.size w (.S ps D.ss.length cs) D.ss Qs) (hN:SpN w0.heap.size w (.S qs D.ns.length ds) D.ns) {Z:World} (hZ:Z=bg w w0.heap.size (.U D.e) (.U D.g) (.U D.x) (.I D.t) (.S ps D.ss.length cs) (.S qs D.ns.length ds)) :
  BX Z w0.heap.size [.U D.e,.U D.g,.U D.x,.I D.t,.S ps D.ss.length cs,.S qs D.ns.length ds]/\SpS w0.heap.size Z (.S ps D.ss.length cs) D.ss Qs/\SpN w0.heap.size Z (.S qs D.ns.length ds) D.ns/\lu Z g p cd c t/\Dr g w0 Z:=by
 subst hZ;obtain ⟨cur,hc⟩:=h.res.2;have f2:Fr [27] w (bg w w0.heap.size (.U D.e) (.U D.g) (.U D.x) (.I D.t) (.S ps D.ss.length cs) (.S qs D.ns.length ds)):=dT hc;have b2:=bt w w0.heap.size (.U D.e) (.U D.g) (.U D.x) (.I D.t) (.S ps D.ss.length cs) (.S qs D.ns.length ds);exact ⟨h.res.put _ _ _ _ _ _,hS.fr f2,bS.fr hN f2,h.jP.low b2 h.gl,h.dr.add b2 h.gl⟩
theorem yR {w:World} {ops:Array Oper} {o:Oper} {a:Act} {K:Act->World->Prop} {Q:Exit->Act->World->Prop} {E:Prop} (l:List Int) (hB:bM l) (hl:l.length<=1048576)
  (hK:∀ p' c' w',GC w.heap.size w' (.S p' l.length c') l->Bw w w'->K (a.put o.dst (.S p' l.length c')) w') {x:Operand} (jK:o.guard=none:=by rfl) (hop:o.op=Op.convert 9 22 x:=by rfl) (hx:a.eval x=.string (aC l):=by rfl) :
  if Region.wanted o (yielded ops a.tmps)=true then Oper.wp prog o a w K Q else E:=by
 have hw:Region.wanted o (yielded ops a.tmps)=true:=by simp [Region.wanted,jK]
 rw [if_pos hw];obtain ⟨c',W,cK,hP,hb⟩:=vM w hB hl;unfold Oper.wp;simp only [execOp,hop,hx,Sem.run_bind,Sem.run_pure,Result.andThen_ok,cK,Result.andThen];exact hK _ _ _ hP hb
theorem RB.app {w0 w:World} (h:RB w0 w sb g p cd c t D) (hv:VD D) (hx:BX w sb [.U D.e,.U D.g,.U D.x,.I D.t,.S ps D.ss.length cs,.S qs D.ns.length ds])
  (K S F E G:Int) (pp:Option Addr) (cp:Nat) (pq:Option Addr) (cv:Nat) (P V:List Int) (hP:TB w (.S pp P.length cp) P) (hV:TB w (.S pq V.length cv) V) (bP:bM P) (lP:P.length<=1000) (lV:V.length<=1000) (R:SD × RP) (eR:Hid (aM D K S F E G P V=R)) :
  Calls prog 40 #[cY D.e D.g D.x D.t (.S ps D.ss.length cs) (.S qs D.ns.length ds),lW K S (.S pp P.length cp) F (.S pq V.length cv) E G] w fun r w'=>∃ p1 c1 q1 d1 Rv,r=.returned (.tuple #[cY R.1.e R.1.g R.1.x R.1.t (.S p1 R.1.ss.length c1) (.S q1 R.1.ns.length d1),Rv])/\RB w0 (bg w' sb (.U R.1.e) (.U R.1.g) (.U R.1.x) (.I R.1.t) (.S p1 R.1.ss.length c1) (.S q1 R.1.ns.length d1)) sb g p cd c t R.1/\BX w' sb [.U D.e,.U D.g,.U D.x,.I D.t,.S ps D.ss.length cs,.S qs D.ns.length ds]/\Fr [49,35,38] w w':=by
 obtain ⟨ps0,cs0,qs0,ds0,Qs,hx0,hS,hN⟩:=h.st;have e4:=(hx.1.1 4 _ rfl).symm.trans (hx0.1.1 4 _ rfl);have e5:=(hx.1.1 5 _ rfl).symm.trans (hx0.1.1 5 _ rfl);simp only [Option.some.injEq,Value.slice.injEq] at e4 e5;obtain ⟨rfl,-,rfl⟩:=e4;obtain ⟨rfl,-,rfl⟩:=e5;obtain ⟨p1,n1,c1,ec,kH,jF⟩:=hP.2.2;simp only [Value.slice.injEq] at ec;obtain ⟨-,rfl,rfl⟩:=ec;have sl:=hv.sl;have nl:=hv.nl;refine (QG D.e D.g D.x D.t ps D.ss.length cs qs D.ns.length ds D.ss Qs D.ns (ae rfl) (ae rfl) K S F E G pp P.length cp pq V.length cv P V (ae rfl) (ae rfl) w0.heap.size w (ae hS) (ae hN) (ae hP.1) (ae hV.1) (h.dr.2.1.size) ab ab ab ab kH jF (ae hv.wf) (ae bP) R eR).mono ?_;rintro r w' ⟨p',c',q',d',Dv,Nv,Ev,vP,rfl,Cg,hN',tD,tN,tE,hF,js⟩;exact ⟨p',c',q',d',_,rfl,h.put Cg hN' hF js,hx.fr hF,hF⟩
def Uu (w:World) (pb:Nat):Prop:=∃ cur,w.heap[pb]?=some (.cells cur 9)/\∀ m,m<10->w.cell? ⟨pb,m,none⟩=some (.string (aC (CJ.getD m [])))
theorem Uu.fr {T:List TypeId} {w w':World} {pb:Nat} (h:Uu w pb) (hf:Fr T w w') (ht:9∉T:=by decide):Uu w' pb:=by
 obtain ⟨cur,hc,hm⟩:=h;have hk:=hf.2 _ _ _ _ ht hc;exact ⟨cur,hk,fun m h=>(ai (hk.trans hc.symm) _).trans (hm m h)⟩
def bf4 (cd:List Int) (t n:Nat) (D:SD) (t':Nat):Prop:=
 ∀ (g:Nat) (p:Option Addr) (c:Nat) (w:World),lu w g p cd c t->Calls prog 83 #[.pointer (some ⟨g,0,none⟩),.I n] w fun r w'=>∃ ps cs qs ds Qs,r=.returned (cY D.e D.g D.x D.t (.S ps D.ss.length cs) (.S qs D.ns.length ds))/\SpS w.heap.size w' (.S ps D.ss.length cs) D.ss Qs/\SpN w.heap.size w' (.S qs D.ns.length ds) D.ns/\lu w' g p cd c t'/\Dr g w w'
end Go.Proofs.YtcfcafeciggjeaaGreatDoor
