import Derived.Test.YtcfcafeciggjeaaGreatDoorASf
import Derived.Test.YtcfcafeciggjeaaGreatDoorK29
import Derived.Test.YtcfcafeciggjeaaGreatDoorK32
import Derived.StillTailTactics
namespace Go.Proofs.YtcfcafeciggjeaaGreatDoor
set_option maxHeartbeats 1600000
set_option linter.unusedVariables false
set_option linter.unusedSimpArgs false
set_option maxRecDepth 100000
open Go.ChangeShapes Go.WideShapes Go.ChangeAt Go.RowKit Go.Proofs.Tryz
variable {D:SD} {P:List Int} {Z w w0:World} {a:Act} {b bn bs i id k:Nat} {fn:Func} {l:List Oper} {ns:List aA} {o0 o1 o2 o3 o4 o5 o6 o7 v0 v1 v2 v3 v4 v5 v6 v7:Value} {s:aL} {ss:List aL}
def Dc (K S F:Int) (np nv:Nat) (E G:Int):Bool:=if 1<=K/\K<=13 then Eg K.toNat S F np nv E G else false
def A0 (K:Int):Bool:=!(K==1)&&(!(K==6)&&!(K==13))
def iP (D:SD) (i:Nat):SD × RP:=match D.ss[i]? with
 | none=>(D,mR)
 | some s=>if s.2.1<D.t+10 then ({ D with ss:=D.ss.set i (s.1,D.t+10,s.2.2) },{ mR with n:=D.t+10 }) else (D,{ mR with n:=s.2.1 })
def uT (D:SD) (i:Nat):SD × RP:=match D.ss[i]? with
 | none=>(D,mR)
 | some s=>({ D with ss:=D.ss.set i (s.1,s.2.1,[]) },{ mR with tT:=s.2.2 })
def DS (ns:List aA) (P:List Int):Int:=match ns.findIdx? (fun nd=>decide (nd.path=P)) with
 | some i=>i
 | none=>-1
def kq (K:Int) (P:List Int):Bool:=decide (K=13)&&decide (P=[47])
def qH (D:SD) (K S F E G:Int) (P V:List Int):SD × RP:=
 if (!kq K P&&!vp P)=true then (D,qV 4)
 else if K=4 then iw D P V S F
 else if K=10 then (D,{ mR with n:=ke D.ns P S E G })
 else if (!kq K P&&decide (DS D.ns P<0))=true then (D,qV 5)
 else if K=13 then (D,{ mR with qh:=gv D.ns P })
 else oK D (DS D.ns P).toNat K S F V
def bS (D:SD) (K S F E G:Int) (P V:List Int):SD × RP:=
 if Dc K S F P.length V.length E G=false then (D,qV 2)
 else if K=1 then jG D
 else if (A0 K&&decide (kp D.ss S<0))=true then (D,qV 3)
 else if K=2 then iP D (kp D.ss S).toNat
 else if K=3 then (dw D S,mR)
 else if K=12 then uT D (kp D.ss S).toNat
 else qH D K S F E G P V
def PD (ns:List aA):Prop:=∀ (i j:Nat) (a b:aA),ns[i]?=some a->ns[j]?=some b->a.path=b.path->i=j
structure WF (D:SD):Prop where
 g:0<=D.g/\D.g<=4611686018427387904
 x:0<=D.x/\D.x<=4611686018427387904
 t:0<=D.t/\D.t<=1000000
 nb:NB D.ns
 pb:PPB D.ns
 vl:∀ nd∈D.ns,nd.value.length<=1048576
 ex:∀ nd∈D.ns,nd.mode=1->nd.holders≠[]
 pd:PD D.ns
theorem Ie (K S F E G:Int) (pp pq:Option Addr) (np nv cp cv:Nat) (w:World) (B:Bool) (eB:Hid (Dc K S F np nv E G=B)) :
  Calls prog 53 #[tJ K S (.slice pp np cp) F (.slice pq nv cv) E G] w fun r w'=>r=.returned (.bool B)/\Below w.heap.size w w':=by
 by_cases h:1<=K/\K<=13;{obtain ⟨k,rfl⟩:∃ k:Nat,K=(k:Int):=⟨K.toNat,by omega⟩;have e:=aa eB;rw [Dc,if_pos h,Int.toNat_natCast] at e;exact Ib k (by omega) (by omega) S F E G pp pq np nv cp cv w B (ae e)};{have e:=aa eB;rw [Dc,if_neg h] at e;subst e;exact Bw K S F E G pp pq np nv cp cv w (by omega)}
theorem GN (K:Int) (w:World):Calls prog 77 #[.int .i64 K] w fun r w'=>r=.returned (.bool (A0 K))/\w'=w:=by
 by_cases h1:K=1;{subst h1;go_enter func77,ntmps77;go_wp2;go_ret;exact ⟨rfl,rfl⟩};{
 by_cases h6:K=6;{subst h6;go_enter func77,ntmps77;go_wp2;go_ret;exact ⟨rfl,rfl⟩};{
 by_cases h13:K=13;{subst h13;go_enter func77,ntmps77;go_wp2;go_ret;exact ⟨rfl,rfl⟩};{
 have e:A0 K=true:=by simp [A0,h1,h6,h13]
 rw [e];have a1:(K != 1)=true:=by simp [h1]
 have a6:(K != 6)=true:=by simp [h6]
 have a13:(K != 13)=true:=by simp [h13]
 go_enter func77,ntmps77;go_wp2;go_ret;exact ⟨rfl,rfl⟩}}}
theorem Ke {nd:aA} (hp:PD ns) (h:ns[k]?=some nd) (hn:ga ns P=some nd):DS ns P=k:=by
 have e:nd.path=P:=by have:=List.find?_some hn;simpa using this
 have:ns.findIdx? (fun nd=>decide (nd.path=P))=some k:=by
  rw [List.findIdx?_eq_some_iff_getElem];obtain ⟨h1,h2⟩:=aJ.1 h;refine ⟨h1,by rw [h2];simp [e],fun i hi hc=>?_⟩;have fq:ns[i].path=P:=by simpa using hc
  have:=hp i k _ _ (aE (by omega)) h (fq.trans e.symm);omega
 rw [DS,this]
theorem xV (hn:ga ns P=none):DS ns P=-1:=by
 have:ns.findIdx? (fun nd=>decide (nd.path=P))=none:=by rw [List.findIdx?_eq_none_iff];intro x hx;have:=List.find?_eq_none.1 hn x hx;simpa using this
 rw [DS,this]
theorem Kf (h:¬ DS ns P<0):∃ (k:Nat) (nd:aA),DS ns P=k/\ns[k]?=some nd:=by
 unfold DS at h ⊢;cases hf:ns.findIdx? (fun nd=>decide (nd.path=P)) with
 | none=>rw [hf] at h;simp at h
 | some k=>
  obtain ⟨h1,-⟩:=List.findIdx?_eq_some_iff_getElem.1 hf;exact ⟨k,_,rfl,aE h1⟩
theorem vL {S:Int} (h:¬ kp ss S<0):∃ (k:Nat) (s:aL),kp ss S=k/\ss[k]?=some s:=by
 unfold kp at h ⊢;cases hf:ss.findIdx? (fun s=>s.1==S) with
 | none=>rw [hf] at h;simp at h
 | some k=>
  obtain ⟨h1,-⟩:=List.findIdx?_eq_some_iff_getElem.1 hf;exact ⟨k,_,rfl,aE h1⟩
theorem AG (e g x t:Int) (p q:Option Addr) (c n d m:Nat) (S:Value) (ns:List aA) (l:List Int) (en:Hid (ns.length=n)) (em:Hid (l.length=m)) (w:World) (h:mi w (.slice p n c) ns) (hl:Rd w (.slice q m d) l) (hn:n<=1048576) (hm:m<=2097152)
  (fK:Hid (bQ l/\∀ nd∈ns,bQ nd.path)) (hp:PD ns) :
  Calls prog 108 #[cK e g x t S (.slice p n c),.slice q m d] w fun r w'=>r=.returned (.int .i64 (DS ns l))/\Below w.heap.size w w':=by
 refine (jY e g x t p q c n d m S ns l en em w h hl hn hm fK).mono ?_;rintro r w' ⟨⟨k,nd,rfl,-,h1,h2⟩ | ⟨rfl,h1⟩,hb⟩;{exact ⟨by rw [Ke hp h1 h2],hb⟩};{exact ⟨by rw [xV h1],hb⟩}
theorem GH {e g x t:Int} (h:ss[i]?=some s) {dd:Int} (hd:(if s.2.1<t+10 then t+10 else s.2.1)=dd):iP ⟨e,g,x,t,ss,ns⟩ i=(⟨e,g,x,t,ss.set i (s.1,dd,s.2.2),ns⟩,⟨0,0,0,0,dd,[],[],[]⟩):=by
 unfold iP;simp only [h];by_cases hl:s.2.1<t+10;{
 rw [if_pos hl] at hd ⊢;rw [<-hd]
 rfl}
 {
 rw [if_neg hl] at hd ⊢;rw [<-hd,dX h]
 rfl}
theorem iF (D:SD) (k:Nat) (kd:Int):(cX D k kd).e=D.e/\(cX D k kd).g=D.g/\(cX D k kd).x=D.x/\(cX D k kd).t=D.t:=by
 unfold cX;split<;>exact ⟨rfl,rfl,rfl,rfl⟩
theorem qt (D:SD) (k:Nat) (id:Int):(cE D k id).e=D.e/\(cE D k id).g=D.g/\(cE D k id).x=D.x/\(cE D k id).t=D.t:=by
 unfold cE;split;{exact ⟨rfl,rfl,rfl,rfl⟩};{split;{split;{exact iF _ _ _};{exact ⟨rfl,rfl,rfl,rfl⟩}};{exact ⟨rfl,rfl,rfl,rfl⟩}}
theorem nY (id:Int):∀ (f k:Nat) (D:SD),(bO id f k D).e=D.e/\(bO id f k D).g=D.g/\(bO id f k D).x=D.x/\(bO id f k D).t=D.t
 | 0,k,D=>by unfold bO;exact ⟨rfl,rfl,rfl,rfl⟩
 | f+1,k,D=>by have hd:=qt D k id;unfold bO;split;{exact ⟨rfl,rfl,rfl,rfl⟩};{split;{have h1:=nY id f k (zO (cX (cE D k id) k 2) k);have h2:=iF (cE D k id) k 2;exact ⟨h1.1.trans (h2.1.trans hd.1),h1.2.1.trans (h2.2.1.trans hd.2.1),h1.2.2.1.trans (h2.2.2.1.trans hd.2.2.1),h1.2.2.2.trans (h2.2.2.2.trans hd.2.2.2)⟩};{have h1:=nY id f (k+1) (cE D k id);exact ⟨h1.1.trans hd.1,h1.2.1.trans hd.2.1,h1.2.2.1.trans hd.2.2.1,h1.2.2.2.trans hd.2.2.2⟩}}
theorem nZ (D:SD) (id:Int):(dw D id).e=D.e/\(dw D id).g=D.g/\(dw D id).x=D.x/\(dw D id).t=D.t:=nY id _ _ _
open Go.Maps
def yR (k:Int):Value:=if k=0 then .nilIface else .iface 77 (.agg #[.int .i64 k])
theorem xC (v:Value) (hv:v=.agg #[]) (pt:Value) (w:World):Calls prog 255 #[v,pt] w fun r w'=>r=.returned (yR 0)/\Below w.heap.size w w':=by
 subst hv;go_enter func255,ntmps255;go_wp2;go_ret;exact ⟨rfl,ay.alloc ax _⟩
theorem PS.rest {w':World} {SB NB HB UB:List Nat} (h:PS w0 w b bs bn D SB NB HB UB) {z:Nat} {cs:Array Value} {ty:TypeId} (hb:Below w0.heap.size w w') (hk:∀ y,y<w.heap.size->y≠z->w'.heap[y]?=w.heap[y]?) (hz:∃ m,w.heap[z]?=some (.cells cs ty m)) (ht:ty∉[35,137,132,5,49]):PS w0 w' b bs bn D SB NB HB UB:=by
 obtain ⟨mz,hz⟩:=hz;simp only [List.mem_cons,List.not_mem_nil,or_false,not_or] at ht;obtain ⟨t1,t2,t3,t4,t5⟩:=ht;have hf:Fr [ty] w w':=⟨hb.size,fun y cur JF m' hn hy=>by by_cases e:y=z;{subst e;rw [hz] at hy;simp at hy;exact absurd (by rw [hy.2.1];simp) hn};{exact (hk y (cD hy) e).trans hy}⟩
 have nc:∀ {y:Nat} {Lx:Array Value} {JF:TypeId},w.heap[y]?=some (.cells Lx JF)->ty≠JF->w'.heap[y]?=some (.cells Lx JF):=fun {y Lx JF} hy ht'=>(hk y (aI hy) (fun e=>by rw [e,hz] at hy;simp at hy;exact ht' hy.2.1)).trans hy
 have nm:∀ {k:TypeId} {R:Value->Option (DataW Unit × List MemPlace)} {y n:Nat} {M:DataW Unit},w.ownsMap prog k R y n M->w'.ownsMap prog k R y n M:=fun o=>lp o (fun es c hh=>(hk _ (aI hh) (fun e=>by rw [e,hz] at hh;cases hh)).trans hh)
 have ab:∀ {v:Value} {l:List Int},AB w0 w v l->AB w0 w' v l:=fun q=>q.fr hf (by simp;exact fun e=>t4 e.symm);have sm:∀ {y:Nat} {s:List Int},SM w y s->SM w' y s:=fun ⟨M,n,o,r⟩=>⟨M,n,nm o,r⟩;refine ⟨h.be.trans hb,nc h.hd t3,h.qU,?_,fun j s1 g1 iQ fN=>?_,h.snd,h.sw,h.hlen,h.ua,?_,fun j nd gb hh uu iQ fN h1 h2=>?_,h.Mt,h.lo,h.Ad⟩;{obtain ⟨M,n,o,r⟩:=h.qT;exact ⟨M,n,nm o,r⟩};{obtain ⟨q0,u,q1,q2⟩:=h.ox j s1 g1 iQ fN;exact ⟨q0,u,nc q1 t1,q2.fr hb hf (by simp;exact ⟨fun e=>t4 e.symm,fun e=>t5 e.symm⟩)⟩};{obtain ⟨M,n,o,r⟩:=h.mu;exact ⟨M,n,nm o,r⟩};{obtain ⟨q0,⟨V,q1,q2⟩,q3,q4⟩:=h.lu j nd gb hh uu iQ fN h1 h2;exact ⟨q0,⟨V,nc q1 t2,ab q2⟩,sm q3,sm q4⟩}
theorem Ik (w:World) (g1:Nat) (t d:Int) (h1:w.cell? ⟨g1,1,none⟩=some (.int .i64 t)) (hf:∀ o,w.frozen? ⟨g1,o,none⟩=false) :
  Calls prog 248 #[.pointer (some ⟨g1,0,none⟩),.int .i64 d] w fun r w'=>w'=w.setCell ⟨g1,1,none⟩ (.int .i64 (max t d))/\∃ v,r=.returned v:=by
 go_enter func248,ntmps248;go_wp2
 go_end0
 exact ⟨rfl,_,rfl⟩
theorem PS.Cl {SB NB HB UB:List Nat} (h:PS w0 w b bs bn D SB NB HB UB) (hi:D.ss[i]?=some s) (hr:0<=s.1/\s.1<18446744073709551616):∃ g u,SB[i]?=some g/\g<w.heap.size/\w0.heap.size<=g/\∀ W,Below w.heap.size w W->W.cell? ⟨b,3,none⟩=some (.int .i64 D.t)/\W.cell? ⟨b,4,none⟩=some (.map (some bs))/\(Instr.lookup 129 (.map (some bs)) (.int .u64 s.1) false).run prog W=.ok (.pointer (some ⟨g,0,none⟩)) W/\W.heap[g]?=some (.cells #[.int .u64 s.1,.int .i64 s.2.1,u] 35)/\W.cell? ⟨g,1,none⟩=some (.int .i64 s.2.1)/\∀ o,W.frozen? ⟨g,o,none⟩=false:=by
 obtain ⟨g,hg,hE,-⟩:=h.look hi hr;obtain ⟨h0,u,h1,h2⟩:=hE;refine ⟨g,u,hg,aI h1,h0,fun W hW=>?_⟩;have hP:=h.below hW;obtain ⟨-,-,-,k3,k4,-⟩:=hP.gw;obtain ⟨g',MM,hE',hl⟩:=hP.look hi hr;rw [hg] at MM;cases MM;have C5:W.heap[g]?=some (.cells #[.int .u64 s.1,.int .i64 s.2.1,u] 35):=(hW.block g (aI h1)).trans h1;exact ⟨k3,k4,hl,C5,aC C5 1,fun o=>by simp [World.frozen?,C5]⟩
theorem lZ {Q:Exit->Act->World->Prop} (hB:Region.lexB .any l.toArray=true) (h:∀ W,W=w.drew->wpStill prog l.toArray W (fun a'=>Q .normal a' W) l a):(Code.region id l.toArray true).wp prog Q a w:=wp_region_still_lit (by kernel_rfl) hB (h _ rfl)
theorem rU {Q:Exit->Act->World->Prop} (n:Nat) (hB:Region.lexTailB .any l.toArray n=true) (h:∀ W,W=w.drew->wpStill prog l.toArray W (fun a'=>wpList prog l.toArray Q (l.drop n) a' W) (l.take n) a):(Code.region id l.toArray true).wp prog Q a w:=wp_region_still_tail n (by kernel_rfl) hB (h _ rfl)
theorem PS.rep {SB NB HB UB:List Nat} (h:PS w0 w b bs bn D SB NB HB UB) {z:Nat} {vs:List Value} (hz:RX w z vs) (uv:w0.heap.size<=z) (v0 v1 v2 v3 v4 v5 v6 v7:Value):PS w0 (fk w z v0 v1 v2 v3 v4 v5 v6 v7) b bs bn D SB NB HB UB:=by
 obtain ⟨-,cur,hc⟩:=hz;exact h.rest ((aU w z v0 v1 v2 v3 v4 v5 v6 v7).mono uv) (fun y _ bq=>l9 bq) ⟨_,hc⟩ (by decide)
theorem LK (w:World) (cs:Array Value) (ty:TypeId):∃ X Y,X=w.alloc (.cells cs ty)/\Y=X.alloc (.cells #[.int .i64 0,.int .u64 0,.int .u64 0,.int .u64 0,.int .i64 0,.slice none 0 0,.slice none 0 0,.slice none 0 0] 41)/\Below w.heap.size w Y/\X.heap.size=w.heap.size+1/\Y.heap.size=w.heap.size+2/\al Y w.heap.size cs.toList/\RX Y (w.heap.size+1) [.int .i64 0,.int .u64 0,.int .u64 0,.int .u64 0,.int .i64 0,.slice none 0 0,.slice none 0 0,.slice none 0 0]:=by
 obtain ⟨X,hX,bX,zX,CX,gX⟩:=aj w cs ty;obtain ⟨Y,hY,bY,zY,RY⟩:=gP X (.int .i64 0) (.int .u64 0) (.int .u64 0) (.int .u64 0) (.int .i64 0) (.slice none 0 0) (.slice none 0 0) (.slice none 0 0);rw [zX] at RY;exact ⟨X,Y,hX,hY,ai bX bY,zX,by omega,CX.bc (bY.block _ (by omega)),RY⟩
theorem Cq {R:Ending->World->Prop} {z:Nat} (hR:Hid (RX Z z [o0,o1,o2,o3,o4,o5,o6,o7])) (hf:fn.results=#[.cell 4 41]) (ha:a.tmps.getD 4 undef=.pointer (some ⟨z,0,none⟩)) (hd:a.defers=[]) (hQ:R (.returned (.agg #[v0,v1,v2,v3,v4,v5,v6,v7])) (fk Z z v0 v1 v2 v3 v4 v5 v6 v7)):bodyPost prog fn R .ret a (fk Z z v0 v1 v2 v3 v4 v5 v6 v7):=by
 obtain ⟨q0,q1,q2,q3,q4,q5,q6,q7,-⟩:=(hR.put v0 v1 v2 v3 v4 v5 v6 v7).1.cells;generalize fk Z z v0 v1 v2 v3 v4 v5 v6 v7=W at *;refine bodyPost_ret (v:=.agg #[v0,v1,v2,v3,v4,v5,v6,v7]) ?_ hd hQ;have MV:=ha;simp only [Array.getD_eq_getD_getElem?] at MV;simp [results,hf,go_sem,MV,q0,q1,q2,q3,q4,q5,q6,q7]
def YR (R:RP):Value:=fW R.k R.i R.e R.g R.n (.slice none 0 0) (.slice none 0 0) (.slice none 0 0)
def Cd (w0 w:World) (b bs bn:Nat) (D:SD) (SB NB HB UB:List Nat) (R:RP) (r:Ending) (w':World):Prop:=PS w0 w' b bs bn D SB NB HB UB/\Fr T3 w w'/\r=.returned (YR R)
theorem JY {SB NB HB UB:List Nat} {R:RP} (PZ:Hid (PS w0 Z b bs bn D SB NB HB UB)) (FZ:Hid (Fr T3 w Z)) (RZ:Hid (RX Z (w.heap.size+1) [o0,o1,o2,o3,o4,o5,o6,o7])) (WL:w0.heap.size<=w.heap.size) (hf:fn.results=#[.cell 4 41]) (ha:a.tmps.getD 4 undef=.pointer (some ⟨w.heap.size+1,0,none⟩)) (hd:a.defers=[]) (eR:YR R=.agg #[v0,v1,v2,v3,v4,v5,v6,v7]):bodyPost prog fn (Cd w0 w b bs bn D SB NB HB UB R) .ret a (fk Z (w.heap.size+1) v0 v1 v2 v3 v4 v5 v6 v7):=
 Cq RZ hf ha hd ⟨PS.rep (aa PZ) (aa RZ) (by omega) _ _ _ _ _ _ _ _,FZ.low ((aU Z (w.heap.size+1) v0 v1 v2 v3 v4 v5 v6 v7).mono (by omega)),by rw [eR]⟩
theorem uh {α:Type} {l:List α} {a:α} (h:l[k]?=some a):l.set k a=l:=by
 refine List.ext_getElem? fun j=>?_;rw [List.getElem?_set];by_cases e:k=j;{subst e;rw [if_pos rfl,if_pos (aJ.1 h).1,h]};{rw [if_neg e]}
theorem yk (hk:D.ss[k]?=some s):iP D k=({ D with ss:=D.ss.set k (s.1,max s.2.1 (D.t+10),s.2.2) },{ mR with n:=max s.2.1 (D.t+10) }):=by
 unfold iP;rw [hk];by_cases h:s.2.1<D.t+10;{simp only [if_pos h];rw [Int.max_eq_right (by omega)]};{simp only [if_neg h];rw [Int.max_eq_left (by omega),uh hk]}
theorem Kl (w:World) (b bs bn:Nat) (D:SD) (SB NB HB UB:List Nat) (h:Hid (PS w0 w b bs bn D SB NB HB UB)) (k:Nat) (s:aL) (hk:Hid (D.ss[k]?=some s)) (hr:0<=s.1/\s.1<18446744073709551616) (t:Int) (et:Hid (D.t=t)) (ht:0<=t/\t<=1000000) :
  Calls prog 256 #[.agg #[.int .u64 s.1],.pointer (some ⟨b,0,none⟩)] w (Cd w0 w b bs bn (iP D k).1 SB NB HB UB (iP D k).2):=by
 rw [yk (aa hk),aa et];obtain ⟨g,u,hg,gl,g0,hW⟩:=h.Cl hk hr;obtain ⟨X,Y,hX,hY,bY,zX,zY,CY,RY⟩:=LK w #[.int .u64 s.1] 199;have HW:=ae hW;clear hW;go_enter func256,ntmps256;go_wp2_with fail;rw [<-hX,<-hY];refine lZ (by kernel_rfl) (fun W eW=>?_);have bW:Below w.heap.size w W:=by rw [eW];exact bY.drew
 obtain ⟨k3,k4,kl,kb,k1,kf⟩:=aa HW W bW;rw [aa et] at k3;have c1:W.cell? ⟨w.heap.size,0,none⟩=some (.int .u64 s.1):=by rw [eW];exact CY.1 0 _ rfl
 have RW:=RY.below (w':=W) (by rw [eW];exact ay.drew);have WL:=h.be.size;have PW:=ae (h.below bW);have KB:=ae kb;clear hX hY eW kb CY RY
 repeat still_step
 refine wpStill_nil ?_;go_wp2_with fail;refine (Ik W g s.2.1 (t+10) k1 kf).mono ?_;rintro r Z ⟨hZ,v,rfl⟩;have Tl:Z.heap[g]?=some (.cells #[.int .u64 s.1,.int .i64 (max s.2.1 (t+10)),u] 35):=by rw [hZ];simp [World.setCell,Array.getElem?_modify,aa KB]
 have z1:=aC Tl 1;have O:=One.ofC PW.be (by rw [hZ];exact ay.setCell (p:=⟨g,1,none⟩) ax _:Below g W Z) (aa KB) g0 (by simp) (fun z _ bq=>by rw [hZ];exact dt _ _ _ _ (show z≠_ from bq));obtain ⟨-,u',hu',hQ⟩:=PW.ox k s g hk hg;rw [aa KB] at hu';cases hu';have PZ:=PS.FI (s':=(s.1,max s.2.1 (t+10),s.2.2)) PW hk hg O rfl ⟨g0,u,Tl,hQ.fr O.b O.fr (by decide)⟩;rw [aa et] at PZ;replace PZ:=ae PZ;have RZ:=ae (RW.fr O.fr (by decide));have FZ:=ae ((Fr.below (T:=T3) bW).trans O.fr);obtain ⟨⟨rc,rf⟩,-⟩:=RW.fr O.fr (by decide);have r0:=rc 0 _ rfl;have r1:=rc 1 _ rfl;have r2:=rc 2 _ rfl;have r3:=rc 3 _ rfl;have r4:=rc 4 _ rfl;have r5:=rc 5 _ rfl;have r6:=rc 6 _ rfl;have r7:=rc 7 _ rfl;clear hZ Tl O hQ RW rc k3 k4 kl k1 kf c1 KB;go_wp2;exact JY PZ FZ RZ WL (by kernel_rfl) rfl rfl rfl




theorem II (w:World) (cs:Array Value) (ty:TypeId):∃ X Y,X=w.alloc (.cells cs ty)/\Y=X.alloc (.cells #[.int .i64 0,.int .u64 0,.int .u64 0,.int .u64 0,.int .i64 0,.slice none 0 0,.slice none 0 0,.slice none 0 0] 41)/\Below w.heap.size w Y/\X.heap.size=w.heap.size+1/\Y.heap.size=w.heap.size+2/\Y.heap[w.heap.size]?=some (.cells cs ty)/\RX Y (w.heap.size+1) [.int .i64 0,.int .u64 0,.int .u64 0,.int .u64 0,.int .i64 0,.slice none 0 0,.slice none 0 0,.slice none 0 0]:=by
 obtain ⟨X,hX,bX,zX,-,gX⟩:=aj w cs ty;obtain ⟨Y,hY,bY,zY,RY⟩:=gP X (.int .i64 0) (.int .u64 0) (.int .u64 0) (.int .u64 0) (.int .i64 0) (.slice none 0 0) (.slice none 0 0) (.slice none 0 0);rw [zX] at RY;exact ⟨X,Y,hX,hY,ai bX bY,zX,by omega,(bY.block _ (by omega)).trans gX,RY⟩

end Go.Proofs.YtcfcafeciggjeaaGreatDoor
