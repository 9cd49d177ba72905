import Derived.Test.YtcfcafeciggjeaaGreatDoorASf
import Derived.Test.YtcfcafeciggjeaaGreatDoorK30
import Derived.Test.YtcfcafeciggjeaaGreatDoorK20
import Derived.StillTailTactics
namespace Go.Proofs.YtcfcafeciggjeaaGreatDoor
set_option maxHeartbeats 1600000
set_option linter.all false
set_option maxRecDepth 100000
open Go.ChangeShapes Go.WideShapes Go.ChangeAt Go.RowKit Go.Proofs.Tryz
variable {D:SD} {P:List Int} {Z w w0:World} {a:Act} {b bn bs i id k:Nat} {fn:Func} {l:List Oper} {nd:aD} {ns:List aD} {o0 o1 o2 o3 o4 o5 o6 o7 v0 v1 v2 v3 v4 v5 v6 v7:Value} {s:aY} {ss:List aY}
def Af (K S F:Int) (np nv:Nat) (E G:Int):Bool:=if 1<=K/\K<=13 then vH K.toNat S F np nv E G else false
def DB (K:Int):Bool:=!(K==1)&&(!(K==6)&&!(K==13))
def jE (D:SD) (i:Nat):SD × RP:=match D.ss[i]? with
 | none=>(D,rp0)
 | some s=>if s.2.1<D.t+10 then ({ D with ss:=D.ss.set i (s.1,D.t+10,s.2.2) },{ rp0 with n:=D.t+10 }) else (D,{ rp0 with n:=s.2.1 })
def pX (D:SD) (i:Nat):SD × RP:=match D.ss[i]? with
 | none=>(D,rp0)
 | some s=>({ D with ss:=D.ss.set i (s.1,s.2.1,[]) },{ rp0 with qm:=s.2.2 })
def xY (ns:List aD) (P:List Int):Int:=match ns.findIdx? (fun nd=>decide (nd.path=P)) with
 | some i=>i
 | none=>-1
def jA (K:Int) (P:List Int):Bool:=decide (K=13)&&decide (P=[47])
def iA (D:SD) (K S F E G:Int) (P V:List Int):SD × RP:=
 if (!jA K P&&!vp P)=true then (D,sV 4)
 else if K=4 then fG D P V S F
 else if K=10 then (D,{ rp0 with n:=kI D.ns P S E G })
 else if (!jA K P&&decide (xY D.ns P<0))=true then (D,sV 5)
 else if K=13 then (D,{ rp0 with pY:=gJ D.ns P })
 else gI D (xY D.ns P).toNat K S F V
def aM (D:SD) (K S F E G:Int) (P V:List Int):SD × RP:=
 if Af K S F P.length V.length E G=false then (D,sV 2)
 else if K=1 then ik D
 else if (DB K&&decide (lT D.ss S<0))=true then (D,sV 3)
 else if K=2 then jE D (lT D.ss S).toNat
 else if K=3 then (gv D S,rp0)
 else if K=12 then pX D (lT D.ss S).toNat
 else iA D K S F E G P V
def PD (ns:List aD):Prop:=∀ (i j:Nat) (a b:aD),ns[i]?=some a->ns[j]?=some b->a.path=b.path->i=j
structure WF (D:SD):Prop where
 g:0<=D.g/\D.g<=4611686018427387904
 x:0<=D.x/\D.x<=4611686018427387904
 t:0<=D.t/\D.t<=1000000
 nb:NB D.ns
 pb:PPB D.ns
 vl:∀ nd∈D.ns,nd.value.length<=1048576
 ex:∀ nd∈D.ns,nd.mode=1->nd.holders≠[]
 pd:PD D.ns
theorem Nc (K S F E G:Int) (pp pq:Option Addr) (np nv cp cv:Nat) (w:World) (B:Bool) (eB:Hid (Af K S F np nv E G=B)) :
  Calls prog 53 #[lW K S (.S pp np cp) F (.S pq nv cv) E G] w fun r w'=>r=.returned (.bool B)/\Bw w w':=by
 by_cases h:1<=K/\K<=13;{obtain ⟨k,rfl⟩:∃ k:Nat,K=(k:Int):=⟨K.toNat,by omega⟩;have e:=aa eB;rw [Af,if_pos h,Int.toNat_natCast] at e;exact M8 k (by omega) (by omega) S F E G pp pq np nv cp cv w B (ae e)};{have e:=aa eB;rw [Af,if_neg h] at e;subst e;exact Ge K S F E G pp pq np nv cp cv w (by omega)}
theorem L6 (K:Int) (w:World):Calls prog 77 #[.I K] w fun r w'=>r=.returned (.bool (DB K))/\w'=w:=by
 by_cases h1:K=1;{subst h1;go_enter func77,ntmps77;go_wp2;go_ret;exact ⟨rfl,rfl⟩};{
 by_cases h6:K=6;{subst h6;go_enter func77,ntmps77;go_wp2;go_ret;exact ⟨rfl,rfl⟩};{
 by_cases Yw:K=13;{subst Yw;go_enter func77,ntmps77;go_wp2;go_ret;exact ⟨rfl,rfl⟩};{
 have e:DB K=true:=by simp [DB,h1,h6,Yw]
 rw [e];have a1:(K != 1)=true:=by simp [h1]
 have a6:(K != 6)=true:=by simp [h6]
 have a13:(K != 13)=true:=by simp [Yw]
 go_enter func77,ntmps77;go_wp2;go_ret;exact ⟨rfl,rfl⟩}}}
theorem QD (hp:PD ns) (h:ns[k]?=some nd) (hn:fE ns P=some nd):xY ns P=k:=by
 have e:nd.path=P:=by have:=List.find?_some hn;simpa using this
 have:ns.findIdx? (fun nd=>decide (nd.path=P))=some k:=by
  rw [List.findIdx?_eq_some_iff_getElem];obtain ⟨h1,h2⟩:=aN.1 h;refine ⟨h1,by rw [h2];simp [e],fun i hi hc=>?_⟩;have iw:ns[i].path=P:=by simpa using hc
  have:=hp i k _ _ (aK (by omega)) h (iw.trans e.symm);omega
 rw [xY,this]
theorem Dc (hn:fE ns P=none):xY ns P=-1:=by
 have:ns.findIdx? (fun nd=>decide (nd.path=P))=none:=by rw [List.findIdx?_eq_none_iff];intro x hx;have:=List.find?_eq_none.1 hn x hx;simpa using this
 rw [xY,this]
theorem QE (h:¬ xY ns P<0):∃ (k:Nat) (nd:aD),xY ns P=k/\ns[k]?=some nd:=by
 unfold xY at h ⊢;cases hf:ns.findIdx? (fun nd=>decide (nd.path=P)) with
 | none=>rw [hf] at h;simp at h
 | some k=>
  obtain ⟨h1,-⟩:=List.findIdx?_eq_some_iff_getElem.1 hf;exact ⟨k,_,rfl,aK h1⟩
theorem AE {S:Int} (h:¬ lT ss S<0):∃ (k:Nat) (s:aY),lT ss S=k/\ss[k]?=some s:=by
 unfold lT at h ⊢;cases hf:ss.findIdx? (fun s=>s.1==S) with
 | none=>rw [hf] at h;simp at h
 | some k=>
  obtain ⟨h1,-⟩:=List.findIdx?_eq_some_iff_getElem.1 hf;exact ⟨k,_,rfl,aK h1⟩
theorem Fl (e g x t:Int) (p q:Option Addr) (c n d m:Nat) (S:Value) (ns:List aD) (l:List Int) (en:Hid (ns.length=n)) (em:Hid (l.length=m)) (w:World) (h:kJ w (.S p n c) ns) (hl:Rd w (.S q m d) l) (hn:n<=1048576) (hm:m<=2097152)
  (fI:Hid (bM l/\∀ nd∈ns,bM nd.path)) (hp:PD ns) :
  Calls prog 108 #[cY e g x t S (.S p n c),.S q m d] w fun r w'=>r=.returned (.I (xY ns l))/\Bw w w':=by
 refine (mO e g x t p q c n d m S ns l en em w h hl hn hm fI).mono ?_;rintro r w' ⟨⟨k,nd,rfl,-,h1,h2⟩ | ⟨rfl,h1⟩,hb⟩;{exact ⟨by rw [QD hp h1 h2],hb⟩};{exact ⟨by rw [Dc h1],hb⟩}
theorem LH {e g x t:Int} (h:ss[i]?=some s) {dd:Int} (hd:(if s.2.1<t+10 then t+10 else s.2.1)=dd):jE ⟨e,g,x,t,ss,ns⟩ i=(⟨e,g,x,t,ss.set i (s.1,dd,s.2.2),ns⟩,⟨0,0,0,0,dd,[],[],[]⟩):=by
 unfold jE;simp only [h];by_cases hl:s.2.1<t+10;{
 rw [if_pos hl] at hd ⊢;rw [<-hd]
 rfl}
 {
 rw [if_neg hl] at hd ⊢;rw [<-hd,gi h]
 rfl}
theorem ki (D:SD) (k:Nat) (kd:Int):(cO D k kd).e=D.e/\(cO D k kd).g=D.g/\(cO D k kd).x=D.x/\(cO D k kd).t=D.t:=by
 unfold cO;split<;>exact ⟨rfl,rfl,rfl,rfl⟩
theorem tR (D:SD) (k:Nat) (id:Int):(cT D k id).e=D.e/\(cT D k id).g=D.g/\(cT D k id).x=D.x/\(cT D k id).t=D.t:=by
 unfold cT;split;{exact ⟨rfl,rfl,rfl,rfl⟩};{split;{split;{exact ki _ _ _};{exact ⟨rfl,rfl,rfl,rfl⟩}};{exact ⟨rfl,rfl,rfl,rfl⟩}}
theorem qV (id:Int):∀ (f k:Nat) (D:SD),(cA id f k D).e=D.e/\(cA id f k D).g=D.g/\(cA id f k D).x=D.x/\(cA id f k D).t=D.t
 | 0,k,D=>by unfold cA;exact ⟨rfl,rfl,rfl,rfl⟩
 | f+1,k,D=>by have hd:=tR D k id;unfold cA;split;{exact ⟨rfl,rfl,rfl,rfl⟩};{split;{have h1:=qV id f k (AH (cO (cT D k id) k 2) k);have h2:=ki (cT D k id) k 2;exact ⟨h1.1.trans (h2.1.trans hd.1),h1.2.1.trans (h2.2.1.trans hd.2.1),h1.2.2.1.trans (h2.2.2.1.trans hd.2.2.1),h1.2.2.2.trans (h2.2.2.2.trans hd.2.2.2)⟩};{have h1:=qV id f (k+1) (cT D k id);exact ⟨h1.1.trans hd.1,h1.2.1.trans hd.2.1,h1.2.2.1.trans hd.2.2.1,h1.2.2.2.trans hd.2.2.2⟩}}
theorem qW (D:SD) (id:Int):(gv D id).e=D.e/\(gv D id).g=D.g/\(gv D id).x=D.x/\(gv D id).t=D.t:=qV id _ _ _
open Go.Maps
def vJ (k:Int):Value:=if k=0 then .nilIface else .iface 77 (.agg #[.I k])
theorem ku (v:Value) (hv:v=.agg #[]) (pt:Value) (w:World):Calls prog 255 #[v,pt] w fun r w'=>r=.returned (vJ 0)/\Bw w w':=by
 subst hv;go_enter func255,ntmps255;go_wp2;go_ret;exact ⟨rfl,aJ.alloc aA _⟩
def rQ (D:SD):Int:=if 50<=D.ss.length then 11 else if 4611686018427387904<=D.x then 12 else 0
theorem Qr (w:World) (b bs bn:Nat) (D:SD) (SB NB HB UB:List Nat) (h:Hid (PS w0 w b bs bn D SB NB HB UB)) (C:Int) (eC:Hid (rQ D=C)) :
  Calls prog 254 #[.agg #[],.pointer (some ⟨b,0,none⟩)] w fun r w'=>r=.returned (vJ C)/\Bw w w':=by
 obtain ⟨-,-,h2,-,h4,-,-⟩:=h.dC;obtain ⟨M,n,o,hn,m,hz⟩:=h.my;have k2:=fun (ob:Obj)=>af h2 ((Below.refl w.heap.size w).alloc aA ob);have k4:=fun (ob:Obj)=>af h4 ((Below.refl w.heap.size w).alloc aA ob);have hlen:=fun (ob:Obj)=>(o.alloc ob).len underlying129 3;rw [hz] at hlen;have e:=aa eC;unfold rQ at e;obtain ⟨nl,je⟩:=aH D.ss.length;rw [je] at hlen e;clear o m hz je;by_cases WH:50<=nl;{have WG:=dE 50 nl;rw [if_pos WH] at e;subst e;go_enter func254,ntmps254;go_wp2;go_ret;exact ⟨rfl,aJ.alloc aA _⟩};{
 have WG:¬ (50:Int)<=(nl:Int):=by omega
 rw [if_neg WH] at e;by_cases hx:4611686018427387904<=D.x;{
 have LO:decide (4611686018427387904<=D.x)=true:=by simpa using hx
 rw [if_pos hx] at e;subst e;go_enter func254,ntmps254;go_wp2;go_ret;exact ⟨rfl,aJ.alloc aA _⟩};{
 have LO:decide (4611686018427387904<=D.x)=false:=by simpa using hx
 rw [if_neg hx] at e;subst e;go_enter func254,ntmps254;go_wp2;go_ret;exact ⟨rfl,aJ.alloc aA _⟩}}
theorem PS.rest {w':World} {SB NB HB UB:List Nat} (h:PS w0 w b bs bn D SB NB HB UB) {z:Nat} {cs:Array Value} {ty:TypeId} (hb:Below w0.heap.size w w') (hk:∀ y,y<w.heap.size->y≠z->w'.heap[y]?=w.heap[y]?) (hz:∃ m,w.heap[z]?=some (.cells cs ty m)) (ht:ty∉[35,137,132,5,49]):PS w0 w' b bs bn D SB NB HB UB:=by
 obtain ⟨mz,hz⟩:=hz;simp only [List.mem_cons,List.not_mem_nil,or_false,not_or] at ht;obtain ⟨t1,t2,t3,t4,t5⟩:=ht;have hf:Fr [ty] w w':=⟨hb.size,fun y cur PR m' hn hy=>by by_cases e:y=z;{subst e;rw [hz] at hy;simp at hy;exact absurd (by rw [hy.2.1];simp) hn};{exact (hk y (cF hy) e).trans hy}⟩
 have nc:∀ {y:Nat} {Sf:Array Value} {PR:TypeId},w.heap[y]?=some (.cells Sf PR)->ty≠PR->w'.heap[y]?=some (.cells Sf PR):=fun {y Sf PR} hy ht'=>(hk y (aG hy) (fun e=>by rw [e,hz] at hy;simp at hy;exact ht' hy.2.1)).trans hy
 have nm:∀ {k:TypeId} {R:Value->Option (DataW Unit × List MemPlace)} {y n:Nat} {M:DataW Unit},w.ownsMap prog k R y n M->w'.ownsMap prog k R y n M:=fun o=>oy o (fun es c hh=>(hk _ (aG hh) (fun e=>by rw [e,hz] at hh;cases hh)).trans hh)
 have ab:∀ {v:Value} {l:List Int},AB w0 w v l->AB w0 w' v l:=fun q=>q.fr hf (by simp;exact fun e=>t4 e.symm);have sm:∀ {y:Nat} {s:List Int},SM w y s->SM w' y s:=fun ⟨M,n,o,r⟩=>⟨M,n,nm o,r⟩;refine ⟨h.be.trans hb,nc h.hd t3,h.mF,?_,fun j s1 g1 gx fO=>?_,h.snd,h.nE,h.hlen,h.oe,?_,fun j nd gb hh uu gx fO h1 h2=>?_,h.Lp,h.lo,h.BF⟩;{obtain ⟨M,n,o,r⟩:=h.my;exact ⟨M,n,nm o,r⟩};{obtain ⟨q0,u,q1,q2⟩:=h.mH j s1 g1 gx fO;exact ⟨q0,u,nc q1 t1,q2.fr hb hf (by simp;exact ⟨fun e=>t4 e.symm,fun e=>t5 e.symm⟩)⟩};{obtain ⟨M,n,o,r⟩:=h.jQ;exact ⟨M,n,nm o,r⟩};{obtain ⟨q0,⟨V,q1,q2⟩,q3,q4⟩:=h.jC j nd gb hh uu gx fO h1 h2;exact ⟨q0,⟨V,nc q1 t2,ab q2⟩,sm q3,sm q4⟩}
theorem Nj (w:World) (g1:Nat) (t d:Int) (h1:w.cell? ⟨g1,1,none⟩=some (.I t)) (hf:∀ o,w.frozen? ⟨g1,o,none⟩=false) :
  Calls prog 248 #[.pointer (some ⟨g1,0,none⟩),.I d] w fun r w'=>w'=w.setCell ⟨g1,1,none⟩ (.I (max t d))/\∃ v,r=.returned v:=by
 go_enter func248,ntmps248;go_wp2
 go_end0
 exact ⟨rfl,_,rfl⟩
theorem PS.Fc {SB NB HB UB:List Nat} (h:PS w0 w b bs bn D SB NB HB UB) (hi:D.ss[i]?=some s) (hr:0<=s.1/\s.1<18446744073709551616):∃ g u,SB[i]?=some g/\g<w.heap.size/\w0.heap.size<=g/\∀ W,Bw w W->W.cell? ⟨b,3,none⟩=some (.I D.t)/\W.cell? ⟨b,4,none⟩=some (.map (some bs))/\(Instr.lookup 129 (.map (some bs)) (.U s.1) false).run prog W=.ok (.pointer (some ⟨g,0,none⟩)) W/\W.heap[g]?=some (.cells #[.U s.1,.I s.2.1,u] 35)/\W.cell? ⟨g,1,none⟩=some (.I s.2.1)/\∀ o,W.frozen? ⟨g,o,none⟩=false:=by
 obtain ⟨g,hg,hE,-⟩:=h.look hi hr;obtain ⟨h0,u,h1,h2⟩:=hE;refine ⟨g,u,hg,aG h1,h0,fun W hW=>?_⟩;have hP:=h.below hW;obtain ⟨-,-,-,k3,k4,-⟩:=hP.dC;obtain ⟨g',sy,hE',hl⟩:=hP.look hi hr;rw [hg] at sy;cases sy;have Hr:W.heap[g]?=some (.cells #[.U s.1,.I s.2.1,u] 35):=(hW.block g (aG h1)).trans h1;exact ⟨k3,k4,hl,Hr,ay Hr 1,fun o=>by simp [World.frozen?,Hr]⟩
theorem fx {Q:Exit->Act->World->Prop} (hB:Region.lexB .any l.toArray=true) (h:∀ W,W=w.drew->wpStill prog l.toArray W (fun a'=>Q .normal a' W) l a):(Code.region id l.toArray true).wp prog Q a w:=wp_region_still_lit (by kernel_rfl) hB (h _ rfl)
theorem de {Q:Exit->Act->World->Prop} (n:Nat) (hB:Region.lexTailB .any l.toArray n=true) (h:∀ W,W=w.drew->wpStill prog l.toArray W (fun a'=>wpList prog l.toArray Q (l.drop n) a' W) (l.take n) a):(Code.region id l.toArray true).wp prog Q a w:=wp_region_still_tail n (by kernel_rfl) hB (h _ rfl)
theorem PS.rep {SB NB HB UB:List Nat} (h:PS w0 w b bs bn D SB NB HB UB) {z:Nat} {vs:List Value} (hz:RX w z vs) (yB:w0.heap.size<=z) (v0 v1 v2 v3 v4 v5 v6 v7:Value):PS w0 (fg w z v0 v1 v2 v3 v4 v5 v6 v7) b bs bn D SB NB HB UB:=by
 obtain ⟨-,cur,hc⟩:=hz;exact h.rest ((aO w z v0 v1 v2 v3 v4 v5 v6 v7).mono yB) (fun y _ bL=>gu bL) ⟨_,hc⟩ (by decide)
theorem sN (w:World) (cs:Array Value) (ty:TypeId):∃ X Y,X=w.alloc (.cells cs ty)/\Y=X.alloc (.cells #[.I 0,.U 0,.U 0,.U 0,.I 0,.S none 0 0,.S none 0 0,.S none 0 0] 41)/\Bw w Y/\X.heap.size=w.heap.size+1/\Y.heap.size=w.heap.size+2/\aq Y w.heap.size cs.toList/\RX Y (w.heap.size+1) [.I 0,.U 0,.U 0,.U 0,.I 0,.S none 0 0,.S none 0 0,.S none 0 0]:=by
 obtain ⟨X,hX,bX,zX,CX,gX⟩:=aj w cs ty;obtain ⟨Y,hY,bY,zY,RY⟩:=gw X (.I 0) (.U 0) (.U 0) (.U 0) (.I 0) (.S none 0 0) (.S none 0 0) (.S none 0 0);rw [zX] at RY;exact ⟨X,Y,hX,hY,ah bX bY,zX,by omega,CX.aS (bY.block _ (by omega)),RY⟩
theorem kT {R:Ending->World->Prop} {z:Nat} (hR:Hid (RX Z z [o0,o1,o2,o3,o4,o5,o6,o7])) (hf:fn.results=#[.cell 4 41]) (ha:a.tmps.getD 4 undef=.pointer (some ⟨z,0,none⟩)) (hd:a.defers=[]) (hQ:R (.returned (.agg #[v0,v1,v2,v3,v4,v5,v6,v7])) (fg Z z v0 v1 v2 v3 v4 v5 v6 v7)):bodyPost prog fn R .ret a (fg Z z v0 v1 v2 v3 v4 v5 v6 v7):=by
 obtain ⟨q0,q1,q2,q3,q4,q5,q6,q7,-⟩:=(hR.put v0 v1 v2 v3 v4 v5 v6 v7).1.cells;generalize fg Z z v0 v1 v2 v3 v4 v5 v6 v7=W at *;refine bodyPost_ret (v:=.agg #[v0,v1,v2,v3,v4,v5,v6,v7]) ?_ hd hQ;have Tz:=ha;simp only [Array.getD_eq_getD_getElem?] at Tz;simp [results,hf,go_sem,Tz,q0,q1,q2,q3,q4,q5,q6,q7]
def rpn (R:RP):Value:=gP R.k R.i R.e R.g R.n (.S none 0 0) (.S none 0 0) (.S none 0 0)
def jU (w0 w:World) (b bs bn:Nat) (D:SD) (SB NB HB UB:List Nat) (R:RP) (r:Ending) (w':World):Prop:=PS w0 w' b bs bn D SB NB HB UB/\Fr T3 w w'/\r=.returned (rpn R)
theorem gQ {SB NB HB UB:List Nat} {R:RP} (PZ:Hid (PS w0 Z b bs bn D SB NB HB UB)) (FZ:Hid (Fr T3 w Z)) (RZ:Hid (RX Z (w.heap.size+1) [o0,o1,o2,o3,o4,o5,o6,o7])) (sU:w0.heap.size<=w.heap.size) (hf:fn.results=#[.cell 4 41]) (ha:a.tmps.getD 4 undef=.pointer (some ⟨w.heap.size+1,0,none⟩)) (hd:a.defers=[]) (eR:rpn R=.agg #[v0,v1,v2,v3,v4,v5,v6,v7]):bodyPost prog fn (jU w0 w b bs bn D SB NB HB UB R) .ret a (fg Z (w.heap.size+1) v0 v1 v2 v3 v4 v5 v6 v7):=
 kT RZ hf ha hd ⟨PS.rep (aa PZ) (aa RZ) (by omega) _ _ _ _ _ _ _ _,FZ.low ((aO Z (w.heap.size+1) v0 v1 v2 v3 v4 v5 v6 v7).mono (by omega)),by rw [eR]⟩
theorem yv {α:Type} {l:List α} {a:α} (h:l[k]?=some a):l.set k a=l:=by
 refine List.ext_getElem? fun j=>?_;rw [List.getElem?_set];by_cases e:k=j;{subst e;rw [if_pos rfl,if_pos (aN.1 h).1,h]};{rw [if_neg e]}
theorem Dw (hk:D.ss[k]?=some s):jE D k=({ D with ss:=D.ss.set k (s.1,max s.2.1 (D.t+10),s.2.2) },{ rp0 with n:=max s.2.1 (D.t+10) }):=by
 unfold jE;rw [hk];by_cases h:s.2.1<D.t+10;{simp only [if_pos h];rw [Int.max_eq_right (by omega)]};{simp only [if_neg h];rw [Int.max_eq_left (by omega),yv hk]}
theorem QN (w:World) (b bs bn:Nat) (D:SD) (SB NB HB UB:List Nat) (h:Hid (PS w0 w b bs bn D SB NB HB UB)) (k:Nat) (s:aY) (hk:Hid (D.ss[k]?=some s)) (hr:0<=s.1/\s.1<18446744073709551616) (t:Int) (et:Hid (D.t=t)) (ht:0<=t/\t<=1000000) :
  Calls prog 256 #[.agg #[.U s.1],.pointer (some ⟨b,0,none⟩)] w (jU w0 w b bs bn (jE D k).1 SB NB HB UB (jE D k).2):=by
 rw [Dw (aa hk),aa et];obtain ⟨g,u,hg,gl,g0,hW⟩:=h.Fc hk hr;obtain ⟨X,Y,hX,hY,bY,zX,zY,CY,RY⟩:=sN w #[.U s.1] 199;have HW:=ae hW;clear hW;go_enter func256,ntmps256;go_wp2_with fail;rw [<-hX,<-hY];refine fx (by kernel_rfl) (fun W eW=>?_);have bW:Bw w W:=by rw [eW];exact bY.drew
 obtain ⟨k3,k4,kl,kb,k1,kf⟩:=aa HW W bW;rw [aa et] at k3;have c1:W.cell? ⟨w.heap.size,0,none⟩=some (.U s.1):=by rw [eW];exact CY.1 0 _ rfl
 have RW:=RY.below (w':=W) (by rw [eW];exact aJ.drew);have sU:=h.be.size;have PW:=ae (h.below bW);have KB:=ae kb;clear hX hY eW kb CY RY
 repeat still_step
 refine wpStill_nil ?_;go_wp2_with fail;refine (Nj W g s.2.1 (t+10) k1 kf).mono ?_;rintro r Z ⟨hZ,v,rfl⟩;have xj:Z.heap[g]?=some (.cells #[.U s.1,.I (max s.2.1 (t+10)),u] 35):=by rw [hZ];simp [World.setCell,Array.getElem?_modify,aa KB]
 have z1:=ay xj 1;have O:=One.Qw PW.be (by rw [hZ];exact aJ.setCell (p:=⟨g,1,none⟩) aA _:Below g W Z) (aa KB) g0 (by simp) (fun z _ bL=>by rw [hZ];exact dF _ _ _ _ (show z≠_ from bL));obtain ⟨-,u',OP,hQ⟩:=PW.mH k s g hk hg;rw [aa KB] at OP;cases OP;have PZ:=PS.GI (s':=(s.1,max s.2.1 (t+10),s.2.2)) PW hk hg O rfl ⟨g0,u,xj,hQ.fr O.b O.fr (by decide)⟩;rw [aa et] at PZ;replace PZ:=ae PZ;have RZ:=ae (RW.fr O.fr);have FZ:=ae ((Fr.below (T:=T3) bW).trans O.fr);obtain ⟨⟨rc,rf⟩,-⟩:=RW.fr O.fr;have r0:=rc 0 _ rfl;have r1:=rc 1 _ rfl;have r2:=rc 2 _ rfl;have r3:=rc 3 _ rfl;have r4:=rc 4 _ rfl;have r5:=rc 5 _ rfl;have r6:=rc 6 _ rfl;have r7:=rc 7 _ rfl;clear hZ xj O hQ RW rc k3 k4 kl k1 kf c1 KB;go_wp2;exact gQ PZ FZ RZ sU (by kernel_rfl) rfl rfl rfl
theorem Is (w:World) (b bs bn:Nat) (D:SD) (SB NB HB UB:List Nat) (h:Hid (PS w0 w b bs bn D SB NB HB UB)) (k:Nat) (nd:aD) (hk:Hid (D.ns[k]?=some nd)) (hS:Hid (vN D.ss)) (hT:Hid (NT D.ss nd)) (id:Int) (hid:0<=id/\id<18446744073709551616) (Ts:Hid (nd.holders.Pairwise (·<·))) (hhl:nd.holders.length<=1048576) (uy:Hid (nd.holders.contains id=true)) :
  Calls prog 275 #[.agg #[.U id,.string (aC nd.path)],.pointer (some ⟨b,0,none⟩)] w (jU w0 w b bs bn (cT D k id) SB NB HB UB rp0):=by
 obtain ⟨X,Y,hX,hY,bY,zX,zY,CY,RY⟩:=sN w #[.U id,.string (aC nd.path)] 211;go_enter func275,ntmps275;go_wp2_with fail;rw [<-hX,<-hY];refine (IB Y b bs bn D SB NB HB UB (ae (h.below bY)) k nd hk hS hT id hid Ts hhl uy).mono ?_;rintro r Z ⟨PZ,hF,v,rfl⟩;have Ej:=RY.fr hF;obtain ⟨r0,r1,r2,r3,r4,r5,r6,r7,rf⟩:=Ej.cells;replace PZ:=ae PZ;have FZ:=ae ((Fr.below (T:=T3) bY).trans hF);have RZ:=ae Ej;have sU:=h.be.size;go_wp2;exact gQ PZ FZ RZ sU (by kernel_rfl) rfl rfl rfl
theorem Jr (w:World) (b bs bn:Nat) (D:SD) (SB NB HB UB:List Nat) (h:Hid (PS w0 w b bs bn D SB NB HB UB)) (k:Nat) (nd:aD) (hk:Hid (D.ns[k]?=some nd)) (hS:Hid (vN D.ss)) (hT:Hid (NT D.ss nd)) (hD:Hid (KD D.ns)) (id:Int) :
  Calls prog 267 #[.agg #[.U id,.string (aC nd.path)],.pointer (some ⟨b,0,none⟩)] w (jU w0 w b bs bn (AH (cO D k 2) k) SB (NB.eraseIdx k) (HB.eraseIdx k) (UB.eraseIdx k) rp0):=by
 obtain ⟨X,Y,hX,hY,bY,zX,zY,CY,RY⟩:=sN w #[.U id,.string (aC nd.path)] 204;go_enter func267,ntmps267;go_wp2_with fail;rw [<-hX,<-hY];refine (KT Y b bs bn D SB NB HB UB (ae (h.below bY)) k nd hk hS hT hD).mono ?_;rintro r Z ⟨PZ,hF,v,rfl⟩;have Ej:=RY.fr hF;obtain ⟨r0,r1,r2,r3,r4,r5,r6,r7,rf⟩:=Ej.cells;replace PZ:=ae PZ;have FZ:=ae ((Fr.below (T:=T3) bY).trans hF);have RZ:=ae Ej;have sU:=h.be.size;go_wp2;exact gQ PZ FZ RZ sU (by kernel_rfl) rfl rfl rfl
theorem PS.AO {SB NB HB UB:List Nat} (h:PS w0 w b bs bn D SB NB HB UB) (hi:D.ns[i]?=some nd) (hl:nd.path.length<=1048576):∃ g hh uu V,NB[i]?=some g/\HB[i]?=some hh/\UB[i]?=some uu/\g<w.heap.size/\hh<w.heap.size/\uu<w.heap.size/\w0.heap.size<=g/\∀ W,Bw w W->W.cell? ⟨b,5,none⟩=some (.map (some bn))/\(Instr.lookup 130 (.map (some bn)) (.string (aC nd.path)) false).run prog W=.ok (.pointer (some ⟨g,0,none⟩)) W/\PN w0 W g hh uu nd/\W.heap[g]?=some (.cells #[V,.U nd.owner,.I nd.mode,.map (some hh),.U nd.aB,.U nd.gen,.map (some uu)] 137):=by
 obtain ⟨g,hh,uu,hg,jT,jX,hN,-⟩:=h.Dg hi hl;obtain ⟨V,h1,-⟩:=hN.aI;obtain ⟨es,c,m3⟩:=hN.Hn.at;obtain ⟨RN,c',m4⟩:=hN.Iq.at;refine ⟨g,hh,uu,V,hg,jT,jX,aG h1,aG m3,aG m4,hN.lo.1,fun W hW=>?_⟩;have hP:=h.below hW;obtain ⟨-,-,-,-,-,k5,-⟩:=hP.dC;obtain ⟨g',hh',uu',sy,ac7,ZW,hN',sv⟩:=hP.Dg hi hl;rw [hg] at sy;rw [jT] at ac7;rw [jX] at ZW;cases sy;cases ac7;cases ZW;exact ⟨k5,sv,hN',(hW.block g (aG h1)).trans h1⟩
theorem U3 (w:World) (b bs bn:Nat) (D:SD) (SB NB HB UB:List Nat) (h:Hid (PS w0 w b bs bn D SB NB HB UB)) (k:Nat) (nd:aD) (hk:Hid (D.ns[k]?=some nd)) (hS:Hid (vN D.ss)) (hT:Hid (NT D.ss nd)) (id:Int) (pv:Option Addr) (nv cv:Nat) (V:List Int) (hV:Hid (AB w0 w (.S pv nv cv) V)) :
  Calls prog 271 #[.agg #[.U id,.string (aC nd.path),.S pv nv cv],.pointer (some ⟨b,0,none⟩)] w (jU w0 w b bs bn (cO { D with ns:=D.ns.set k { nd with value:=V } } k 1) SB NB HB UB rp0):=by
 obtain ⟨g,hh,uu,V0,hg,jT,jX,gl,-,-,g0,hW⟩:=h.AO hk hT.pl;obtain ⟨X,Y,hX,hY,bY,zX,zY,CY,RY⟩:=sN w #[.U id,.string (aC nd.path),.S pv nv cv] 208;have HW:=ae hW;clear hW;go_enter func271,ntmps271;go_wp2_with fail;rw [<-hX,<-hY];refine de 12 (by kernel_rfl) (fun W eW=>?_);have bW:Bw w W:=by rw [eW];exact bY.drew
 obtain ⟨k5,kl,kN,kb⟩:=aa HW W bW;have c1:W.cell? ⟨w.heap.size,1,none⟩=some (.string (aC nd.path)):=by rw [eW];exact CY.1 1 _ rfl
 have c2:W.cell? ⟨w.heap.size,2,none⟩=some (.S pv nv cv):=by rw [eW];exact CY.1 2 _ rfl
 have RW:=RY.below (w':=W) (by rw [eW];exact aJ.drew);have CW:=CY.aS (w':=W) (by rw [eW];rfl);have sU:=h.be.size;have PW:=ae (h.below bW);have g0c:=ay kb 0;have gf:∀ o,W.frozen? ⟨g,o,none⟩=false:=fun o=>by simp [World.frozen?,kb]
 have KB:=ae kb;have KN:=ae kN;clear hX hY eW kb CY RY kN;simp only [List.take_succ_cons,List.take_zero,List.drop_succ_cons,List.drop_zero]
 repeat still_step
 refine wpStill_nil ?_;obtain ⟨Z,hZ⟩:=ax (W.setCell ⟨g,0,none⟩ (.S pv nv cv));have xj:Z.heap[g]?=some (.cells #[.S pv nv cv,.U nd.owner,.I nd.mode,.map (some hh),.U nd.aB,.U nd.gen,.map (some uu)] 137):=by rw [hZ];simp [World.setCell,Array.getElem?_modify,aa KB]
 have bZ:Below g W Z:=by rw [hZ];exact aJ.setCell (p:=⟨g,0,none⟩) aA _
 have kZ:∀ z,z<W.heap.size->z≠g->Z.heap[z]?=W.heap[z]?:=fun z _ bL=>by rw [hZ];exact dF _ _ _ _ (show z≠_ from bL)
 have O:=One.Qw PW.be bZ (aa KB) g0 (by simp) kZ;have PZ:=ae (PW.Lo (aa hk) hg jT jX O _ V nd.owner nd.mode nd.aB nd.gen xj ((hV.fr (al bW) (by simp)).fr O.fr));have RZ:=RW.fr O.fr;have zz:w.heap.size<W.heap.size:=by have:=cF RW.2.choose_spec;omega
 have d1:Z.cell? ⟨w.heap.size,1,none⟩=some (.string (aC nd.path)):=(CW.aS (kZ _ zz (by omega))).1 1 _ rfl;have FZ:=ae ((Fr.below (T:=T3) bW).trans O.fr);have VT:=ae (aP hk { nd with value:=V });clear xj bZ kZ O RW CW KB KN;go_wp2_with fail;rw [<-hZ];refine (UR Z b bs bn _ SB NB HB UB PZ k { nd with value:=V } VT 1 hS (ae ⟨hT.Ia,hT.pl,hT.wpw,hT.Cn,hT.yO⟩)).mono ?_;rintro r U ⟨PU,hF,v,rfl⟩;have RU0:=RZ.fr hF;obtain ⟨r0,r1,r2,r3,r4,r5,r6,r7,rf⟩:=RU0.cells;replace PU:=ae PU;have FU:=ae (FZ.trans hF);have RU:=ae RU0;clear RU0 hF RZ d1 hZ;go_wp2;exact gQ PU FU RU sU (by kernel_rfl) rfl rfl rfl
end Go.Proofs.YtcfcafeciggjeaaGreatDoor
