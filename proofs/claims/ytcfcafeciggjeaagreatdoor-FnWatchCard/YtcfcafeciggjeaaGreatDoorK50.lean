import Derived.Test.YtcfcafeciggjeaaGreatDoorK49
import Derived.Test.YtcfcafeciggjeaaGreatDoorK44
import Derived.LaidHandle
import Derived.LaidLaws
import Derived.Stop.LaidErr
namespace Go.Proofs.YtcfcafeciggjeaaGreatDoor
set_option maxHeartbeats 12800000
set_option linter.all false
set_option maxRecDepth 100000
variable {D:SD} {W w:World} {j:Nat} {s:aY} {ss:List aY}
theorem U5 (hp:(iD ss).Pairwise (·<·)) (h:ss[j]?=some s):lT ss s.1=j:=
 GR h rfl fun i s' jc uS e=>by obtain ⟨hi,ei⟩:=aN.1 uS;obtain ⟨hj,ej⟩:=aN.1 h;have h1:=List.pairwise_iff_getElem.1 hp i j (by simp [iD];omega) (by simp [iD];omega) jc;simp only [iD,List.getElem_map,ei,ej] at h1;omega
theorem RG (h:ss[j]?=some s) (id:Int) (ev:Ev):(jG ss id ev)[j]?=some (if s.1=id then (s.1,s.2.1,dM s.2.2 ev) else s):=by
 unfold jG;rw [List.getElem?_map,h]
 rfl
theorem Ct (ev:Ev) :∀ (ids:List Int) {ss:List aY} {s:aY},ids.Pairwise (·<·)->ss[j]?=some s->(fN ss ids ev)[j]?=some (if s.1∈ids then (s.1,s.2.1,dM s.2.2 ev) else s)
 | [],ss,s,_,h=>by simpa [fN] using h
 | y::r,ss,s,hp,h=>by
  have h1:=RG h y ev;have VH:=List.pairwise_cons.1 hp;have h2:=Ct ev r VH.2 h1;show (fN (jG ss y ev) r ev)[j]?=_;rw [h2];by_cases e:s.1=y;{
 have hn:¬ y∈r:=fun hm=>by have:=VH.1 y hm;omega
 rw [if_pos e];simp [e,hn]};{rw [if_neg e];by_cases hm:s.1∈r;{simp [hm]};{simp [hm,e]}}
theorem xQ (hd:VD D) (h:D.ss[j]?=some s):aM D 12 s.1 0 0 0 [] []=({ D with ss:=D.ss.set j (s.1,s.2.1,[]) },{ rp0 with qm:=s.2.2 }):=by
 have hx:=U5 hd.s1 h;have hf:Af 12 s.1 0 0 0 0 0=true:=by simp [Af,vH,rowOf,Jf]
 unfold aM;rw [if_neg (by show ¬ Af 12 s.1 0 0 0 0 0=false;rw [hf];simp),aw,if_neg (by rw [hx];simp),aw,aw,if_pos rfl,hx];unfold pX;rw [Int.toNat_natCast,h]
theorem Ip (hd:VD D) {k:Nat} {nd:aD} (hk:D.ns[k]?=some nd) (hj:D.ss[j]?=some s) {Ia:Int} (hb:Ia∈iD D.ss) (hm:nd.mode=1->nd.holders.headD 0=Ia) :
  ∃ D1 D2 D3 D4 D5,aM D 11 s.1 0 0 0 nd.path []=(D1,rp0)/\aM D1 7 Ia 0 0 0 nd.path [119]=(D2,rp0)/\aM D2 7 Ia 0 0 0 nd.path [119]=(D3,rp0)/\aM D3 12 s.1 0 0 0 [] []=(D4,{ rp0 with qm:=dM s.2.2 (1,nd.path) })/\aM D4 12 s.1 0 0 0 [] []=(D5,rp0):=by
 have hsm:s.1∈iD D.ss:=List.mem_map.2 ⟨s,aF hj,rfl⟩;have Rq:=(hd.n2 nd (aF hk)).pb;have e1:aM D 11 s.1 0 0 0 nd.path []=({ D with ns:=D.ns.set k { nd with watchers:=ig nd.watchers s.1 } },rp0):=by
  rw [xR hd hk hsm (by simp [Af,vH,rowOf,Jf]) (by decide)];unfold gI;rw [hk]
  rfl
 have v1:VD { D with ns:=D.ns.set k { nd with watchers:=ig nd.watchers s.1 } }:=by have:=hd.apply (K:=11) (S:=s.1) (F:=0) (E:=0) (G:=0) (P:=nd.path) (V:=[]) Rq (fun z hz=>by simp at hz);rw [e1] at this;exact this
 have k1:(D.ns.set k { nd with watchers:=ig nd.watchers s.1 })[k]?=some { nd with watchers:=ig nd.watchers s.1 }:=aP hk _;have hw:=(v1.n2 _ (aF k1)).w1;have hbV:bM [119]:=fun z hz=>by simp at hz;omega
 have e2:aM { D with ns:=D.ns.set k { nd with watchers:=ig nd.watchers s.1 } } 7 Ia 0 0 0 nd.path [119]=({ D with ss:=fN D.ss (ig nd.watchers s.1) (1,nd.path),ns:=D.ns.set k { nd with watchers:=[],value:=[119] } },rp0):=by rw [xR v1 (nd:={ nd with watchers:=ig nd.watchers s.1 }) k1 hb (by simp [Af,vH,rowOf,Jf]) (by decide)];unfold gI;simp only [k1];rw [aw,aw,if_pos trivial,if_neg (fun hh=>hh.2 (hm hh.1))];unfold cO;simp only [List.set_set,aP hk]
 have v2:VD { D with ss:=fN D.ss (ig nd.watchers s.1) (1,nd.path),ns:=D.ns.set k { nd with watchers:=[],value:=[119] } }:=by have:=v1.apply (K:=7) (S:=Ia) (F:=0) (E:=0) (G:=0) (P:=nd.path) (V:=[119]) Rq hbV;rw [e2] at this;exact this
 have k2:(D.ns.set k { nd with watchers:=[],value:=[119] })[k]?=some { nd with watchers:=[],value:=[119] }:=aP hk _;have hi:iD (fN D.ss (ig nd.watchers s.1) (1,nd.path))=iD D.ss:=kh _ _ _;have e3:aM { D with ss:=fN D.ss (ig nd.watchers s.1) (1,nd.path),ns:=D.ns.set k { nd with watchers:=[],value:=[119] } } 7 Ia 0 0 0 nd.path [119]=({ D with ss:=fN D.ss (ig nd.watchers s.1) (1,nd.path),ns:=D.ns.set k { nd with watchers:=[],value:=[119] } },rp0):=by
  rw [xR v2 (nd:={ nd with watchers:=[],value:=[119] }) k2 (by show _∈iD _;rw [hi];exact hb) (by simp [Af,vH,rowOf,Jf]) (by decide)];unfold gI;simp only [k2];rw [aw,aw,if_pos trivial,if_neg (fun hh=>hh.2 (hm hh.1))];unfold cO;simp only [List.set_set,aP hk]
  rfl
 have fK:s.1∈ig nd.watchers s.1:=nY.2 (.inl rfl);have Tr:(fN D.ss (ig nd.watchers s.1) (1,nd.path))[j]?=some (s.1,s.2.1,dM s.2.2 (1,nd.path)):=by rw [Ct (1,nd.path) _ hw hj,if_pos fK]
 have e4:=xQ v2 Tr;have v4:=v2.apply (K:=12) (S:=s.1) (F:=0) (E:=0) (G:=0) (P:=[]) (V:=[]) (fun z hz=>by simp at hz) (fun z hz=>by simp at hz);rw [e4] at v4;have hj4:((fN D.ss (ig nd.watchers s.1) (1,nd.path)).set j (s.1,s.2.1,[]))[j]?=some (s.1,s.2.1,[]):=aP Tr _;have e5:=xQ v4 hj4;exact ⟨_,_,_,_,_,e1,e2,e3,e4,e5⟩
open Go.ChangeShapes Go.WideShapes Go.ChangeAt Go.RowKit Go.Deep Go.Proofs.Tryz
def UQ (l:List Int) (k:Nat):Int:=l.getD (k % l.length) 0
theorem As (p:Option Addr) (c n k:Nat) (hk:k<=100) (l:List Int) (en:Hid (l.length=n)) (w:World) (h:Rd w (.S p n c) l) (hl:n<=1048576) (y:Int) (ey:UQ l k=y) (hy:0<=y/\y<256) :
  Calls prog 13 #[.S p n c,.I k] w fun e w'=>e=.returned (.I y)/\Bw w w':=by
 by_cases h0:n=0;{
 subst h0;have:l=[]:=List.length_eq_zero_iff.1 en;subst this;have:y=0:=by rw [<-ey];rfl
 subst this;go_enter func13,ntmps13;go_wp2;go_ret;exact ⟨rfl,Below.refl _ _⟩};{
 obtain ⟨b,o,rfl,e,hc⟩:=h.at (by rw [aa en];omega);obtain ⟨J,eJ,Xd⟩:∃ J:Nat,(k:Int) % (n:Int)=(J:Int)/\Hid (J=k % n):=⟨k % n,by simp,rfl⟩;have hJ:J<n:=by have:=Int.emod_lt_of_pos (k:Int) (show (0:Int)<n by omega);omega
 have mx:=hc J (by omega);have ey2:l.getD J 0=y:=by rw [<-ey,UQ,aa en,aa Xd]
 rw [ey2] at mx;have bL:((n:Int)==0)=false:=beq_eq_false_iff_ne.2 (by omega);have hpi:=aT J n;clear hc ey ey2 h e Xd;go_enter func13,ntmps13;go_wp2;go_ret;exact ⟨rfl,by first | exact Below.refl _ _ | exact below_drewN aJ _⟩}
theorem Own.zero (w:World):Own w.heap.size (w.alloc (.cells #[] 5)) (.S (some ⟨w.heap.size,0,none⟩) 0 0) []:=
 World.ownsRow_lit w #[] 0 aA (by unfold maxLen;omega) rfl
theorem Kr {i:Int} (h:1<=i/\i<=4611686018427387904):0<=i/\i<18446744073709551616:=⟨by omega,by omega⟩
theorem Xg (w:World):∃ W2,W2=w.alloc (.cells #[.int .u8 119] 5 (1,2))/\Bw w W2/\W2.heap.size=w.heap.size+1/\TB W2 (.S (some ⟨w.heap.size,0,none⟩) 1 1) [119]:=by
 refine ⟨_,rfl,aJ.alloc aA _,by simp,⟨_,_,rfl,.inr ⟨w.heap.size,0,rfl,fun i hi=>?_⟩⟩,fun b e=>.inr ?_,_,_,_,rfl,by omega,by unfold maxLen;omega⟩;{
 match i,hi with
 | 0,_=>(rw [Nat.zero_add,tT];rfl)}
 {simp only [Value.ownBlock,Option.some.injEq] at e;subst e;exact ⟨#[.int .u8 119],(1,2),by show (w.heap.push _)[w.heap.size]?=_;simp⟩}
theorem lZ {ops:Array Oper} {rest:List Oper} {o:Oper} {a:Act} {Q:Exit->Act->World->Prop} (jK:o.guard=none) (s x:Operand)
  (ho:o.op=.call { callee:=.builtin .append,args:=#[s,x],argTypes:=#[33,33] })
  (B:Nat) (v:Value) (zs:List Ev) (z:Ev) (k:Nat) (ek:Hid (zs.length=k)) (hs:a.eval s=v) (br:mu B w v zs) (g:Nat) (p:Option Addr) (n c:Nat) (hx:a.eval x=.S (some ⟨g,0,none⟩) 1 1) (hz:TB w (.S p n c) z.2) (c0:w.cell? ⟨g,0,none⟩=some (.I z.1)) (c1:w.cell? ⟨g,1,none⟩=some (.S p n c))
  (hk:k<4194304) (hB:B<=w.heap.size)
  (h:∀ p' c' w',mu B w' (.S p' (k+1) c') (zs++[z])->w.grownBy w' v.ownBlock->wpList prog ops Q rest (a.put o.dst (.S p' (k+1) c')) w'):wpList prog ops Q (o::rest) a w:=by
 obtain ⟨i,hi,mw,iT,jW⟩:=info_parts Tryz.infoEv;have ht:=br.nJ;obtain ⟨rs,h1,h2,h3,h4⟩:=br;rw [aa ek] at h3;refine eX jK s x 33 ho B 49 i _ 2 32 underlying33 hi mw iT jW rfl (by decide) v _ _ hs h3 g 1 1 [.I z.1,.S p n c] hx rfl (fun j u hu=>by rcases j with _ | _ | j;{simp at hu;subst hu;exact c0};{simp at hu;subst hu;exact c1};{simp at hu}) (fun u hu=>by simp at hu;rcases hu with rfl | rfl<;>rfl) (by unfold maxLen;omega) (by omega) hB ?_
 intro v' w' dW hg _;have hf:Fr [49] w w':=Fr.grown hg fun b hb=>by obtain ⟨cur,hc⟩:=ht b hb;exact ⟨cur,_,hc,by simp⟩
 have sn:mu B w' v' (zs++[z]):=RT.snoc h1 h2 h4 (fun x c h=>nB.fr hf (by decide) x c h) ⟨_,rfl,hz⟩ rfl (by rw [aa ek];exact dW);obtain ⟨p',c',rfl,-⟩:=RT.form sn;rw [List.length_append,aa ek] at sn ⊢;exact h p' c' w' sn hg
theorem An.ev {B:Nat} {k i e g n:Int} {Dv Nv:Value} {p:Option Addr} {n' c:Nat} {R:RP} (h:An B w (gP k i e g n Dv Nv (.S p n' c)) R):vO w (.S p n' c) R.qm:=by
 obtain ⟨p1,c1,p2,c2,p3,c3,A1,A2,A3,e',-,-,⟨re,-⟩,-⟩:=h;have e2:=congrArg (fun v=>match v with | .agg a=>a[7]? | _=>none) e';simp only [gP] at e2;have e3:Value.S p n' c=.S p3 R.qm.length c3:=by simpa using e2
 rw [e3];exact re.rd
theorem KY {q:List Ev} {ev e:Ev} (h:e∈dM q ev):e∈q\/e=ev\/e=(4,[]):=by
 unfold dM at h;split at h;{rcases List.mem_append.1 h with h | h;{exact .inl h};{exact .inr (.inl (by simpa using h))}};{split at h;{rcases List.mem_append.1 h with h | h;{exact .inl h};{exact .inr (.inr (by simpa using h))}};{exact .inl h}}
theorem K4 (q:List Ev) (ev:Ev):(dM q ev).length<=q.length+1:=by
 unfold dM
 repeat' split
 all_goals simp
theorem vW (l:List Int) (hb:bM l) (k:Nat):0<=UQ l k/\UQ l k<256:=cG l hb _
theorem pick (Y:Int) (hY:0<=Y) (n:Nat) (hn:¬ n=0):∃ J:Nat,Y.tmod (n:Int)=(J:Int)/\J<n:=by
 rw [Int.tmod_eq_emod_of_nonneg hY];have h1:=Int.emod_nonneg Y (show (n:Int)≠0 by omega);have h2:=Int.emod_lt_of_pos Y (show (0:Int)<n by omega);exact ⟨(Y % n).toNat,by omega,by omega⟩
theorem ZI (lK:Hid (∀ code:List Int,bM code->code.length<=1048576->∃ D O,BD D/\Cj O/\UG code D O)) (code more:List Int) (p:Option Addr) (c:Nat) (q:Option Addr) (d n2:Nat) (J9:Hid (more.length=n2)) (w:World) (hR:Hid (Rd w (.S p code.length c) code)) (hM:Hid (Rd w (.S q n2 d) more)) (hb:Hid (bM code)) (Yj:Hid (bM more)) (hc:code.length<=c) (hl:code.length<=1048576) (uW:n2<=1048576) (hG:Hid (GW w)) :
  Calls prog 5 #[.S p code.length c,.S q n2 d] w fun r w'=>r=.returned (.bool true)/\Bw w w':=by
 obtain ⟨D,O,hD0,hO0,MW⟩:=aa lK code hb hl;have hD:=ae hD0;have hO:=ae hO0;have hA:=ae MW;clear hD0 hO0 MW lK;have sv:¬ (1048576:Int)<(code.length:Int):=by omega
 have ab9:¬ (1048576:Int)<(n2:Int):=by omega
 obtain ⟨m,em⟩:=aL D.ss.length;obtain ⟨n,en⟩:=aL D.ns.length;have hm2:m<=1000:=by rw [<-aa em];exact hD.sl
 have J3:n<=1000:=by rw [<-aa en];exact hD.nl
 go_enter func5,ntmps5;go_wp2_with fail;refine (aa hA p c w hR hc).mono ?_;rintro r w1 ⟨ps,cs,qs,ds,pp,cp,pq,cv,rfl,S1,-,-,b1⟩;obtain ⟨s1,N1⟩:=S1 w1 (Fr.refl _ _);clear S1;rw [aa em] at s1;rw [aa en] at N1;rw [aa em,aa en];obtain ⟨W2,iL,b2,z2,C2⟩:=oR w1 D ps m cs qs n ds;obtain ⟨W3,kn,b3,z3,-,-⟩:=aj W2 #[.I O.K,.U O.S,.S pp O.P.length cp,.I O.F,.S pq O.V.length cv,.U O.E,.U O.G] 29;have bW:=ah b2 b3;have HW:=ae (fun (v:World) (hv:Bw W3 v)=>ag ((C2.below b3).below hv) (ag (s1.below (ah bW hv)) (ag (N1.below (ah bW hv)) (ah b1 (ah bW hv)))));obtain ⟨sb,nA⟩:=aH w1.heap.size;rw [nA] at HW;have zsb:sb<W3.heap.size:=by omega
 have xW:=ae nA;clear s1 N1 b1 b2 b3 z2 z3 C2 bW nA;go_wp2_with fail;rw [<-iL,<-kn];clear iL kn W2;obtain ⟨ok,Ew⟩:=aL (jY D.e D.g D.x D.t D.ss D.ns);refine (Az D.e D.g D.x D.t ps qs cs m ds n D.ss D.ns em en W3 (aa HW W3 aJ).2.1.rd (aa HW W3 aJ).2.2.1 (by omega) (by omega) (ae hD.nO) (ae hD.fI) ok Ew).mono ?_;rintro r w4 ⟨rfl,gL⟩;have B4:=ae gL;clear gL;rw [aa xW];clear xW w1;cases ok;{go_wp2;go_ret;exact ⟨rfl,(aa HW w4 B4).2.2.2⟩};have HV:Hid (VD D):=hD.vd Ew;have hm5:m<=50:=by rw [<-aa em];exact HV.sl
 have hn5:n<=200:=by rw [<-aa en];exact HV.nl
 obtain ⟨q0,q1,q2,q3,q4,q5,qf⟩:=(aa HW w4 B4).1.cells;by_cases Ep:n=0;{
 have e9:((n:Int)==0)=true:=by simp [Ep]
 clear Ep;go_wp2;go_ret;exact ⟨rfl,(aa HW w4 B4).2.2.2⟩};have en9:((n:Int)==0)=false:=by simp;omega
 by_cases xu:m=0;{
 have e9:((m:Int)==0)=true:=by simp [xu]
 clear xu;go_wp2;go_ret;exact ⟨rfl,(aa HW w4 B4).2.2.2⟩};have em9:((m:Int)==0)=false:=by simp;omega
 obtain ⟨Y0,eY0⟩:=aH (UQ more 0);obtain ⟨Y1,eY1⟩:=aH (UQ more 1);obtain ⟨Y2,Nt⟩:=aH (UQ more 2);have Zw:=vW more Yj 0;have rY1:=vW more Yj 1;have rY2:=vW more Yj 2;rw [eY0] at Zw;rw [eY1] at rY1;rw [Nt] at rY2;obtain ⟨J0,eJ0,hJ0⟩:=pick Y0 Zw.1 n Ep;obtain ⟨J1,eJ1,hJ1⟩:=pick Y1 rY1.1 m xu;obtain ⟨J2,Xd,TK⟩:=pick Y2 rY2.1 m xu;have EY:=ae (ag eY0 (ag eY1 Nt));clear eY0 eY1 Nt;obtain ⟨nd,aV⟩:∃ nd,Hid (D.ns[J0]?=some nd):=⟨_,ae (aK (by rw [aa en];exact hJ0))⟩;obtain ⟨s,hs⟩:∃ s,Hid (D.ss[J1]?=some s):=⟨_,ae (aK (by rw [aa em];exact hJ1))⟩;obtain ⟨s2,DC⟩:∃ s,Hid (D.ss[J2]?=some s):=⟨_,ae (aK (by rw [aa em];exact TK))⟩;obtain ⟨gn,on,P,V,H,U,rfl,NA⟩:=kJ.own (aa HW w4 B4).2.2.1 aV;obtain ⟨gs,os,-,-,rfl,-⟩:=uJ.at3 (aa HW w4 B4).2.1.rd hs;obtain ⟨nh,Uc⟩:=aL nd.holders.length;obtain ⟨np,Ai⟩:=aL nd.path.length;obtain ⟨pP,cP,rfl⟩:∃ p c,P=.S p np c:=by obtain ⟨p,c,e,-⟩:=NA.r0;rw [aa Ai] at e;exact ⟨p,c,e⟩
 obtain ⟨pV,cV,rfl⟩:∃ p c,V=.S p nd.value.length c:=by obtain ⟨p,c,e,-⟩:=NA.r1;exact ⟨p,c,e⟩
 obtain ⟨pH,cH,rfl⟩:∃ p c,H=.S p nh c:=by obtain ⟨p,c,e,-⟩:=NA.r4;rw [aa Uc] at e;exact ⟨p,c,e⟩
 obtain ⟨pU,cU,rfl⟩:∃ p c,U=.S p nd.watchers.length c:=by obtain ⟨p,c,e,-⟩:=NA.r7;exact ⟨p,c,e⟩
 have HN:=ae (fun (v:World) (hv:Bw w4 v)=>ag (NA.below hv) (ag (ah (aa B4) hv) (aa HW v (ah (aa B4) hv))));have hnp:np<=1048576:=by have:=(HV.fI nd (aF (aa aV))).2.1;rw [aa Ai] at this;exact this
 have hnh:nh<=1048576:=by have:=(HV.fI nd (aF (aa aV))).2.2.2.1;rw [aa Uc] at this;exact this
 clear NA;go_wp2_with fail
 go_cut [7] (fun nv wc=>Hid (∃ nb:Nat,nv=.pointer (some ⟨nb,0,none⟩)/\w4.heap.size<=nb/\nb<wc.heap.size/\aq wc nb [.S pP np cP,.S pV nd.value.length cV,.U nd.owner,.I nd.mode,.S pH nh cH,.U nd.aB,.U nd.gen,.S pU nd.watchers.length cU]/\Bw w4 wc))
 case first =>(
 obtain ⟨vA,aX⟩:=ax w4.drew;have bA:Hid (Bw w4 vA):=by rw [aX];exact aJ.drew
 have Kd:Hid (∀ w',Bw w4 w'->(w'.cell? ⟨sb,5,none⟩=some (.S (some ⟨gn,on,none⟩) n ds)/\w'.cell? ⟨gn,on+J0*8,none⟩=some (.S pP np cP)/\w'.cell? ⟨gn,on+J0*8+1,none⟩=some (.S pV nd.value.length cV)/\w'.cell? ⟨gn,on+J0*8+2,none⟩=some (.U nd.owner)/\w'.cell? ⟨gn,on+J0*8+3,none⟩=some (.I nd.mode)/\w'.cell? ⟨gn,on+J0*8+4,none⟩=some (.S pH nh cH)/\w'.cell? ⟨gn,on+J0*8+5,none⟩=some (.U nd.aB)/\w'.cell? ⟨gn,on+J0*8+6,none⟩=some (.U nd.gen)/\w'.cell? ⟨gn,on+J0*8+7,none⟩=some (.S pU nd.watchers.length cU))):=fun w' hv=>by obtain ⟨NA,-,MF,-⟩:=aa HN w' hv;exact ⟨MF.cells.2.2.2.2.2.1,NA.c0,NA.c1,NA.c2,NA.c3,NA.c4,NA.c5,NA.c6,NA.c7⟩
 refine bO (fun w'=>w'.cell? ⟨sb,5,none⟩=some (.S (some ⟨gn,on,none⟩) n ds)/\w'.cell? ⟨gn,on+J0*8,none⟩=some (.S pP np cP)/\w'.cell? ⟨gn,on+J0*8+1,none⟩=some (.S pV nd.value.length cV)/\w'.cell? ⟨gn,on+J0*8+2,none⟩=some (.U nd.owner)/\w'.cell? ⟨gn,on+J0*8+3,none⟩=some (.I nd.mode)/\w'.cell? ⟨gn,on+J0*8+4,none⟩=some (.S pH nh cH)/\w'.cell? ⟨gn,on+J0*8+5,none⟩=some (.U nd.aB)/\w'.cell? ⟨gn,on+J0*8+6,none⟩=some (.U nd.gen)/\w'.cell? ⟨gn,on+J0*8+7,none⟩=some (.S pU nd.watchers.length cU)) (by rw [<-aX];exact aa Kd vA (aa bA)) fun hS=>?_;rw [<-aX] at hS ⊢;clear aX q0 q1 q2 q3 q4 q5 qf;refine gC 0 1 2 4 hS ?_;refine fe 5 6 hS ?_;refine ry [3,10] ?_;refine cn (fun KK hK=>?_) (cn (fun KK hK=>?_) AllReadyH.nil);{
 refine lD (As q d n2 0 (by omega) more J9 vA (hM.below (aa HN vA bA).2.2.2.2.2) uW Y0 EY.1 Zw) ?_;rintro r v1 ⟨rfl,oI⟩;refine ⟨_,rfl,?_⟩;have B1:=ae (ah bA oI);refine cg hK (aa Kd v1 B1) fun hS=>?_;clear hK KK oI;refine fe 7 8 hS ?_;refine tn 9 hS ?_;refine bH 10 fun KK hK=>?_;go_simp;obtain ⟨v2,hX,bX,zX,CX,-⟩:=aj v1 #[.S none 0 0,.S none 0 0,.U 0,.I 0,.S none 0 0,.U 0,.U 0,.S none 0 0] 38;rw [<-hX];have B2:=ae (ah B1 bX);refine cg hK (aa Kd v2 B2) fun hS=>?_;clear hK KK hX;refine bH 11 fun KK hK=>?_;obtain ⟨Z,hZ⟩:=ax (fg v2 v1.heap.size (.S pP np cP) (.S pV nd.value.length cV) (.U nd.owner) (.I nd.mode) (.S pH nh cH) (.U nd.aB) (.U nd.gen) (.S pU nd.watchers.length cU));have CZ:=rJ CX (.S pP np cP) (.S pV nd.value.length cV) (.U nd.owner) (.I nd.mode) (.S pH nh cH) (.U nd.aB) (.U nd.gen) (.S pU nd.watchers.length cU);have bZ:=aO v2 v1.heap.size (.S pP np cP) (.S pV nd.value.length cV) (.U nd.owner) (.I nd.mode) (.S pH nh cH) (.U nd.aB) (.U nd.gen) (.S pU nd.watchers.length cU);rw [<-hZ] at CZ bZ;have szA:=bA.size;have szB:=B1.size;have szC:=B2.size;have szZ:=bZ.size;have bz4:Hid (Bw w4 Z):=B2.trans (bZ.mono (by omega));have HZ:=ae (ag CZ (ag (show w4.heap.size<=v1.heap.size by omega) (show v1.heap.size<Z.heap.size by omega)));obtain ⟨e0,e1,e2,e3,e4,e5,e6,e7⟩:_/\_/\_/\_/\_/\_/\_/\_:=⟨CX.1 0 _ rfl,CX.1 1 _ rfl,CX.1 2 _ rfl,CX.1 3 _ rfl,CX.1 4 _ rfl,CX.1 5 _ rfl,CX.1 6 _ rfl,CX.1 7 _ rfl⟩;have ef:=CX.2;clear CZ bZ CX szA szB szC szZ;unfold fg bg at hZ;go_simp;rw [<-hZ];refine hK.out _ _ (aa Kd Z bz4) (fun hS=>?_);clear hK KK hZ e0 e1 e2 e3 e4 e5 e6 e7 ef;refine bu ?_;clear hS;go_wp2;go_meet
 case rel=>exact ae ⟨v1.heap.size,rfl,HZ.2.1,HZ.2.2,HZ.1,bz4⟩}
 {
 go_simp;obtain ⟨v1,hX,bX,zX,CX,-⟩:=aj vA #[.S none 0 0,.S none 0 0,.U 0,.I 0,.S none 0 0,.U 0,.U 0,.S none 0 0] 38;rw [<-hX];have B1:=ae (ah bA bX);refine cg hK (aa Kd v1 B1) fun hS=>?_;clear hK KK hX;refine bH 3 fun KK hK=>?_;refine lD (As q d n2 0 (by omega) more J9 v1 (hM.below (aa HN v1 B1).2.2.2.2.2) uW Y0 EY.1 Zw) ?_;rintro r v2 ⟨rfl,oI⟩;refine ⟨_,rfl,?_⟩;have B2:=ae (ah B1 oI);refine cg hK (aa Kd v2 B2) fun hS=>?_;have CX:=CX.below (by omega) oI;have zbc:=oI.size;clear hK KK oI;refine fe 7 8 hS ?_;refine tn 9 hS ?_;refine bH 11 fun KK hK=>?_;obtain ⟨Z,hZ⟩:=ax (fg v2 vA.heap.size (.S pP np cP) (.S pV nd.value.length cV) (.U nd.owner) (.I nd.mode) (.S pH nh cH) (.U nd.aB) (.U nd.gen) (.S pU nd.watchers.length cU));have CZ:=rJ CX (.S pP np cP) (.S pV nd.value.length cV) (.U nd.owner) (.I nd.mode) (.S pH nh cH) (.U nd.aB) (.U nd.gen) (.S pU nd.watchers.length cU);have bZ:=aO v2 vA.heap.size (.S pP np cP) (.S pV nd.value.length cV) (.U nd.owner) (.I nd.mode) (.S pH nh cH) (.U nd.aB) (.U nd.gen) (.S pU nd.watchers.length cU);rw [<-hZ] at CZ bZ;have szA:=bA.size;have szB:=B1.size;have szC:=B2.size;have szZ:=bZ.size;have bz4:Hid (Bw w4 Z):=B2.trans (bZ.mono (by omega));have HZ:=ae (ag CZ (ag (show w4.heap.size<=vA.heap.size by omega) (show vA.heap.size<Z.heap.size by omega)));obtain ⟨e0,e1,e2,e3,e4,e5,e6,e7⟩:_/\_/\_/\_/\_/\_/\_/\_:=⟨CX.1 0 _ rfl,CX.1 1 _ rfl,CX.1 2 _ rfl,CX.1 3 _ rfl,CX.1 4 _ rfl,CX.1 5 _ rfl,CX.1 6 _ rfl,CX.1 7 _ rfl⟩;have ef:=CX.2;clear CZ bZ CX szA szB szC szZ;unfold fg bg at hZ;go_simp;rw [<-hZ];refine hK.out _ _ (aa Kd Z bz4) (fun hS=>?_);clear hK KK hZ e0 e1 e2 e3 e4 e5 e6 e7 ef;refine bu ?_;clear hS;go_wp2;go_meet
 case rel=>exact ae ⟨vA.heap.size,rfl,HZ.2.1,HZ.2.2,HZ.1,bz4⟩})
 case rest=>
 obtain ⟨nb,rfl,hnb,aK8,CN,bc⟩:=aa hcut;have HC:=ae (fun (v:World) (hv:Bw wc v)=>ag (CN.below aK8 hv) (aa HN v (ah bc hv)));clear CN bc hcut HN q0 q1 q2 q3 q4 q5 qf;obtain ⟨ni,WS⟩:=aH s.1;obtain ⟨ni2,Nq⟩:=aH s2.1;have XJ:Hid (∀ w',Bw wc w'->(w'.cell? ⟨sb,4,none⟩=some (.S (some ⟨gs,os,none⟩) m cs)/\w'.cell? ⟨gs,os+J1*3,none⟩=some (.U ni)/\w'.cell? ⟨gs,os+J2*3,none⟩=some (.U ni2))):=fun w' hv=>by obtain ⟨-,-,-,MF,hr,-⟩:=aa HC w' hv;obtain ⟨b',o',-,-,e1,c1,-⟩:=uJ.at3 hr.rd hs;obtain ⟨b2',o2',-,-,e2,c2,-⟩:=uJ.at3 hr.rd DC;simp only [Option.some.injEq,Addr.mk.injEq,and_true] at e1 e2;obtain ⟨rfl,rfl⟩:=e1;obtain ⟨rfl,rfl⟩:=e2;exact ⟨MF.cells.2.2.2.2.1,by rw [c1,WS],by rw [c2,Nq]⟩
 have HID:=ae (ag WS Nq);clear WS Nq;go_wp2_with fail;obtain ⟨v1,aX⟩:=ax wc.drew;have bA:Hid (Bw wc v1):=by rw [aX];exact aJ.drew
 refine bO (fun w'=>w'.cell? ⟨sb,4,none⟩=some (.S (some ⟨gs,os,none⟩) m cs)/\w'.cell? ⟨gs,os+J1*3,none⟩=some (.U ni)/\w'.cell? ⟨gs,os+J2*3,none⟩=some (.U ni2)) (by rw [<-aX];exact aa XJ v1 (aa bA)) fun hS=>?_;rw [<-aX] at hS ⊢;clear aX;refine gC 0 1 2 4 hS ?_;refine fe 5 6 hS ?_;refine bH 3 fun KK hK=>?_;refine lD (As q d n2 1 (by omega) more J9 v1 (hM.below (aa HC v1 bA).2.2.2.2.2.2) uW Y1 EY.2.1 rY1) ?_;rintro r v2 ⟨rfl,oI⟩;refine ⟨_,rfl,?_⟩;have Bv2:=ae (ah bA oI);refine cg hK (aa XJ v2 Bv2) fun hS=>?_;clear hK KK oI bA;refine gC 7 8 9 10 hS ?_;refine tn 11 hS ?_;refine bu ?_;clear hS;go_wp2_with fail;obtain ⟨v3,aX⟩:=ax v2.drew;have bA:Hid (Bw wc v3):=by rw [aX];exact Bv2.drew
 refine bO (fun w'=>w'.cell? ⟨sb,4,none⟩=some (.S (some ⟨gs,os,none⟩) m cs)/\w'.cell? ⟨gs,os+J1*3,none⟩=some (.U ni)/\w'.cell? ⟨gs,os+J2*3,none⟩=some (.U ni2)) (by rw [<-aX];exact aa XJ v3 (aa bA)) fun hS=>?_;rw [<-aX] at hS ⊢;clear aX;refine gC 0 1 2 4 hS ?_;refine fe 5 6 hS ?_;refine bH 3 fun KK hK=>?_;refine lD (As q d n2 2 (by omega) more J9 v3 (hM.below (aa HC v3 bA).2.2.2.2.2.2) uW Y2 EY.2.2 rY2) ?_;rintro r v4 ⟨rfl,oI⟩;refine ⟨_,rfl,?_⟩;have GF:=ae (ah bA oI);refine cg hK (aa XJ v4 GF) fun hS=>?_;clear hK KK oI bA;refine gC 7 8 9 10 hS ?_;refine tn 11 hS ?_;refine bu ?_;clear hS;obtain ⟨k0,k1,k2,k3,k4,k5,k6,k7⟩:_/\_/\_/\_/\_/\_/\_/\_:=⟨(aa HC v4 GF).1.1 0 _ rfl,(aa HC v4 GF).1.1 1 _ rfl,(aa HC v4 GF).1.1 2 _ rfl,(aa HC v4 GF).1.1 3 _ rfl,(aa HC v4 GF).1.1 4 _ rfl,(aa HC v4 GF).1.1 5 _ rfl,(aa HC v4 GF).1.1 6 _ rfl,(aa HC v4 GF).1.1 7 _ rfl⟩
 go_upto_if 86 with fail
 go_cut [9] (fun v wd=>∃ bi:Int,v=.U bi/\wd=v4/\Hid (bi∈iD D.ss/\(nd.mode=1->nd.holders.headD 0=bi)))
 case first =>(
 have LR:=HV.n2 nd (aF (aa aV));by_cases Hm:nd.mode=1;{
 have e9:(nd.mode==1)=true:=by simp [Hm]
 have Cd:=kF LR.lk Hm;obtain ⟨a,ha⟩:=List.length_eq_one_iff.1 Cd;have ham:=LR.h2 a (by rw [ha];simp);obtain ⟨p',c',e',hd⟩:=(aa HC v4 GF).2.1.r4;rw [aa Uc] at e' Cd;simp only [Value.slice.injEq] at e';obtain ⟨rfl,-,rfl⟩:=e';rcases hd with hd | ⟨bh,oh,rfl,Bo⟩;{rw [ha] at hd;simp at hd};have c9:=Bo 0 (by rw [ha];simp);rw [ha] at c9;simp only [List.getD_cons_zero,Nat.add_zero] at c9;have HA:=ae (ag ha ham);have bR3:=ja 0 nh;clear Bo LR ha ham Hm Cd;go_wp2;go_meet
 case rel=>exact ⟨a,rfl,rfl,ae ⟨HA.2,fun _=>by rw [HA.1];rfl⟩⟩}
 {
 have e9:(nd.mode==1)=false:=by simp [Hm]
 have HM9:=ae Hm;clear Hm;go_wp2;go_meet
 case rel=>exact ⟨ni2,rfl,rfl,ae ⟨by rw [<-HID.2];exact List.mem_map.2 ⟨s2,aF (aa DC),rfl⟩,fun h=>absurd h (aa HM9)⟩⟩})
 case rest=>
 obtain ⟨bi,rfl,hwd,HBI⟩:=hcut;rw [hwd];clear hwd k0 k1 k2 k3 k4 k5 k6 k7;obtain ⟨X,hX,bX,zX,-,-⟩:=aj v4 #[] 5;have k0:=(aa HC X (ah GF bX)).1.1 0 _ rfl;have OX:=ae (Own.zero v4);have RX9:=ae (ag (aa HC X (ah (aa GF) bX)).2.1.r0 (aa HC X (ah (aa GF) bX)).2.1.k0);rw [hX] at k0;have BX4:=ae bX;clear bX;go_wp2_with (at_builtin;rw [<-hX];refine ru rfl _ _ rfl v4.heap.size (.S (some ⟨v4.heap.size,0,none⟩) 0 0) [] nd.path nd.path (ae (by simp)) pP cP np Ai rfl rfl (by rw [hX];exact aa OX) RX9.1 (by rw [aa Ai];simp;omega) (by omega) ?_);intro pa ca w5 Me qh;rw [<-hX] at qh;have b45:Bw v4 w5:=BX4.grown qh (by omega) (fun k hk=>by simp [Value.ownBlock] at hk;omega);simp only [aa Ai];rw [aa Ai] at Me;have H5:=ae (fun (v:World) (hv:Bw w5 v)=>ag (Own.below Me hv) (aa HC v (ah (ah (aa GF) b45) hv)));have O7:np<=ca/\ca<=maxLen:=⟨Me.cap,Me.BJ⟩;clear Me qh b45 hX k0 OX RX9 BX4;have rni:Hid (0<=ni/\ni<18446744073709551616):=Kr (HV.ZO (List.mem_map.2 ⟨s,aF (aa hs),HID.1⟩:ni∈iD D.ss))
 have rbi:Hid (0<=bi/\bi<18446744073709551616):=Kr (HV.ZO HBI.1);clear eJ0 eJ1 Xd hJ0 hJ1 TK Zw rY1 rY2 EY en9 em9 Ep xu XJ sv ab9 hm2 J3 hM Yj HC HW B4 Bv2 GF;have hni:=HID.1;obtain ⟨W6,MJ,b6,z6,C6,-⟩:=aj w5 #[.I 12,.U ni,.S none 0 0,.I 0,.S none 0 0,.U 0,.U 0] 29;have H6:=ae (fun (v:World) (hv:Bw W6 v)=>ag (C6.below (by omega) hv) (aa H5 v (ah b6 hv)));obtain ⟨i0,i1,i2,i3,i4,i5,i6⟩:_/\_/\_/\_/\_/\_/\_:=⟨C6.1 0 _ rfl,C6.1 1 _ rfl,C6.1 2 _ rfl,C6.1 3 _ rfl,C6.1 4 _ rfl,C6.1 5 _ rfl,C6.1 6 _ rfl⟩;obtain ⟨q0,q1,q2,q3,q4,q5,qf⟩:=(aa H6 W6 aJ).2.2.2.2.2.1.cells;rw [MJ] at i0 i1 i2 i3 i4 i5 i6 q0 q1 q2 q3 q4 q5;have Hf:W6.heap.size=w5.heap.size+1:=z6;have YQ:w.heap.size<=W6.heap.size:=(aa H6 W6 aJ).2.2.2.2.2.2.2.2.size;clear b6 z6 C6;go_wp2_with fail;rw [<-MJ];clear MJ i0 i1 i2 i3 i4 i5 i6 q0 q1 q2 q3 q4 q5 qf;obtain ⟨-,-,-,-,-,-,r1,r2,-⟩:=aa H6 W6 aJ;obtain ⟨D0,e12⟩:∃ D0,Hid (aM D 12 ni 0 0 0 [] []=(D0,(⟨0,0,0,0,0,[],[],s.2.2⟩:RP))):=⟨_,by show _=_;rw [<-hni];exact xQ HV hs⟩
 refine (Kz (aa HV) (some ⟨gs,os,none⟩) m cs (some ⟨gn,on,none⟩) n ds em en 12 ni 0 0 0 none 0 0 none 0 0 [] [] (ae rfl) (ae rfl) W6 r1.rd r2 (Rd.nil _) (Rd.nil _) (by omega) (by omega) aA (Nat.zero_le _) (fun z hz=>by simp at hz) _ e12).mono ?_;clear r1 r2 e12;rintro r w7 ⟨p7,c7,q7,d7,Dv,Nv,Ev,Qs,rfl,-,-,tD,tN,tE,-,b7⟩;obtain ⟨kD,cD,rfl⟩:=tD.ah8;obtain ⟨kN,cN,rfl,-⟩:=RT.form tN;obtain ⟨kE,cE,rfl,-⟩:=RT.form tE;dsimp only at tD tN tE ⊢;obtain ⟨lq,Jj⟩:=aL s.2.2.length;rw [aa Jj] at tE ⊢;obtain ⟨W8,hW8,b8,z8,-⟩:=ft w7 (.U D0.e) (.U D0.g) (.U D0.x) (.I D0.t) (.S p7 D0.ss.length c7) (.S q7 D0.ns.length d7);obtain ⟨W9,hW9,b9,z9,C9⟩:=gw W8 (.I 0) (.U 0) (.U 0) (.U 0) (.I 0) (.S kD 0 cD) (.S kN 0 cN) (.S kE lq cE);rw [z8] at C9;have b79:=ah b8 b9;have H9:=ae (fun (v:World) (hv:Bw W9 v)=>ag (C9.below hv) (ag (mu.fr tE (al (ah b79 hv))) (aa H6 v (ah b7 (ah b79 hv)))));have hkE:=ae (RT.lt (aa H9 W9 aJ).2.1);have z79:W6.heap.size<=w7.heap.size/\W9.heap.size=w7.heap.size+1+1:=⟨b7.size,by omega⟩;clear tD tN tE b7 b8 b9 b79 z8 z9 C9;go_wp2_with fail;rw [<-hW8,<-hW9];clear hW8 hW9 W8;refine (aa hA p c W9 (hR.below (aa H9 W9 aJ).2.2.2.2.2.2.2.2.2.2) hc).mono ?_;rintro r Kp ⟨pt,ct,qt,dt,pp',cp',pq',cv',rfl,Ut,-,-,b10⟩;obtain ⟨AG,N10⟩:=Ut Kp (Fr.refl _ _);clear Ut;rw [aa em] at AG;rw [aa en] at N10;rw [aa em,aa en];obtain ⟨W11,Wq,b11,z11,C11⟩:=oR Kp D pt m ct qt n dt;obtain ⟨W12,Wp,b12,z12,-,-⟩:=aj W11 #[.I O.K,.U O.S,.S pp' O.P.length cp',.I O.F,.S pq' O.V.length cv',.U O.E,.U O.G] 29;have Ib:=ah b11 b12;obtain ⟨tb,etb⟩:=aH Kp.heap.size;have HQ:=ae (fun (v:World) (hv:Nb tb W12 v)=>aa H9 v (ah b10 (Below.trans Ib (hv.lo etb))));have t11:=C11.below b12;rw [etb] at t11;have HT:=ae (ag t11 (ag (AG.below Ib) (N10.below Ib)));have ztb:tb<W12.heap.size/\W9.heap.size<=tb:=⟨by omega,by have:=b10.size;omega⟩;clear AG N10 b10 b11 b12 Ib z11 z12 C11 t11;obtain ⟨D1,D2,D3,D4,D5,E1,E2,E3,E4,E5⟩:=Ip HV aV hs HBI.1 HBI.2;rw [hni] at E1 E4 E5;have Rq:Hid (bM nd.path):=(HV.n2 nd (aF (aa aV))).pb;have Hp:Hid (VD D1):=by have h:=HV.apply (K:=11) (S:=ni) (F:=0) (E:=0) (G:=0) (P:=nd.path) (V:=[]) (aa Rq) (fun z hz=>by simp at hz);rw [E1] at h;exact h
 have Yn:Hid (VD D2):=by have h:=Hp.apply (K:=7) (S:=bi) (F:=0) (E:=0) (G:=0) (P:=nd.path) (V:=[119]) (aa Rq) (fun z hz=>by simp at hz;omega);rw [E2] at h;exact h
 have Pe:Hid (VD D3):=by have h:=Yn.apply (K:=7) (S:=bi) (F:=0) (E:=0) (G:=0) (P:=nd.path) (V:=[119]) (aa Rq) (fun z hz=>by simp at hz;omega);rw [E3] at h;exact h
 have hV4:Hid (VD D4):=by have h:=Pe.apply (K:=12) (S:=ni) (F:=0) (E:=0) (G:=0) (P:=[]) (V:=[]) (fun z hz=>by simp at hz) (fun z hz=>by simp at hz);rw [E4] at h;exact h
 have HE1:Hid (aM D 11 ni 0 0 0 nd.path []=(D1,(⟨0,0,0,0,0,[],[],[]⟩:RP))):=E1;have HE2:Hid (aM D1 7 bi 0 0 0 nd.path [119]=(D2,(⟨0,0,0,0,0,[],[],[]⟩:RP))):=E2;have HE3:Hid (aM D2 7 bi 0 0 0 nd.path [119]=(D3,(⟨0,0,0,0,0,[],[],[]⟩:RP))):=E3;have HE4:Hid (aM D3 12 ni 0 0 0 [] []=(D4,(⟨0,0,0,0,0,[],[],dM s.2.2 (1,nd.path)⟩:RP))):=E4;have HE5:Hid (aM D4 12 ni 0 0 0 [] []=(D5,(⟨0,0,0,0,0,[],[],[]⟩:RP))):=E5;clear E1 E2 E3 E4 E5 hni;obtain ⟨q0,q1,q2,q3,q4,q5,qf⟩:=HT.1.cells;rw [Wp,Wq] at q0 q1 q2 q3 q4 q5;go_wp2_with fail;rw [<-Wq,<-Wp];clear Wq Wp W11 q0 q1 q2 q3 q4 q5 qf;have zQ:W6.heap.size<=W9.heap.size:=by omega
 obtain ⟨-,-,-,Ma,-,-,-,-,-,-,Dy⟩:=aa HQ W12 (Nb.refl _ _);have qM:=hG.below Dy;refine (tF HV pt m ct qt n dt em en 11 ni 0 0 0 pa np ca none 0 0 nd.path [] Ai (ae rfl) W12 HT.2.1 HT.2.2 Ma.rd (Rd.nil _) (by omega) O7.1 O7.2 qM.1 qM.2.1 qM.2.2 Rq rni _ HE1).mono ?_;clear Ma Dy qM;rintro r w13 ⟨⟨p4,c4,q4,d4,v5,B5,w6,rfl,Ad,L4,Hf,-,vk⟩,b4⟩;obtain ⟨j1,e1,j2,e2,j3,e3,A1,A2,A3,rfl,-⟩:=L4;dsimp only at vk ⊢;obtain ⟨m1,DW⟩:=aL D1.ss.length;obtain ⟨n1,xC⟩:=aL D1.ns.length;rw [aa DW,aa xC] at vk ⊢;obtain ⟨X1,Y1,F8,qQ,tX,rX,tY,rY,nb,hk,bj⟩:=Ax b4 HT.1 (.U D1.e) (.U D1.g) (.U D1.x) (.I D1.t) (.S p4 m1 c4) (.S q4 n1 d4) (.I 0) (.U 0) (.U 0) (.U 0) (.I 0) (.S j1 0 e1) (.S j2 0 e2) (.S j3 0 e3);have sz:=b4.size;have Ux:=ae (ag tY (vk.aU (w':=Y1) fun b h1 h2=>hk b h2 (by omega)));have HQ1:=ae (fun (v:World) (hv:Nb tb Y1 v)=>ag (rY.aS (hv.2.2 _ bj (by omega))) (aa HQ v (Nb.trans nb hv)));have zt1:tb<Y1.heap.size:=by omega
 obtain ⟨q0,q1,q2,q3,um,q5,qf⟩:=tX.cells;obtain ⟨r0,r1,r2,r3,r4,r5,r6,r7,rf⟩:=rX.cells;rw [F8] at q0 q1 q2 q3 um q5 qf r0 r1 r2 r3 r4 r5 r6 r7 rf;have bL:¬ tb=w13.heap.size:=by omega
 have FE:¬ w13.heap.size=tb:=by omega
 clear tX rX tY rY nb hk bj vk b4 Ad Hf HT HQ sz;unfold fg bg at qQ
 go_upto_region 16 with fail
 rw [<-F8,<-qQ];clear F8 qQ X1 q0 q1 q2 q3 um q5 qf r0 r1 r2 r3 r4 r5 r6 r7 rf bL FE;obtain ⟨U1,Yp,bU1,zU1,oU⟩:=Xg Y1;have hcv:=Lib.run_convert_bytes_const (P:=prog) Y1 22 5 #[.int .u8 119] 1 1 underlying22 underlying5;simp only [show (#[Value.int .u8 119]:Array Value).size=1 from rfl] at hcv;obtain ⟨U2,Yo,bU2,zU2,CU,-⟩:=aj U1 #[.I 7,.U bi,.S pa np ca,.I 0,.S (some ⟨Y1.heap.size,0,none⟩) 1 1,.U 0,.U 0] 29;rw [zU1] at CU;have bU:=ah bU1 bU2;have tU:=oU.fr (al bU2);have Ot:=ae (ag (Ux.1.below bU) (gr.below Ux.2 bU));have ty2:=Ot.1.2;have zt2:tb<U2.heap.size/\U2.heap.size=Y1.heap.size+1+1:=by omega
 have Kf:=ae (fun (v:World) (hv:Nb tb U2 v)=>ag (CU.aS (hv.2.2 _ (by omega) (by omega))) (ag (tU.fr (hv.fr ty2)) (aa HQ1 v (Nb.trans (Nb.of (by omega) bU) hv))));obtain ⟨q0,q1,q2,q3,um,q5,qf⟩:=Ot.1.cells;obtain ⟨o0,o1,o2,o3,o4,o5,o6⟩:_/\_/\_/\_/\_/\_/\_:=⟨CU.1 0 _ rfl,CU.1 1 _ rfl,CU.1 2 _ rfl,CU.1 3 _ rfl,CU.1 4 _ rfl,CU.1 5 _ rfl,CU.1 6 _ rfl⟩;rw [Yo,Yp] at q0 q1 q2 q3 um q5 o0 o1 o2 o3 o4 o5 o6;clear oU bU1 bU2 zU1 zU2 CU bU tU ty2 Ux HQ1;go_wp2_with fail;rw [<-Yp,<-Yo];clear hcv Yp Yo U1 q0 q1 q2 q3 um q5 qf o0 o1 o2 o3 o4 o5 o6;obtain ⟨-,tv,-,-,-,-,Ma,-,-,-,-,-,-,Dy⟩:=aa Kf U2 (Nb.refl _ _);have qM:=hG.below Dy;obtain ⟨sr,sn⟩:=gr.IC Ot.2;refine (tF Hp p4 m1 c4 q4 n1 d4 DW xC 7 bi 0 0 0 pa np ca (some ⟨Y1.heap.size,0,none⟩) 1 1 nd.path [119] Ai (ae rfl) U2 sr sn Ma.rd tv.1 (by omega) O7.1 O7.2 qM.1 qM.2.1 qM.2.2 Rq rbi _ HE2).mono ?_;clear Dy qM sr sn Ma tv;rintro r w14 ⟨⟨p5,c5,q5',d5,v5,B5,w6,rfl,Ad,L4,Hf,-,vk⟩,b4⟩;obtain ⟨j1,e1,j2,e2,j3,e3,A1,A2,A3,rfl,-⟩:=L4;dsimp only at vk ⊢;obtain ⟨m2,em2⟩:=aL D2.ss.length;obtain ⟨n2',ai8⟩:=aL D2.ns.length;rw [aa em2,aa ai8] at vk ⊢;obtain ⟨X1,Y2,F8,qQ,tX,rX,tY,rY,nb,hk,bj⟩:=Ax b4 Ot.1 (.U D2.e) (.U D2.g) (.U D2.x) (.I D2.t) (.S p5 m2 c5) (.S q5' n2' d5) (.I 0) (.U 0) (.U 0) (.U 0) (.I 0) (.S j1 0 e1) (.S j2 0 e2) (.S j3 0 e3);have sz:=b4.size;have XH:=ae (ag tY (gr.aU (w':=Y2) vk fun b h1 h2=>hk b h2 (by omega)));have HQ3:=ae (fun (v:World) (hv:Nb tb Y2 v)=>ag (rY.aS (hv.2.2 _ bj (by omega))) (aa Kf v (Nb.trans nb hv)));have zt3:tb<Y2.heap.size:=by omega
 obtain ⟨q0,q1,q2,q3,um,q5,qf⟩:=tX.cells;obtain ⟨r0,r1,r2,r3,r4,r5,r6,r7,rf⟩:=rX.cells;rw [F8] at q0 q1 q2 q3 um q5 qf r0 r1 r2 r3 r4 r5 r6 r7 rf;have bL:¬ tb=w14.heap.size:=by omega
 have FE:¬ w14.heap.size=tb:=by omega
 clear tX rX tY rY nb hk bj vk b4 Ad Hf sz;unfold fg bg at qQ
 go_upto_region 18 with fail
 rw [<-F8,<-qQ];clear F8 qQ X1 q0 q1 q2 q3 um q5 qf r0 r1 r2 r3 r4 r5 r6 r7 rf bL FE Ot Kf;obtain ⟨q0,q1,q2,q3,um,q5,qf⟩:=XH.1.cells;have CO:=(aa HQ3 Y2 (Nb.refl _ _)).2.1;obtain ⟨o0,o1,o2,o3,o4,o5,o6⟩:_/\_/\_/\_/\_/\_/\_:=⟨CO.1 0 _ rfl,CO.1 1 _ rfl,CO.1 2 _ rfl,CO.1 3 _ rfl,CO.1 4 _ rfl,CO.1 5 _ rfl,CO.1 6 _ rfl⟩;clear CO;go_wp2_with fail;clear q0 q1 q2 q3 um q5 qf o0 o1 o2 o3 o4 o5 o6;obtain ⟨-,-,tv,-,-,-,-,Ma,-,-,-,-,-,-,Dy⟩:=aa HQ3 Y2 (Nb.refl _ _);have qM:=hG.below Dy;obtain ⟨sr,sn⟩:=gr.IC XH.2;refine (tF Yn p5 m2 c5 q5' n2' d5 em2 ai8 7 bi 0 0 0 pa np ca (some ⟨Y1.heap.size,0,none⟩) 1 1 nd.path [119] Ai (ae rfl) Y2 sr sn Ma.rd tv.1 (by omega) O7.1 O7.2 qM.1 qM.2.1 qM.2.2 Rq rbi _ HE3).mono ?_;clear Dy qM sr sn Ma tv;rintro r w15 ⟨⟨p6,c6,q6,d6,v5,B5,w6,rfl,Ad,L4,Hf,-,vk⟩,b4⟩;obtain ⟨j1,e1,j2,e2,j3,e3,A1,A2,A3,rfl,-⟩:=L4;dsimp only at vk ⊢;obtain ⟨m3,WU⟩:=aL D3.ss.length;obtain ⟨n3,R8⟩:=aL D3.ns.length;rw [aa WU,aa R8] at vk ⊢;obtain ⟨X1,Y3,F8,qQ,tX,rX,tY,rY,nb,hk,bj⟩:=Ax b4 XH.1 (.U D3.e) (.U D3.g) (.U D3.x) (.I D3.t) (.S p6 m3 c6) (.S q6 n3 d6) (.I 0) (.U 0) (.U 0) (.U 0) (.I 0) (.S j1 0 e1) (.S j2 0 e2) (.S j3 0 e3);have sz:=b4.size;have HT4:=ae (ag tY (gr.aU (w':=Y3) vk fun b h1 h2=>hk b h2 (by omega)));have HQ4:=ae (fun (v:World) (hv:Nb tb Y3 v)=>ag (rY.aS (hv.2.2 _ bj (by omega))) (aa HQ3 v (Nb.trans nb hv)));have zt4:tb<Y3.heap.size:=by omega
 obtain ⟨q0,q1,q2,q3,um,q5,qf⟩:=tX.cells;obtain ⟨r0,r1,r2,r3,r4,r5,r6,r7,rf⟩:=rX.cells;rw [F8] at q0 q1 q2 q3 um q5 qf r0 r1 r2 r3 r4 r5 r6 r7 rf;have bL:¬ tb=w15.heap.size:=by omega
 have FE:¬ w15.heap.size=tb:=by omega
 clear tX rX tY rY nb hk bj vk b4 Ad Hf sz;unfold fg bg at qQ
 go_upto_region 19 with fail
 rw [<-F8,<-qQ];clear F8 qQ X1 q0 q1 q2 q3 um q5 qf r0 r1 r2 r3 r4 r5 r6 r7 rf bL FE XH HQ3;obtain ⟨q0,q1,q2,q3,um,q5,qf⟩:=HT4.1.cells;have CO:=(aa HQ4 Y3 (Nb.refl _ _)).2.2.2.2.2.2.2.1;obtain ⟨o0,o1,o2,o3,o4,o5,o6⟩:_/\_/\_/\_/\_/\_/\_:=⟨CO.1 0 _ rfl,CO.1 1 _ rfl,CO.1 2 _ rfl,CO.1 3 _ rfl,CO.1 4 _ rfl,CO.1 5 _ rfl,CO.1 6 _ rfl⟩;clear CO;go_wp2_with fail;clear q0 q1 q2 q3 um q5 qf o0 o1 o2 o3 o4 o5 o6;obtain ⟨lp,elp⟩:=aL (dM s.2.2 (1,nd.path)).length;obtain ⟨-,-,-,-,-,-,-,-,-,-,-,-,-,-,-,Dy⟩:=aa HQ4 Y3 (Nb.refl _ _);have qM:=hG.below Dy;obtain ⟨sr,sn⟩:=gr.IC HT4.2;refine (tF (aa Pe) p6 m3 c6 q6 n3 d6 WU R8 12 ni 0 0 0 none 0 0 (none) 0 0 [] [] (ae rfl) (ae rfl) Y3 sr sn (Rd.nil _) (Rd.nil _) (by omega) aA (Nat.zero_le _) qM.1 qM.2.1 qM.2.2 (fun z hz=>by simp at hz) (aa rni) _ HE4).mono ?_;clear Dy qM sr sn;rintro r XZ ⟨⟨p7',Um,q7',d7',v5,B9,w6,rfl,Ad,L4,Hf,hk6,vk⟩,b4⟩;have hB9:tb<B9:=by omega
 obtain ⟨j1,e1,j2,e2,j3,e3,A1,A2,A3,ev5,l1,l2,l3,l4⟩:=L4;have L5:An B9 w6 v5 _:=⟨j1,e1,j2,e2,j3,e3,A1,A2,A3,ev5,l1,l2,l3,l4⟩;clear l1 l2 l3 l4;dsimp only at vk ev5 ⊢;rw [aa elp] at ev5;rw [ev5] at L5 ⊢;clear ev5 v5;obtain ⟨m4,em4⟩:=aL D4.ss.length;obtain ⟨n4,en4⟩:=aL D4.ns.length;rw [aa em4,aa en4] at vk ⊢;obtain ⟨X1,Y4,F8,qQ,tX,rX,tY,rY,nb,hk,bj⟩:=Ax b4 HT4.1 (.U D4.e) (.U D4.g) (.U D4.x) (.I D4.t) (.S p7' m4 Um) (.S q7' n4 d7') (.I 0) (.U 0) (.U 0) (.U 0) (.I 0) (.S j1 0 e1) (.S j2 0 e2) (.S j3 lp e3);have sz:=b4.size;have HT5:=ae (ag tY (gr.aU (w':=Y4) vk fun b h1 h2=>hk b h2 (by omega)));have LY:=(L5.aU hk6 Hf).aU (w':=Y4) (fun b h1 h2=>hk b h2 (by omega)) (by omega);clear L5 hk6;have Ke:=ae (fun (v:World) (hv:Nb tb Y4 v)=>ag (rY.aS (hv.2.2 _ bj (by omega))) (ag (LY.aU (fun b h1 h2=>hv.2.2 b h2 (by omega)) hv.2.1) (aa HQ4 v (Nb.trans nb hv))));have zt5:tb<Y4.heap.size:=by omega
 obtain ⟨q0,q1,q2,q3,um,q5,qf⟩:=tX.cells;obtain ⟨r0,r1,r2,r3,r4,r5,r6,r7,rf⟩:=rX.cells;rw [F8] at q0 q1 q2 q3 um q5 qf r0 r1 r2 r3 r4 r5 r6 r7 rf;have aB1:Hid (tb<XZ.heap.size/\XZ.heap.size<Y4.heap.size):=⟨by omega,by omega⟩;have bL:¬ tb=XZ.heap.size:=by omega
 have FE:¬ XZ.heap.size=tb:=by omega
 clear tX rX tY rY nb hk bj vk b4 Ad Hf sz;unfold fg bg at qQ
 go_upto_region 20 with fail
 rw [<-F8,<-qQ];clear F8 qQ X1 q0 q1 q2 q3 um q5 qf r0 r1 r2 r3 r4 r5 r6 r7 rf bL FE HT4 HQ4;obtain ⟨q0,q1,q2,q3,um,q5,qf⟩:=HT5.1.cells;have CO:=(aa Ke Y4 (Nb.refl _ _)).2.2.2.2.2.2.2.2.2.1;obtain ⟨o0,o1,o2,o3,o4,o5,o6⟩:_/\_/\_/\_/\_/\_/\_:=⟨CO.1 0 _ rfl,CO.1 1 _ rfl,CO.1 2 _ rfl,CO.1 3 _ rfl,CO.1 4 _ rfl,CO.1 5 _ rfl,CO.1 6 _ rfl⟩;clear CO;go_wp2_with fail;clear q0 q1 q2 q3 um q5 qf o0 o1 o2 o3 o4 o5 o6;obtain ⟨-,-,-,-,-,-,-,-,-,-,-,-,-,-,-,-,-,Dy⟩:=aa Ke Y4 (Nb.refl _ _);have qM:=hG.below Dy;obtain ⟨sr,sn⟩:=gr.IC HT5.2;refine (tF (aa hV4) p7' m4 Um q7' n4 d7' em4 en4 12 ni 0 0 0 none 0 0 (none) 0 0 [] [] (ae rfl) (ae rfl) Y4 sr sn (Rd.nil _) (Rd.nil _) (by omega) aA (Nat.zero_le _) qM.1 qM.2.1 qM.2.2 (fun z hz=>by simp at hz) (aa rni) _ HE5).mono ?_;clear Dy qM sr sn;rintro r w17 ⟨⟨p8,c8,q8,d8,v5,B5,w6,rfl,Ad,L4,Hf,-,vk⟩,b4⟩;obtain ⟨k1,f1,k2,f2,k3,f3,A1,A2,A3,rfl,-⟩:=L4;dsimp only;obtain ⟨W18,Wo,b18,z18,-⟩:=ft w17 (.U D5.e) (.U D5.g) (.U D5.x) (.I D5.t) (.S p8 D5.ss.length c8) (.S q8 D5.ns.length d8);obtain ⟨Ci,Wn,b19,z19,C19⟩:=gw W18 (.I 0) (.U 0) (.U 0) (.U 0) (.I 0) (.S k1 0 f1) (.S k2 0 f2) (.S k3 0 f3);rw [z18] at C19;have al1:=ah b4 (ah b18 b19);have bI0:=b4.size;have YJ:=ae (fun (v:World) (hv:Nb tb Ci v)=>ag (C19.aS (hv.2.2 _ (by omega) (by omega))) (aa Ke v (Nb.trans (Nb.of (by omega) al1) hv)));have zt6:tb<Ci.heap.size/\Ci.heap.size=w17.heap.size+1+1:=by omega
 obtain ⟨xq,xp,-,xc,xb,-,-,xa,xo,-⟩:=aa YJ Ci (Nb.refl _ _);obtain ⟨a0,-⟩:=xa.cells;obtain ⟨b0,-⟩:=xb.cells;obtain ⟨c0,-⟩:=xc.cells;obtain ⟨s0,-⟩:=xp.cells;obtain ⟨t0,-⟩:=xq.cells;obtain ⟨-,-,-,-,-,-,-,u0,-⟩:=xo.cells;rw [Wn,Wo] at a0 b0 c0 s0 t0 u0;clear xq xp xc xb xa xo vk b4 Ad Hf b18 b19 z18 z19 C19 al1 HT5 Ke
 go_upto_if 172 with fail
 rw [<-Wo,<-Wn];clear Wo Wn W18 a0 b0 c0 s0 t0 u0;obtain ⟨LQ,YC⟩:=aL (dM s.2.2 (1,nd.path));have zlq:lq<=1000:=by have:=(HV.s2 s (aF (aa hs))).q.1;rw [aa Jj] at this;omega
 have zlp:lp<=1001:=by have:=K4 s.2.2 (1,nd.path);rw [aa elp,aa Jj] at this;omega
 have hLb:Hid (∀ e∈LQ,e.2.length<=1048576):=fun e he=>by rw [<-aa YC] at he;rcases KY he with h | rfl | rfl;{exact ((HV.nO s (aF (aa hs))).2 e h).2};{show nd.path.length<=1048576;rw [aa Ai];exact hnp};{exact Nat.zero_le _}
 have FF:Hid (∀ v:World,(∀ b,tb<b->b<Ci.heap.size->v.heap[b]?=Ci.heap[b]?)->Ci.heap.size<=v.heap.size->vO v (.S j3 lp e3) LQ/\v.cell? ⟨XZ.heap.size,7,none⟩=some (.S j3 lp e3)/\v.cell? ⟨w17.heap.size+1,7,none⟩=some (.S k3 0 f3)):=fun v hk hz=>by obtain ⟨xq,xp,xl,-⟩:=aa YJ Ci (Nb.refl _ _);have zb:=aa aB1;have l1:=(xl.aU (fun b h1 h2=>hk b (by omega) h2) hz).ev;have l2:=(xp.aS (hk _ (by omega) (by omega))).cells;have l3:=(xq.aS (hk _ (by omega) (by omega))).cells;rw [<-aa YC];exact ⟨l1,l2.2.2.2.2.2.2.2.1,l3.2.2.2.2.2.2.2.1⟩
 have elL:Hid (LQ.length=lp):=by show _=_;rw [<-aa YC];exact aa elp
 obtain ⟨-,-,-,-,-,-,-,-,-,sq,-,Ma,-,-,-,-,-,-,Dy⟩:=aa YJ Ci (Nb.refl _ _);have SP:=ae (ag sq (ag Ma Dy));have zW:=ae (ag ztb zt6);clear sq Ma Dy YJ ztb zt6
 go_cut [23] (fun v wc=>Hid (∃ (pw:Option Addr) (cw:Nat),v=.S pw lp cw/\vO wc (.S pw lp cw) LQ/\vO wc (.S j3 lp e3) LQ/\wc.cell? ⟨XZ.heap.size,7,none⟩=some (.S j3 lp e3)/\wc.cell? ⟨w17.heap.size+1,7,none⟩=some (.S k3 0 f3)/\Bw w wc))
 case first =>(
 by_cases h7:lq<7;{
 have WE:(lq:Int)<7:=by omega
 have eP:Hid (LQ=s.2.2++[(1,nd.path)]/\lp=lq+1):=by
  have e:LQ=s.2.2++[(1,nd.path)]:=by rw [<-aa YC];unfold dM;rw [if_pos (by rw [aa Jj];exact h7)]
  exact ⟨e,by rw [<-aa elL,e,List.length_append,aa Jj];rfl⟩
 clear h7;obtain ⟨X,hX,bX,zX,CX,-⟩:=aj Ci #[.I 1,.S pa np ca] 49;have Ij:=ae (ag (mu.fr SP.1 (al bX)) (ag (SP.2.1.tb.fr (al bX)) (ag (CX.1 0 _ rfl) (CX.1 1 _ rfl))));have ON:=ae (ag bX zX);have zq:W6.heap.size<=X.heap.size:=by have:=(aa zW);omega
 clear bX CX;go_wp2_with (at_builtin;rw [<-hX];refine lZ rfl _ _ rfl W6.heap.size (.S kE lq cE) s.2.2 (1,nd.path) lq Jj rfl Ij.1 Ci.heap.size pa np ca rfl Ij.2.1 Ij.2.2.1 Ij.2.2.2 (by omega) zq ?_);intro p9 c9 w9 ya fh
 (try rw [<-hX] at fh)
 have bk9:∀ b,tb<b->b<Ci.heap.size->w9.heap[b]?=Ci.heap[b]?:=fun b h1 h2=>(fh.block b (by have:=ON.2;omega) (fun e=>by have:=(aa hkE b e.symm).2;have:=zW.1.2;omega)).trans (ON.1.block b h2);have f9:=aa FF w9 bk9 (by have:=fh.size;have:=ON.2;omega);have b9:Bw w w9:=(ah SP.2.2 ON.1).grown fh (by have:=(ah SP.2.2 ON.1).size;omega) (fun k hk=>by have:=(aa hkE k hk).1;have:=YQ;omega);have r9:=mu.rde ya;rw [<-eP.1] at r9;have xU:=ae (ag r9 (ag f9 b9));clear ya fh bk9 f9 b9 r9;go_wp2;go_meet
 case rel=>exact ae ⟨p9,c9,by rw [eP.2],by have h:=xU.1;rw [eP.2];exact h,xU.2.1.1,xU.2.1.2.1,xU.2.1.2.2,xU.2.2⟩}
 {
 by_cases h8:lq=7;{
 have WE:¬ (lq:Int)<7:=by omega
 have RF:((lq:Int)==7)=true:=by simp [h8]
 have eP:Hid (LQ=s.2.2++[(4,[])]/\lp=lq+1):=by
  have e:LQ=s.2.2++[(4,[])]:=by rw [<-aa YC];unfold dM;rw [if_neg (by rw [aa Jj];exact h7),if_pos (by rw [aa Jj];exact h8)]
  exact ⟨e,by rw [<-aa elL,e,List.length_append,aa Jj];rfl⟩
 clear h7 h8;obtain ⟨X,hX,bX,zX,CX,-⟩:=aj Ci #[.I 4,.S none 0 0] 49;have Ij:=ae (ag (mu.fr SP.1 (al bX)) (ag (TB.nil X) (ag (CX.1 0 _ rfl) (CX.1 1 _ rfl))));have ON:=ae (ag bX zX);have zq:W6.heap.size<=X.heap.size:=by have:=(aa zW);omega
 clear bX CX;go_wp2_with (at_builtin;rw [<-hX];refine lZ rfl _ _ rfl W6.heap.size (.S kE lq cE) s.2.2 (4,[]) lq Jj rfl Ij.1 Ci.heap.size none 0 0 rfl Ij.2.1 Ij.2.2.1 Ij.2.2.2 (by omega) zq ?_);intro p9 c9 w9 ya fh
 (try rw [<-hX] at fh)
 have bk9:∀ b,tb<b->b<Ci.heap.size->w9.heap[b]?=Ci.heap[b]?:=fun b h1 h2=>(fh.block b (by have:=ON.2;omega) (fun e=>by have:=(aa hkE b e.symm).2;have:=zW.1.2;omega)).trans (ON.1.block b h2);have f9:=aa FF w9 bk9 (by have:=fh.size;have:=ON.2;omega);have b9:Bw w w9:=(ah SP.2.2 ON.1).grown fh (by have:=(ah SP.2.2 ON.1).size;omega) (fun k hk=>by have:=(aa hkE k hk).1;have:=YQ;omega);have r9:=mu.rde ya;rw [<-eP.1] at r9;have xU:=ae (ag r9 (ag f9 b9));clear ya fh bk9 f9 b9 r9;go_wp2;go_meet
 case rel=>exact ae ⟨p9,c9,by rw [eP.2],by have h:=xU.1;rw [eP.2];exact h,xU.2.1.1,xU.2.1.2.1,xU.2.1.2.2,xU.2.2⟩}
 {
 have WE:¬ (lq:Int)<7:=by omega
 have RF:((lq:Int)==7)=false:=by simp;omega
 have eP:Hid (LQ=s.2.2/\lp=lq):=by
  have e:LQ=s.2.2:=by rw [<-aa YC];unfold dM;rw [if_neg (by rw [aa Jj];exact h7),if_neg (by rw [aa Jj];exact h8)]
  exact ⟨e,by rw [<-aa elL,e,aa Jj]⟩
 have f9:=aa FF Ci (fun _ _ _=>rfl) aA;have r9:=mu.rde SP.1;rw [<-eP.1,<-eP.2] at r9;have xU:=ae (ag r9 f9);clear h7 h8 f9 r9;go_wp2;go_meet
 case rel=>exact ae ⟨kE,cE,by rw [eP.2],xU.1,xU.2.1,xU.2.2.1,xU.2.2.2,SP.2.2⟩}})
 case rest=>
 obtain ⟨pw,cw,rfl,r1,r2,c7,d7,bw⟩:=aa hcut;have YI:=ae (ag r1 (ag r2 bw));clear r1 r2 bw hcut;go_wp2_with fail;refine (Cy j3 pw e3 cw lp LQ elL wc YI.2.1 YI.1 (by omega) hLb).mono ?_;rintro r wz ⟨rfl,bz⟩;have d7':=af d7 bz;have BZ:=ae (ah YI.2.2 bz);clear bz c7 d7;go_wp2;go_ret;exact ⟨rfl,BZ⟩
namespace waRow
def gp : List (String × DataW Unit) := [("unicode/utf8.acceptRanges", Rows.laid_unicode_utf8_acceptRanges), ("loop.example/s02132/impl.forms", Rows.laid_loop_example_s02132_impl_forms), ("unicode/utf8.first", Rows.laid_unicode_utf8_first)]
theorem et : Tryz.prog.globalNamed "errors.errorType" = some 1 := by kernel_rfl
theorem rt : (Tryz.prog.cutTypes.find? (·.1 == "internal/reflectlite.rtype")).map (·.2) = some 219 := by kernel_rfl
theorem Fj:((List.range 340).filter fun t=>Tryz.prog.rowNamed t [101,114,114,111,114])=[73]:=by kernel_rfl
theorem size:Tryz.prog.types.size=340:=by kernel_rfl
theorem parts {W: World} (h : laidMetH Tryz.prog Rows.fnWatchRow.laid W) : laidMet Tryz.prog gp W ∧ handlesMet Tryz.prog [("errors.errorType", Rows.laid_errors_errorType)] W := h
theorem er (h:laidMetH Tryz.prog Rows.fnWatchRow.laid W):W.cell? ⟨1,0,none⟩=some (.iface 219 (.agg #[.pointer (some ⟨5,73,none⟩)])):=by
 obtain ⟨name,u,ty,e1,e2,e3,e4,e5⟩:=(parts h).2 _ (List.mem_singleton.2 rfl);have en:name=[101,114,114,111,114]:=(Option.some.inj e1).symm;subst en;obtain rfl:=Option.some.inj (rt.symm.trans e2);have hm:ty∈(List.range 340).filter fun t=>Tryz.prog.rowNamed t [101,114,114,111,114]:=List.mem_filter.2 ⟨List.mem_range.2 (by rw [<-size];exact e3),e4⟩;rw [Fj] at hm;obtain rfl:=List.mem_singleton.1 hm;have hh:typeHandle Tryz.prog 73=.pointer (some ⟨5,73,none⟩):=by kernel_rfl
 rw [hh] at e5;simpa using World.var?_cell et e5 0
theorem qS (h:laidMet Tryz.prog gp W) (k:Nat) (hk:k<14) (se pa sq jo:Bool) (lo hi vs:Int)
  (hd0:∀ ds:List (DataW Unit),Rows.laid_loop_example_s02132_impl_forms=.agg ds->ds[k]?=some (.agg [.lit (.bool se),.lit (.bool pa),.lit (.I lo),.lit (.I hi),.lit (.I vs),.lit (.bool sq),.lit (.bool jo)])) :
  sR W 0 (k*7) se pa lo hi vs sq jo:=by
 have h2 : laidMet Tryz.prog (("loop.example/s02132/impl.forms", Rows.laid_loop_example_s02132_impl_forms) :: [("unicode/utf8.first", Rows.laid_unicode_utf8_first)]) W := laidMet.tail h;obtain ⟨ps,⟨g,t,cs,fuel,p,q,hg,ht,hv,hd,_,_⟩,_,_⟩:=h2;obtain rfl := Option.some.inj ((show Tryz.prog.globalNamed "loop.example/s02132/impl.forms" = some 0 by kernel_rfl).symm.trans hg);obtain rfl:=Option.some.inj ((show (Tryz.prog.globals[0]?).map (·.type)=some 102 by kernel_rfl).symm.trans ht);obtain ⟨xs,m,_,ex,Bo,hl,pL⟩:=DataW.trod_array Tryz.underlying102 hd;have hE:=pL k hk;rw [qX,aK (by omega)] at hE;have e3:=hd0 _ (Prod.mk.inj ex).1;rw [List.getElem?_map,aK (by omega:k<xs.length)] at e3;simp only [Option.map_some,Option.some.injEq] at e3;have Ce:=sE hE e3;have bG:∀ j v,[Value.bool se,.bool pa,.I lo,.I hi,.I vs,.bool sq,.bool jo][j]?=some v->j<7->W.cell? ⟨0,k*7+j,none⟩=some v:=fun j v hj hj7=>by rw [World.var?_cell hg hv (k*7+j),<-hj,<-Ce,List.getElem?_take,if_pos hj7,List.getElem?_drop];simp
 exact ⟨by simpa using bG 0 _ rfl (by omega),bG 1 _ rfl (by omega),bG 2 _ rfl (by omega),bG 3 _ rfl (by omega),bG 4 _ rfl (by omega),bG 5 _ rfl (by omega),bG 6 _ rfl (by omega)⟩
theorem tab (h:laidMet Tryz.prog gp W):Xu W:=by
 intro k h1 h2;rcases kinds h1 h2 with rfl | rfl | rfl | rfl | rfl | rfl | rfl | rfl | rfl | rfl | rfl | rfl | rfl<;>exact qS h _ (by omega) _ _ _ _ _ _ _ (fun ds qO=>by
  have e:=DataW.agg.inj qO;rw [<-e]
  rfl)
noncomputable def Ef (os:Os):World:=
 let w0:=World.holding Tryz.prog os ⟨#[],#[],[]⟩
 { w0 with heap:=w0.heap.modify 1 fun
   | .cells _ t frozen=>.cells #[.iface 219 (.agg #[.pointer (some ⟨5,73,none⟩)])] t frozen
   | o=>o }
noncomputable def wW (os:Os):World:=(Ef os).layVars Tryz.prog gp
theorem tA (os:Os) (args:Array Value):laidMetH Tryz.prog Rows.fnWatchRow.laid ((wW os).forCall (fun _ _=>0) ⟨#[],args,[]⟩).memory:=by
 refine laidMetH_of_parts ?_ (by kernel_rfl);have e1:(gp.filter fun x=>(gp.map (·.1)).contains x.1)=gp:=List.filter_eq_self.2 fun x hx=>List.contains_iff_mem.2 (List.mem_map.2 ⟨x,hx,rfl⟩);have e2:(gp.filter fun x=>!(gp.map (·.1)).contains x.1)=[]:=List.filter_eq_nil_iff.2 fun x hx=>by rw [List.contains_iff_mem.2 (List.mem_map.2 ⟨x,hx,rfl⟩)];simp
 have h:laidMet Tryz.prog gp (wW os):=laidMet_layVars (w0:=Ef os) (gp.map (·.1)) [] (by rw [e1];rfl) (by rw [e1];kernel_rfl) (by rw [e1];kernel_rfl) (by rw [e2];exact LaidIn.none);exact (show laidMet Tryz.prog gp _ from h.of_heap (by simp [World.memory,World.forCall,Input.heap]))
theorem vU (p:Option Addr) (c n:Nat) (p2:Option Addr) (c2 n2:Nat) (w:World) (m0:n<=maxLen) (hl:1048576<n) :
  Calls Tryz.prog 5 #[.S p n c,.S p2 n2 c2] w fun e w'=>e=.returned (.bool true)/\Bw w w':=by
 unfold maxLen at m0;have sv:=ja 1048576 n;go_enter Tryz.func5,Tryz.ntmps5;go_wp2;go_ret;exact ⟨rfl,Below.refl _ _⟩
theorem te (p:Option Addr) (c n:Nat) (p2:Option Addr) (c2 n2:Nat) (w:World) (tJ:n<=1048576) (m0:n2<=maxLen) (hl:1048576<n2) :
  Calls Tryz.prog 5 #[.S p n c,.S p2 n2 c2] w fun e w'=>e=.returned (.bool true)/\Bw w w':=by
 unfold maxLen at m0;have sv:=ja 1048576 n2;have VS:¬ (1048576:Int)<(n:Int):=by omega
 go_enter Tryz.func5,Tryz.ntmps5;go_wp2;go_ret;exact ⟨rfl,Below.refl _ _⟩
theorem lifted (lK:∀ code:List Int,bM code->code.length<=1048576->∃ D O,BD D/\Cj O/\UG code D O) (os:Os) (started:os.Started) (H:Type) (enc:TypeId × Value->H) :
  ReturnsInHanded {} Tryz.checked os 5 .any (fun w args=>(Rows.fnWatchSpec.pre enc Tryz.prog Tryz.f5 Rows.fnWatchRow.domain false w args/\laidMetH Tryz.prog Rows.fnWatchRow.laid w)/\sizedMet enc Tryz.prog Tryz.f5 (OpenSpec.ofChange Rows.fnWatchSpec) false w args)
   (Rows.fnWatchSpec.post enc Tryz.prog Tryz.f5 false true false false):=by
 refine uB (C:=Tryz.checked) (X:=fun w _=>laidMetH Tryz.prog Rows.fnWatchRow.laid w) (fun _ _ _ hh h=>h.of_heap hh) own started (by kernel_rfl) Tryz.func5
  (ChangeSpec.witness_shaped (enc:=enc) (C:=Tryz.checked) (os:=os) (X:=fun w _=>laidMetH Tryz.prog Rows.fnWatchRow.laid w) false (wW os) #[.S none 0 0,.S none 0 0] 8 (World.layVars_os _ _ _)
   (World.shaped_of_ZipB (by kernel_rfl) (by kernel_rfl)) (by kernel_rfl) (by kernel_rfl) (by kernel_rfl)
   (tA os _)) ?_
 intro W base args ds gs before Dz hW hL Z9;have oE:∀ (j:Nat) t v,Tryz.f5.params[j]?=some t->args[j]?=some v->Value.okWide Tryz.prog W .any base t v:=Dz;have hW':=hW;obtain ⟨p,q,MW,Wt,rfl,My,aV⟩:=hW;have hA:DataW.TrodAll enc Tryz.prog W 0 (fun _=>true) true Tryz.f5.params.toList args.toList ds p:=MW;have hV : DataW.TrodVars enc Tryz.prog W (fun _ => true) ["loop.example/s02132/impl.forms"] gs q := Wt;rw [Tryz.params5] at hA oE;obtain ⟨v0,vs0,d0,ds0,p0,q0,ae5,rfl,rfl,h0,r0⟩:=trodAll_cons hA;obtain ⟨v1,vs1,d1,ds1,p1,q1,rfl,rfl,rfl,h1,r1⟩:=trodAll_cons r0;obtain ⟨rfl,rfl,rfl⟩:=trodAll_nil r1;obtain rfl:args=#[v0,v1]:=by cases args;simp_all
 obtain ⟨gg,tt,cs,fuel,dg,pg,rfl,hg,ht,aI4,hd,hq⟩:=trodVars_one hV;have k0:=h0;have lt0:∀ x∈p0,x.block<W.heap.size:=by obtain ⟨m,hm⟩:=k0;exact DataW.trod_lt m _ _ _ hm
 obtain ⟨a0,ln0,c0,rfl⟩:=okWide_slice Tryz.underlying22 (oE 0 22 v0 rfl rfl);obtain ⟨fu0,Wf⟩:=h0;obtain ⟨pb0,l0,cb0,Ns,e0,m0,Yh,RE⟩:=Rd.kU Wf;simp [Value.cells] at Ns;obtain ⟨rfl,rfl,rfl⟩:=Ns;have k1:=h1;have lt1:∀ x∈p1,x.block<W.heap.size:=by obtain ⟨m,hm⟩:=k1;exact DataW.trod_lt m _ _ _ hm
 obtain ⟨a1,ln1,c1,rfl⟩:=okWide_slice Tryz.underlying22 (oE 1 22 v1 rfl rfl);obtain ⟨fu1,yF⟩:=h1;obtain ⟨pb1,l1,cb1,Nr,e1,m1,kH,vG⟩:=Rd.kU yF;simp [Value.cells] at Nr;obtain ⟨rfl,rfl,rfl⟩:=Nr;clear MW Dz;have walk:Calls Tryz.prog 5 #[.S a0 l0.length c0,.S a1 l1.length c1] W fun e w'=>e=.returned (.bool true)/\Bw W w':=by by_cases hl:l0.length<=1048576;{by_cases Cd:l1.length<=1048576;{exact ZI (ae lK) l0 l1 a0 c0 a1 c1 l1.length (ae rfl) W (ae e0) (ae e1) (ae RE) (ae vG) Yh hl Cd (ae ⟨uo Z9,tab (parts hL).1,er hL⟩)};{exact te a0 c0 l0.length a1 c1 l1.length W hl m1 (by omega)}};{exact vU a0 c0 l0.length a1 c1 l1.length W m0 (by omega)}
 refine walk.mono fun r W' ⟨he,Pn⟩=>?_;subst he;exact ⟨_,rfl,_,_,_,[],_,_,hW',trodAll_mk1 (shut_bool Tryz.underlying4 _),(trodAll_cons_mk (Below.trod laidOut (by kernel_rfl) (of_decide_eq_true (by kernel_rfl)) k0 Pn lt0) (trodAll_cons_mk (Below.trod laidOut (by kernel_rfl) (of_decide_eq_true (by kernel_rfl)) k1 Pn lt1) trodAll_mk0)),(Below.trodVars laidOut Pn (by kernel_rfl) hV),Pn.frame _,fun h=>by cases h⟩
theorem over (lK:∀ code:List Int,bM code->code.length<=1048576->∃ D O,BD D/\Cj O/\UG code D O):Rows.fnWatchRow.holds Tryz.pinned (OpenSpec.ofChange Rows.fnWatchSpec):=
 OpenClaim.holds_of_wide 5 Tryz.f5 rfl rfl rfl rfl rfl rfl rfl ⟨rfl,rfl,rfl,rfl,rfl⟩ rfl rfl rfl rfl rfl (by kernel_rfl) Tryz.func5 (by kernel_rfl)
  (of_decide_eq_true (by kernel_rfl)) (by unfold Func.isWrapper;first | (rw [if_pos (by decide +kernel)];kernel_rfl) | (rw [if_neg (by decide +kernel)];exact ⟨rfl,rfl⟩))
  (fun os started H enc _=>lifted lK os started H enc)
end waRow
end Go.Proofs.YtcfcafeciggjeaaGreatDoor
