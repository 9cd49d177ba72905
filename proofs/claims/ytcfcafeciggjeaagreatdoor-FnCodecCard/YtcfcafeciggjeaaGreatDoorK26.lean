import Derived.Test.YtcfcafeciggjeaaGreatDoorAS7
namespace Go.Proofs.YtcfcafeciggjeaaGreatDoor
set_option maxHeartbeats 1600000
set_option linter.all false
set_option maxRecDepth 100000
open Go.ChangeShapes Go.WideShapes Go.ChangeAt Go.RowKit Go.Proofs.Tryz
variable {B b:Nat} {Qs vs:List Value} {a:Act} {o0 o1 o2 o3 o4 o5 r0 r1 r2 r3 r4 r5 r6 r7:Value} {ss:List aY}
abbrev gP (k i e g n:Int) (D N E:Value):Value:=.agg #[.I k,.U i,.U e,.U g,.I n,D,N,E]
abbrev ao:Value:=.S none 0 0
def RX (w:World) (b:Nat) (vs:List Value):Prop:=aq w b vs/\∃ cur,w.heap[b]?=some (.cells cur 41)
theorem RX.fr {T:List TypeId} {w w':World} (h:RX w b vs) (hf:Fr T w w') (ht:41∉T:=by decide):RX w' b vs:=by
 obtain ⟨h1,cur,h2⟩:=h;have h3:=hf.2 _ _ _ _ ht h2;exact ⟨h1.aS (h3.trans h2.symm),cur,h3⟩
theorem RX.below {w w':World} (h:RX w b vs) (hb:Bw w w'):RX w' b vs:=h.fr (al hb) (by simp)
def fg (w:World) (b:Nat) (v0 v1 v2 v3 v4 v5 v6 v7:Value):World:=((bg w b v0 v1 v2 v3 v4 v5).setCell ⟨b,6,none⟩ v6).setCell ⟨b,7,none⟩ v7
theorem aO (w:World) (b:Nat) (v0 v1 v2 v3 v4 v5 v6 v7:Value):Below b w (fg w b v0 v1 v2 v3 v4 v5 v6 v7):=((bt w b v0 v1 v2 v3 v4 v5).setCell (p:=⟨b,6,none⟩) aA _).setCell (p:=⟨b,7,none⟩) aA _
theorem RX.put {w:World} {o6 o7:Value} (h:RX w b [o0,o1,o2,o3,o4,o5,o6,o7]) (v0 v1 v2 v3 v4 v5 v6 v7:Value):RX (fg w b v0 v1 v2 v3 v4 v5 v6 v7) b [v0,v1,v2,v3,v4,v5,v6,v7]/\Fr [41] w (fg w b v0 v1 v2 v3 v4 v5 v6 v7):=by
 obtain ⟨hc,cur,ht⟩:=h;have t6:=rM ⟨cur,ht⟩ (v0:=v0) (v1:=v1) (v2:=v2) (v3:=v3) (v4:=v4) (v5:=v5);have a6:=bf (j:=6) (u:=v6) t6;have a7:=bf (j:=7) (u:=v7) a6.1;exact ⟨⟨(((((((hc.dI 0 aU v0).dI 1 aU v1).dI 2 aU v2).dI 3 aU v3).dI 4 aU v4).dI 5 aU v5).dI 6 aU v6).dI 7 aU v7,a7.1⟩,((dT ht).trans a6.2).trans a7.2⟩
theorem RX.cells {w:World} {v0 v1 v2 v3 v4 v5 v6 v7:Value} (h:RX w b [v0,v1,v2,v3,v4,v5,v6,v7]):w.cell? ⟨b,0,none⟩=some v0/\w.cell? ⟨b,1,none⟩=some v1/\w.cell? ⟨b,2,none⟩=some v2/\w.cell? ⟨b,3,none⟩=some v3/\w.cell? ⟨b,4,none⟩=some v4/\w.cell? ⟨b,5,none⟩=some v5/\w.cell? ⟨b,6,none⟩=some v6/\w.cell? ⟨b,7,none⟩=some v7/\∀ o,w.frozen? ⟨b,o,none⟩=false:=
 ⟨h.1.1 0 _ rfl,h.1.1 1 _ rfl,h.1.1 2 _ rfl,h.1.1 3 _ rfl,h.1.1 4 _ rfl,h.1.1 5 _ rfl,h.1.1 6 _ rfl,h.1.1 7 _ rfl,h.1.2⟩
theorem xl (w:World) (v0 v1 v2 v3 v4 v5 v6 v7:Value):∃ W,W=w.alloc (.cells #[v0,v1,v2,v3,v4,v5,v6,v7] 41)/\Bw w W/\W.heap.size=w.heap.size+1/\RX W w.heap.size [v0,v1,v2,v3,v4,v5,v6,v7]:=by
 obtain ⟨W,h1,h2,h3,h4,h5⟩:=aj w #[v0,v1,v2,v3,v4,v5,v6,v7] 41;exact ⟨W,h1,h2,h3,h4,_,h5⟩
theorem wX (k:Int) (w:World):Calls prog 39 #[.I k] w fun r w'=>r=.returned (gP k 0 0 0 0 ao ao ao)/\Bw w w':=by
 go_enter func39,ntmps39;go_wp2;exact bodyPost_ret (v:=gP k 0 0 0 0 ao ao ao) (by simp [results,results39,go_sem]) rfl ⟨rfl,aJ.alloc aA _⟩
abbrev KU (t1 t2 t3 d1 d2:Nat) (ps:String) (k:Int):Array Oper:=#[{ dst:=some d1,op:=Op.load 27 (Operand.tmp t1),type:=27,pos:=ps,after:=#[],guard:=none },
 { dst:=some d2,op:=Op.call { callee:=Callee.value (Operand.func 39),args:=#[Operand.const (Value.int IntKind.i64 k)],argTypes:=#[3] },type:=41,pos:=ps,after:=#[],guard:=none },
 { dst:=none,op:=Op.store 27 (Operand.tmp t2) (Operand.tmp d1),type:=0,pos:=ps,after:=#[{ on:=0,ground:=Ground.data },{ on:=1,ground:=Ground.chain },{ on:=0,ground:=Ground.phase },{ on:=1,ground:=Ground.textOnly Departure.lateStoresUnsure }],guard:=none },
 { dst:=none,op:=Op.store 41 (Operand.tmp t3) (Operand.tmp d2),type:=0,pos:=ps,after:=#[{ on:=1,ground:=Ground.data },{ on:=2,ground:=Ground.chain },{ on:=0,ground:=Ground.phase },{ on:=1,ground:=Ground.phase },{ on:=2,ground:=Ground.phase }],guard:=none }]
theorem dL (i t1 t2 t3 d1 d2:Nat) (ps:String) (k:Int) {Q:Exit->Act->World->Prop} {w:World} (b0 b1 b2:Nat) (e g x t:Int) (p:Option Addr) (n c:Nat) (q:Option Addr) (m d:Nat) 
  (hf:Region.free .any (KU t1 t2 t3 d1 d2 ps k) (Array.replicate 4 false) 0=true) (e1:a.tmps[t1]?.getD undef=.pointer (some ⟨b0,0,none⟩)) (e2:∀ v u,((a.put (some d1) v).put (some d2) u).tmps[t2]?.getD undef=.pointer (some ⟨b1,0,none⟩)) (e3:∀ v u,((a.put (some d1) v).put (some d2) u).tmps[d1]?.getD undef=v) (e4:∀ v u,((a.put (some d1) v).put (some d2) u).tmps[t3]?.getD undef=.pointer (some ⟨b2,0,none⟩)) (e5:∀ v u,((a.put (some d1) v).put (some d2) u).tmps[d2]?.getD undef=u)
  (h0:BX w b0 [.U e,.U g,.U x,.I t,.S p n c,.S q m d]) (h1:BX w b1 [o0,o1,o2,o3,o4,o5]) (h2:RX w b2 [r0,r1,r2,r3,r4,r5,r6,r7]) (gd:b0≠b1) (B:Nat) (vG:B<=b1) (jL:B<=b2)
  (h:∀ w',BX w' b1 [.U e,.U g,.U x,.I t,.S p n c,.S q m d]->RX w' b2 [.I k,.U 0,.U 0,.U 0,.I 0,ao,ao,ao]->Fr [27,41] w w'->Below B w w'->Q .normal ((a.put (some d1) (cY e g x t (.S p n c) (.S q m d))).put (some d2) (gP k 0 0 0 0 ao ao ao)) w') :
  Code.wp prog (Code.region i (KU t1 t2 t3 d1 d2 ps k) true) Q a w:=by
 unfold KU at hf ⊢;refine wp_region_noPanic ?_;have cI:Bw w w.drew:=aJ.drew;have H0:=ae (ag (h0.below cI) (ag (h1.below cI) (h2.below cI)));refine wp_region_held_drew (S:=fun w'=>BX w' b0 [.U e,.U g,.U x,.I t,.S p n c,.S q m d]) cW H0.1 (fun hS=>?_);obtain ⟨vA,aX⟩:=ax w.drew;rw [<-aX] at hS H0 cI ⊢;clear aX;refine wpAnyH_take (i:=0) (oi:=_) (v:=cY e g x t (.S p n c) (.S q m d)) (by simp only [List.getElem?_toArray,List.getElem?_cons_zero];rfl) cW hf cW (fun _ _ _ h=>h) (Or.inl ⟨rfl,?_⟩) hS ?_;{intro w' hw;obtain ⟨k0,k1,k2,k3,k4,k5,kf⟩:=hw.cells;go_simp};refine bH 1 fun KK hK=>?_;refine ia (wX k vA) ?_;rintro r v1 ⟨rfl,bq⟩;refine ⟨_,rfl,?_⟩;refine hK.out _ _ (hS.below bq) (fun hS=>?_);clear hK KK;have H1:=ae (ag (H0.2.1.below bq) (H0.2.2.below bq));have B1:=ae (ah cI bq);clear H0 cI bq;obtain ⟨a2,x8⟩:=ax ((a.put (some d1) (cY e g x t (.S p n c) (.S q m d))).put (some d2) (gP k 0 0 0 0 ao ao ao));refine bH 2 fun KK hK=>?_;have e2':=e2 (cY e g x t (.S p n c) (.S q m d)) (gP k 0 0 0 0 ao ao ao);have e3':=e3 (cY e g x t (.S p n c) (.S q m d)) (gP k 0 0 0 0 ao ao ao);have e4':=e4 (cY e g x t (.S p n c) (.S q m d)) (gP k 0 0 0 0 ao ao ao);have e5':=e5 (cY e g x t (.S p n c) (.S q m d)) (gP k 0 0 0 0 ao ao ao);have H2:=h;rw [<-x8] at e2' e3' e4' e5' ⊢;rw [show (a.put (some d1) (cY e g x t (.S p n c) (.S q m d))).put (some d2) (gP k 0 0 0 0 ao ao ao)=a2 from x8.symm] at H2;clear e1 e2 e3 e4 e5 h x8;obtain ⟨k0,k1,k2,k3,k4,k5,kf⟩:=H1.1.cells;go_simp;obtain ⟨X,hX⟩:=ax (bg v1 b1 (.U e) (.U g) (.U x) (.I t) (.S p n c) (.S q m d));have bX:Below b1 v1 X:=by rw [hX];exact bt _ _ _ _ _ _ _ _
 have qw:BX X b1 [.U e,.U g,.U x,.I t,.S p n c,.S q m d]:=by rw [hX];exact H1.1.put _ _ _ _ _ _
 have BX0:BX X b0 [.U e,.U g,.U x,.I t,.S p n c,.S q m d]:=by rw [hX];exact hS.rj gd _ _ _ _ _ _
 have fX:Fr [27] v1 X:=by obtain ⟨-,cur,ht⟩:=H1.1;rw [hX];exact dT ht
 have Ih:=H1.2.fr fX;unfold bg at hX;rw [<-hX];refine hK.out _ _ BX0 (fun hS=>?_);clear hK KK hX BX0 k0 k1 k2 k3 k4 k5 kf;refine bH 3 fun KK hK=>?_;obtain ⟨k0,k1,k2,k3,k4,k5,k6,k7,kf⟩:=Ih.cells;go_simp;obtain ⟨Ka,fY⟩:=Ih.put (.I k) (.U 0) (.U 0) (.U 0) (.I 0) ao ao ao;have bY:=aO X b2 (.I k) (.U 0) (.U 0) (.U 0) (.I 0) ao ao ao;obtain ⟨Y,hY⟩:=ax (fg X b2 (.I k) (.U 0) (.U 0) (.U 0) (.I 0) ao ao ao);rw [<-hY] at Ka fY bY;unfold fg bg at hY;rw [<-hY];refine hK.out _ _ (hS.fr fY) (fun hS=>?_);clear hK KK hY;refine bu ?_;exact H2 Y (qw.fr fY) Ka ((Fr.below (aa B1)).trans ((fX.sub aU).trans (fY.sub aU))) ((B1.mono (by have:=h1.lt;omega)).trans ((bX.mono vG).trans (bY.mono jL)))
structure RP where
 k:Int
 i:Int
 e:Int
 g:Int
 n:Int
 vK:List Int
 nms:List (List Int)
 qm:List Ev
def Jv:RP:=⟨0,0,0,0,0,[],[],[]⟩
def sV (k:Int):RP:=⟨k,0,0,0,0,[],[],[]⟩
def ik (D:SD):SD × RP:=if 50<=D.ss.length then (D,sV 11) else if 4611686018427387904<=D.x then (D,sV 12) else ({ D with x:=D.x+1,ss:=D.ss++[(D.x+1,D.t+10,[])] },{ Jv with i:=D.x+1,n:=D.t+10 })
def aj0 (w:World) (l:List Int) (c:List Value):Prop:=∃ P,c=[P]/\TB w P l
abbrev TN (B:Nat) (w:World) (v:Value) (l:List (List Int)):Prop:=RT aj0 22 1 B w v l
def QR (B:Nat) (w w':World) (r:Ending) (D:SD) (R:RP):Prop:=∃ p c q d Dv Nv Ev Qs,r=.returned (.tuple #[cY D.e D.g D.x D.t (.S p D.ss.length c) (.S q D.ns.length d),gP R.k R.i R.e R.g R.n Dv Nv Ev])/\SpS B w' (.S p D.ss.length c) D.ss Qs/\SpN B w' (.S q D.ns.length d) D.ns/\TB w' Dv R.vK/\TN B w' Nv R.nms/\mu B w' Ev R.qm/\Fr [49,35,38] w w'/\Below B w w'
theorem Fr.low {T:List TypeId} {w w1 w':World} (h:Fr T w w1) (hb:Below w.heap.size w1 w'):Fr T w w':=⟨Nat.le_trans h.1 hb.size,fun b cur ty m ht hc=>(hb.block b (gN hc)).trans (h.2 b cur ty m ht hc)⟩
theorem QR.num {w w1 w':World} {e g x t:Int} {p q:Option Addr} {n c m d:Nat} {ns:List aD} (en:Hid (ss.length=n)) (em:Hid (ns.length=m)) (hS:SpS B w1 (.S p n c) ss Qs) (hN:SpN B w1 (.S q m d) ns) (hF:Fr [49,35,38] w w1) (hB:Below B w w1) (f:Fr [27,41] w1 w') (b:Below w.heap.size w1 w') (hle:B<=w.heap.size) (k i a h s:Int) :
  QR B w w' (.returned (.tuple #[cY e g x t (.S p n c) (.S q m d),gP k i a h s ao ao ao])) ⟨e,g,x,t,ss,ns⟩ ⟨k,i,a,h,s,[],[],[]⟩:=by
 refine ⟨p,c,q,d,ao,ao,ao,Qs,by simp only [aa en,aa em],?_,?_,TB.nil _,RT.nil _ _ _ _ _,RT.nil _ _ _ _ _,hF.low b,hB.trans (b.mono hle)⟩;{simp only [aa en];exact hS.fr f};{simp only [aa em];exact bS.fr hN f}
theorem SpS.KI {w w':World} {v v':Value} (h:SpS B w v ss Qs) (hf:Fr [35] w w') (I J:Int) (hr:RT r8 35 3 B w' v' (ss.zip Qs++[((I,J,[]),ao)])):SpS B w' v' (ss++[(I,J,[])]) (Qs++[ao]):=by
 have hl:=h.len;refine ⟨by simp [hl],by rw [List.zip_append hl.symm];exact hr,fun i s Q hs hq=>?_,fun i j Q Q' b jc hq qg hb=>?_⟩;{
 by_cases hi:i<ss.length;{rw [List.getElem?_append_left hi] at hs;rw [List.getElem?_append_left ab] at hq;exact (h.za i s Q hs hq).fr hf};{
 have ei:i=ss.length:=by have:=(aN.1 hs).1;simp at this;omega
 subst ei;rw [List.getElem?_append_right aA,Nat.sub_self] at hs;rw [List.getElem?_append_right ab,hl,Nat.sub_self] at hq;simp at hs hq;subst hs hq;exact RT.nil _ _ _ _ _}};{
 by_cases hi:i<Qs.length;{
 rw [List.getElem?_append_left hi] at hq;by_cases hj:j<Qs.length;{rw [List.getElem?_append_left hj] at qg;exact h.rj i j Q Q' b jc hq qg hb};{
 rw [List.getElem?_append_right ab] at qg;have e:j-Qs.length=0:=by have:=(aN.1 qg).1;simp at this;omega
 rw [e] at qg;simp at qg;subst qg;simp [Value.ownBlock]}};{
 rw [List.getElem?_append_right ab] at hq;have e:i-Qs.length=0:=by have:=(aN.1 hq).1;simp at this;omega
 rw [e] at hq;simp at hq;subst hq;simp [Value.ownBlock] at hb}}
theorem xT {md:Region.Mode} {ops:Array Oper} {Q:Exit->Act->World->Prop} {S:World->Prop} {listed:Array Bool} {w:World} (i5 i6 t2 t3 d1 d2:Nat) {ps Qm:String} {A5 A6:Array Edge} (iV:Region.ready md ops listed=[i5]) (mG:Region.ready md ops (listed.setIfInBounds i5 true)=[i6]) (EH:Region.ready md ops ((listed.setIfInBounds i5 true).setIfInBounds i6 true)=[])
  (Me:ops[i5]?=some { dst:=none,op:=Op.store 27 (Operand.tmp t2) (Operand.tmp d1),type:=0,pos:=ps,after:=A5,guard:=none }) (ho6:ops[i6]?=some { dst:=none,op:=Op.store 41 (Operand.tmp t3) (Operand.tmp d2),type:=0,pos:=Qm,after:=A6,guard:=none })
  (b1 b2:Nat) (e g x t:Int) (p:Option Addr) (n c:Nat) (q:Option Addr) (m d:Nat) (k i h s z:Int) (dp:Option Addr) (dn dc:Nat) (np:Option Addr) (nn nc:Nat) (vp:Option Addr) (vn vc:Nat) 
  (e2:a.tmps[t2]?.getD undef=.pointer (some ⟨b1,0,none⟩)) (e3:a.tmps[d1]?.getD undef=cY e g x t (.S p n c) (.S q m d)) (e4:a.tmps[t3]?.getD undef=.pointer (some ⟨b2,0,none⟩)) (e5:a.tmps[d2]?.getD undef=gP k i h s z (.S dp dn dc) (.S np nn nc) (.S vp vn vc))
  (h1:BX w b1 [o0,o1,o2,o3,o4,o5]) (h2:RX w b2 [r0,r1,r2,r3,r4,r5,r6,r7]) (WI:b1<b2) (ri:∀ w',Below b1 w w'->Fr [27,41] w w'->S w')
  (hQ:∀ w',BX w' b1 [.U e,.U g,.U x,.I t,.S p n c,.S q m d]->RX w' b2 [.I k,.U i,.U h,.U s,.I z,.S dp dn dc,.S np nn nc,.S vp vn vc]->Fr [27,41] w w'->Below b1 w w'->Q .normal a w'):wpAnyH prog md ops Q S 2 listed a w:=by
 refine wpAnyH_ready iV aU ?_;refine AllReadyH.cons Me (fun KK hK=>?_) AllReadyH.nil;obtain ⟨k0,k1,k2,k3,k4,k5,kf⟩:=h1.cells;go_simp;obtain ⟨X,hX⟩:=ax (bg w b1 (.U e) (.U g) (.U x) (.I t) (.S p n c) (.S q m d));have bX:Below b1 w X:=by rw [hX];exact bt _ _ _ _ _ _ _ _
 have qw:=h1.put (.U e) (.U g) (.U x) (.I t) (.S p n c) (.S q m d);have fX:Fr [27] w X:=by obtain ⟨-,cur,ht⟩:=h1;rw [hX];exact dT ht
 rw [<-hX] at qw;have Ih:=h2.fr fX;unfold bg at hX;rw [<-hX];refine hK.out _ _ (ri X bX (fX.sub aU)) (fun hS=>?_);clear hK KK hX k0 k1 k2 k3 k4 k5 kf;refine wpAnyH_ready mG aU ?_;refine AllReadyH.cons ho6 (fun KK hK=>?_) AllReadyH.nil;obtain ⟨k0,k1,k2,k3,k4,k5,k6,k7,kf⟩:=Ih.cells;go_simp;obtain ⟨Ka,fY⟩:=Ih.put (.I k) (.U i) (.U h) (.U s) (.I z) (.S dp dn dc) (.S np nn nc) (.S vp vn vc);have bY:=aO X b2 (.I k) (.U i) (.U h) (.U s) (.I z) (.S dp dn dc) (.S np nn nc) (.S vp vn vc);obtain ⟨Y,hY⟩:=ax (fg X b2 (.I k) (.U i) (.U h) (.U s) (.I z) (.S dp dn dc) (.S np nn nc) (.S vp vn vc));rw [<-hY] at Ka fY bY;unfold fg bg at hY;rw [<-hY];have bY':=bX.trans (bY.mono (Nat.le_of_lt WI));refine hK.out _ _ (ri Y bY' ((fX.sub aU).trans (fY.sub aU))) (fun hS=>?_);clear hK KK hY;refine wpAnyH_done EH ?_ _;exact hQ Y (qw.fr fY) Ka ((fX.sub aU).trans (fY.sub aU)) bY'
def jH (nd:aD) (id:Int):Bool:=decide (nd.mode=0)||(decide (nd.holders.length=1)&&decide (nd.holders.headD 0=id))
theorem M6 (P V H U:Value) (nd:aD) (p:Option Addr) (n c:Nat) (eH:Hid (nd.holders.length=n)) (id:Int) (w:World) (tH:Hid (nH w (.S p n c) nd.holders)) (hP:P.oneCell'=true) (hV:V.oneCell'=true) (hU:U.oneCell'=true) :
  Calls prog 152 #[.agg #[P,V,.U nd.owner,.I nd.mode,.S p n c,.U nd.aB,.U nd.gen,U],.U id] w fun r w'=>r=.returned (.bool (jH nd id))/\Bw w w':=by
 go_enter func152,ntmps152;by_cases hm:nd.mode=0;{
 have hf:jH nd id=true:=by simp [jH,hm]
 rw [hf];have To:(nd.mode==0)=true:=by simp [hm]
 go_wp2;go_ret;exact ⟨rfl,aJ.alloc aA _⟩};{
 have To:(nd.mode==0)=false:=by simp [hm]
 by_cases hn:n=1;{
 obtain ⟨x,hx⟩:∃ x,nd.holders=[x]:=List.length_eq_one_iff.1 (by rw [aa eH,hn]);obtain ⟨b,o,rfl,hc⟩:=tH.at (k:=0) (x:=x) (by rw [hx];rfl);rw [Nat.add_zero] at hc;have iw:=fun ob:Obj=>af hc ((Below.refl _ w).alloc aA ob);have hf:Hid (jH nd id=decide (x=id)):=by show _=_;simp [jH,hm,hx]
 subst hn;have h1:((1:Int)==1)=true:=bl;by_cases hxi:x=id;{
 subst hxi;have h2:(x==x)=true:=aU;go_wp2;go_ret;have Bj:jH nd x=true:=by rw [aa hf];simp
 exact ⟨by rw [Bj];rfl,aJ.alloc aA _⟩};{
 have h2:(x==id)=false:=by simpa using hxi
 go_wp2;go_ret;exact ⟨by rw [aa hf,decide_eq_false hxi];rfl,aJ.alloc aA _⟩}};{
 have hf:Hid (jH nd id=false):=by show _=_;simp [jH,hm,aa eH,hn]
 have h1:((n:Int)==1)=false:=by simp;omega
 go_wp2;go_ret;exact ⟨by rw [aa hf];rfl,aJ.alloc aA _⟩}}
end Go.Proofs.YtcfcafeciggjeaaGreatDoor
