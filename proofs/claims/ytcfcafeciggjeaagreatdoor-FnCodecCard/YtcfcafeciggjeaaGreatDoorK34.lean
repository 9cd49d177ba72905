import Derived.Test.YtcfcafeciggjeaaGreatDoorK32
import Derived.Test.YtcfcafeciggjeaaGreatDoorK33
namespace Go.Proofs.YtcfcafeciggjeaaGreatDoor
set_option maxHeartbeats 40000000
set_option linter.all false
set_option maxRecDepth 100000
open Go.ChangeShapes Go.WideShapes Go.ChangeAt Go.RowKit Go.Maps
variable {A:List Lf} {B b bn bs k:Nat} {a:Act} {e f g i s t x y:Int} {l xs:List Int} {nd:aD} {ns:List aD} {o o':Option (List Int)} {ops:Array Oper} {p:Option Addr} {rest:List Oper} {ss:List aY} {ty:TypeId} {u w0:World} {v v0 v1 v2 v3 v4 v5 v6 v7:Value}
structure StD where
 e:Int
 g:Int
 x:Int
 t:Int
 ss:List aY
 ns:List aD
def al3:StD:=⟨0,0,0,0,[],[]⟩
def gr (B:Nat) (w:World) (p:Option Addr) (n c:Nat) (q:Option Addr) (m d:Nat) (ss:List aY) (ns:List aD):Prop:=
 ∃ A1 A2,ic w (.S p n c) ss/\kJ w (.S q m d) ns/\LvS w (.S p n c) ss A1/\LvN w (.S q m d) ns A2/\lx B w (A1++A2)
theorem gr.zero (B:Nat) (w:World):gr B w none 0 0 none 0 0 [] []:=
 ⟨[],[],⟨none,0,rfl,.inl rfl⟩,⟨none,0,rfl,.inl rfl⟩,⟨none,0,[],rfl,rfl,rfl,.inl rfl⟩,⟨none,0,[],rfl,rfl,rfl,.inl rfl⟩,lx.nil _ _⟩
theorem gr.keep {w w':World} {p q:Option Addr} {n c m d:Nat} (h:gr B w p n c q m d ss ns) (hk:∀ b,B<=b->b<w.heap.size->w'.heap[b]?=w.heap[b]?):gr B w' p n c q m d ss ns:=by
 obtain ⟨A1,A2,h1,h2,h3,h4,h5⟩:=h;have k:∀ a∈A1++A2,w'.heap[a.b]?=w.heap[a.b]?:=fun a ha=>hk _ (h5.lo a ha) (h5.vE.lt ha);have k1:∀ a∈A1,w'.heap[a.b]?=w.heap[a.b]?:=fun a ha=>k a (List.mem_append_left _ ha);have k2:∀ a∈A2,w'.heap[a.b]?=w.heap[a.b]?:=fun a ha=>k a (List.mem_append_right _ ha);exact ⟨A1,A2,h1.keepLv h3 k1,h2.keepLv h4 k2,LvS.keep h3 k1,LvN.keep h4 k2,h5.keep k⟩
theorem gr.below {w w':World} {p q:Option Addr} {n c m d:Nat} (h:gr B w p n c q m d ss ns) (hb:Bw w w'):gr B w' p n c q m d ss ns:=h.keep fun b _ hl=>hb.block b hl
theorem gr.mono {B':Nat} {w:World} {p q:Option Addr} {n c m d:Nat} (h:gr B w p n c q m d ss ns) (hB:B'<=B):gr B' w p n c q m d ss ns:=by
 obtain ⟨A1,A2,h1,h2,h3,h4,h5⟩:=h;exact ⟨A1,A2,h1,h2,h3,h4,h5.mono hB⟩
def NQ (B:Nat) (r:Ending) (w:World) (D:StD) (code:Int):Prop:=∃ p c q d,r=.returned (.tuple #[cY D.e D.g D.x D.t (.S p D.ss.length c) (.S q D.ns.length d),.I code])/\gr B w p D.ss.length c q D.ns.length d D.ss D.ns
theorem kc.am0 {w0 w:World} {SB NB HB UB:List Nat} (h:kc w0 w b bs bn e g x t ss ns SB NB HB UB) (t':Int):kc w0 (w.setCell ⟨b,3,none⟩ (.I t')) b bs bn e g x t' ss ns SB NB HB UB:=by
 have hk:∀ z,z≠b->(w.setCell ⟨b,3,none⟩ (.I t')).heap[z]?=w.heap[z]?:=fun z hz=>dF _ _ _ _ hz;have hc:∀ {z:Nat} {cs:Array Value} {ty:TypeId},w.heap[z]?=some (.cells cs ty)->ty≠132->z≠b:=fun {z cs ty} hz ht e=>by rw [e,h.hd] at hz;simp at hz;exact ht hz.2.symm
 have US:∀ {k:TypeId} {R:Value->Option (DataW Unit × List MemPlace)} {z n:Nat} {D:DataW Unit},w.ownsMap Tryz.prog k R z n D->z≠b:=fun {k R z n D} o e=>jv o h.hd e.symm;refine ⟨?_,⟨h.ses.len,?_,fun i s gb hs hg=>?_,h.ses.me⟩,⟨h.me.len,h.me.Fp,h.me.Fo,?_,fun i nd gb hh uu hs hg h1 h2=>?_,h.me.me,h.me.BF⟩,h.lo,h.BF⟩;{have:=h.hd;simp [World.setCell,Array.getElem?_modify,this]};{obtain ⟨D,o,m⟩:=h.ses.own;exact ⟨D,rO o (hk _ (US o)),m⟩};{obtain ⟨q0,u,q1,q2⟩:=h.ses.aI i s gb hs hg;exact ⟨q0,u,(hk _ (hc q1 bl)).trans q1,q2⟩};{obtain ⟨D,o,m⟩:=h.me.own;exact ⟨D,rO o (hk _ (US o)),m⟩};{obtain ⟨q0,q1,q2,⟨V,q3,q4⟩,⟨D1,o1,m1⟩,⟨D2,o2,m2⟩⟩:=h.me.aI i nd gb hh uu hs hg h1 h2;exact ⟨q0,q1,q2,⟨V,(hk _ (hc q3 bl)).trans q3,q4⟩,⟨D1,rO o1 (hk _ (US o1)),m1⟩,⟨D2,rO o2 (hk _ (US o2)),m2⟩⟩}
open Go.Proofs.Tryz
theorem P6 {SB NB HB UB:List Nat} (w:World) (dz:Hid (kc w0 w b bs bn e g x t ss ns SB NB HB UB)) (hw0:w0.heap.size<=w.heap.size)
  (fI:Hid (∀ nd∈ns,bM nd.path)) (qO:Hid (∀ (i j:Nat) (s s':aY),ss[i]?=some s->ss[j]?=some s'->i<j->s.1≠s'.1)) (hdn:Hid (∀ (i j:Nat) (s s':aD),ns[i]?=some s->ns[j]?=some s'->i<j->s.path≠s'.path))
  (m:Nat) (em:Hid (ns.length=m)) (n:Nat) (en:Hid (ss.length=n)) :
  Calls prog 130 #[.pointer (some ⟨b,0,none⟩)] w fun r w'=>kc w0 w' b bs bn e g x 0 (ss.map kS) (ns.map aF8) SB NB HB UB/\Below w0.heap.size w w'/\(∃ v,r=.returned v):=by
 have Rn:w.cell? ⟨b,3,none⟩=some (.I t):=ay dz.hd 3;have uZ:∀ o,w.frozen? ⟨b,o,none⟩=false:=fun o=>by simp [World.frozen?,dz.hd]
 obtain ⟨Z,hZ⟩:=ax (w.setCell ⟨b,3,none⟩ (.I 0));have ac5:Hid (kc w0 Z b bs bn e g x 0 ss ns SB NB HB UB):=by rw [hZ];exact dz.am0 0
 obtain ⟨Ds,oS,mS⟩:=ac5.ses.own;have DO:Z.cell? ⟨b,4,none⟩=some (.map (some bs)):=ay ac5.hd 4;rw [aa en] at oS;have Yk:Below w0.heap.size w Z:=by rw [hZ];exact aJ.setCell (dz.lo.1) _
 go_enter func130,ntmps130;subst hZ;go_wp2_with (first
  | (at_range;refine wpList_range_own _ rfl _ 129 rfl 23 _ gR underlying129 _ bs n _ rfl oS ?_;intro w1 pI uX Hj)
  | go_in)
 go_frame
 have bn6:=ae (ac5.same (mC.grown uX));have hr0:w.heap.size<=(w.setCell ⟨b,3,none⟩ (.I 0)).heap.size:=aU;have bq:Below w0.heap.size w w1:=bR Yk uX (by simpa using hw0) (fun j hj=>by cases hj);obtain ⟨r1,Nl⟩:=ax ((w.setCell ⟨b,3,none⟩ (.I 0)).heap.size);rw [<-Nl] at pI hr0 ⊢;have lK:Hid (∀ s∈ss,Maps.has Ds (.U s.1)=true):=fun s hs=>by obtain ⟨i,hi⟩:=List.getElem?_of_mem hs;have O0:=(aN.1 hi).1;obtain ⟨gz,Rg⟩:∃ gz,SB[i]?=some gz:=⟨_,aK (by rw [dz.ses.len];exact O0)⟩;exact (mS.hs _).2 ⟨(.U s.1,gz),by rw [List.mem_iff_getElem?];exact ⟨i,by rw [List.getElem?_zipWith,hi,Rg]⟩,rfl⟩
 have MS:=ae mS;clear mS oS Rn uZ DO ac5 Yk uX Hj Nl
 go_loopw [3] (fun _ wr=>∃ (left:Lit->Bool) (mV:Nat),wr.ranges prog 23 aZ bs r1 n Ds left mV/\Hid (kc w0 wr b bs bn e g x 0 (turnS kS left ss) ns SB NB HB UB)/\Below w0.heap.size w wr) (fun _ wr=>wr.rangeLeft bs r1)
 case atStart=>exact ⟨_,_,pI,by rw [JH (aa lK)];exact bn6,bq⟩
 case round =>(
 obtain ⟨left,mV,nM,I5,aR⟩:=hrel;go_wp2_with (first
  | (at_next;refine ir _ rfl _ rfl 23 gR (fun i:Int=>.int .u64 i) aH0 bs r1 n _ _ MS _ _ rfl nM ?_ ?_)
  | go_in)
 {
 intro _ tJ;have Lw:Hid (kc w0 wr b bs bn e g x 0 (ss.map kS) ns SB NB HB UB):=by have:=aa I5;rw [Sq tJ] at this;exact this
 obtain ⟨D,oD,mD⟩:=Lw.me.own;have Pb:wr.cell? ⟨b,5,none⟩=some (.map (some bn)):=ay Lw.hd 5;rw [aa em] at oD;have aA8:Hid (∀ s∈ns,Maps.has D (bN s.path)=true):=fun s hs=>by obtain ⟨i,hi⟩:=List.getElem?_of_mem hs;obtain ⟨gz,_,_,Rg,_,_⟩:=dz.me.at hi;exact (mD.hs _).2 ⟨(bN s.path,gz),by rw [List.mem_iff_getElem?];exact ⟨i,by rw [List.getElem?_zipWith,hi,Rg]⟩,rfl⟩
 have MD:=ae mD;obtain ⟨Y,eY⟩:=ax wr;subst eY;have hYw:=aR.size;clear mD tJ I5 nM;go_wp2_with (first
  | (at_range;refine wpList_range_own _ rfl _ 130 rfl 9 _ kM underlying130 _ bn m _ rfl oD ?_;intro w3 si uA hs3)
  | go_in)
 go_frame
 have bn5:=ae (Lw.same (mC.grown uA));have de:Below w0.heap.size w w3:=bR aR uA ab (fun j hj=>by cases hj);clear Pb uA oD Lw aR
 go_loopw [5] (fun _ wr=>∃ (left:Lit->Bool) (mV:Nat),wr.ranges prog 9 aZ bn Y.heap.size m D left mV/\Hid (kc w0 wr b bs bn e g x 0 (ss.map kS) (turnN left ns) SB NB HB UB)/\Below w0.heap.size w wr) (fun _ wr=>wr.rangeLeft bn Y.heap.size)
 case atStart=>exact ⟨_,_,si,by rw [JN (aa aA8)];exact bn5,de⟩
 case round =>(
 obtain ⟨left,mV,nM,I5,aR⟩:=hrel;go_wp2_with (first
  | (at_next;refine ir _ rfl _ rfl 9 kM (fun s:ByteArray=>.string s) Vu bn Y.heap.size m _ _ MD _ _ rfl nM ?_ ?_)
  | go_in)
 {
 intro _ tJ;have Lp:Hid (kc w0 wr b bs bn e g x 0 (ss.map kS) (ns.map aF8) SB NB HB UB):=by have:=aa I5;rw [Sr tJ] at this;exact this
 clear I5;go_wp2
 go_end0
 exact ⟨Lp,aR,⟨_,rfl⟩⟩};{
 intro i0 pl g1 w4 vh kp hp Tg uT bj fO aa0 Bk;obtain ⟨j,z,g1',hj,hgj,ee⟩:=gM hp;simp only [Prod.mk.injEq] at ee;obtain ⟨rfl,rfl⟩:=ee;have Lp:=ae (I5.same (mC.next nM fO));have gL:Below w0.heap.size w w4:=bR aR fO (by have:=aR.size;omega) (fun j hj=>by cases hj;omega);obtain ⟨gz,hh,ub,z1,z2,z3⟩:=Lp.me.at (Dq hj Tg);rw [hgj] at z1;cases z1;obtain ⟨a1,a2,a3,⟨V,a4,-⟩,-,⟨D2,a5,-⟩⟩:=Lp.me.aI j _ g1 hh ub (Dq hj Tg) hgj z2 z3;have Pa:w4.cell? ⟨g1,6,none⟩=some (.map (some ub)):=ay a4 6;obtain ⟨v,w5,cK,Me,qh,hs5⟩:=Iz underlying84 a5 0;have TF:Hid (kc w0 w5 b bs bn e g x 0 (ss.map kS) (turnN (fun z'=>left z'&&!z'.sameKey (bN z.path)) ns) SB NB HB UB):=by
  have:=Lp.ap7 (Dq hj Tg) z3 Me (fun q hq=>by by_cases qg:q<w4.heap.size;{exact qh.block q qg (by simpa using hq)};{rw [Array.getElem?_eq_none ab,Array.getElem?_eq_none ab]})
  rw [On (aa fI) (aa hdn) hj] at this;exact this
 have ew:Below w0.heap.size w w5:=bR gL qh (by have:=gL.size;omega) (fun j hj=>by cases hj;exact a3);have Wh:(Instr.entry (.pointer (some ⟨Y.heap.size,0,none⟩))).run prog w4=.ok (.tuple #[.string i0,.pointer (some ⟨g1,0,none⟩)]) w4:=Bk;have tG:w5.ranges prog 9 aZ bn Y.heap.size m D (fun z'=>left z'&&!z'.sameKey (bN z.path)) vh:=by refine CG uT ?_ ?_;{obtain ⟨D9,o9,-⟩:=Lp.me.own;refine qh.block _ o9.lt ?_;have hd:=Lp.me.BF;rw [List.nodup_cons] at hd;simp only [ne_eq,Option.some.injEq];rintro rfl;exact hd.1 (List.mem_append_right _ (aF z3))};{obtain ⟨es,clock,since,seen,c0,-,-,-,-,hi,-⟩:=uT;refine qh.block _ (aG hi) ?_;simp only [ne_eq,Option.some.injEq];rintro e;obtain ⟨RN,cl',h',-⟩:=a5;rw [<-e,hi] at h';cases h'}
 clear fO hp kp I5 Lp aR gL a1 a2 a3 a4 a5 Me qh hs5;go_wp2;go_roundw
 case rel=>exact ⟨_,_,tG,TF,ew⟩
 case measure=>rw [tG.left_eq,nM.left_eq];exact bj})}
 {
 intro i0 pl g1 w2 vh kp hp Tg uT bj fO aa0 Bk;obtain ⟨j,z,g1',hj,hgj,ee⟩:=gM hp;simp only [Prod.mk.injEq] at ee;obtain ⟨rfl,rfl⟩:=ee;have Lw:=ae (I5.same (mC.next nM fO));have cX:Below w0.heap.size w w2:=bR aR fO (by have:=aR.size;omega) (fun j hj=>by cases hj;omega);obtain ⟨a1,u,a2,a3⟩:=Lw.ses.aI j _ g1 (JL hj Tg) hgj;have kH:w2.cell? ⟨g1,1,none⟩=some (.I z.2.1):=ay a2 1;have jF:w2.cell? ⟨g1,2,none⟩=some u:=ay a2 2;have hf:∀ o,w2.frozen? ⟨g1,o,none⟩=false:=fun o=>by simp [World.frozen?,a2]
 obtain ⟨ZZ,hZZ⟩:=ax ((w2.setCell ⟨g1,1,none⟩ (.I 0)).setCell ⟨g1,2,none⟩ (.S none 0 0));have TF:Hid (kc w0 ZZ b bs bn e g x 0 (turnS kS (fun z'=>left z'&&!z'.sameKey (.U z.1)) ss) ns SB NB HB UB):=by
  have:=Lw.al9 (JL hj Tg) hgj 0 (.S none 0 0) [] (w':=ZZ) (by rw [hZZ];simp [World.setCell,Array.getElem?_modify,a2]) ⟨none,0,rfl,.inl rfl⟩ (fun q hq=>by rw [hZZ,dF _ _ _ _ hq,dF _ _ _ _ hq])
  rw [show ((z.1,0,[]):aY)=kS z from rfl,Oh (aa qO) hj] at this;exact this
 have ew:Below w0.heap.size w ZZ:=by rw [hZZ];exact (cX.setCell a1 _).setCell a1 _
 have Wh:(Instr.entry (.pointer (some ⟨r1,0,none⟩))).run prog w2=.ok (.tuple #[.U i0,.pointer (some ⟨g1,0,none⟩)]) w2:=Bk;have tG:ZZ.ranges prog 23 aZ bs r1 n Ds (fun z'=>left z'&&!z'.sameKey (.U z.1)) vh:=by rw [hZZ];exact uT.of_walks ((KeepsWalks.setCell _ _ _).trans (KeepsWalks.setCell _ _ _))
 clear fO hp kp I5 Lw aR cX a1 a2 a3;go_wp2;rw [<-hZZ];go_roundw
 case rel=>exact ⟨_,_,tG,TF,ew⟩
 case measure=>rw [tG.left_eq,nM.left_eq];exact bj})
theorem Uy.dur (h:Uy ss ns):Uy (ss.map kS) (ns.map aF8):=by
 refine ⟨?_,?_,fun s hs=>?_,fun nd aV=>?_,fun i j s s' hi hj jc=>?_,fun i j s s' hi hj jc=>?_⟩;{rw [List.pairwise_map];exact h.s1};{rw [List.map_map];exact h.n1};{obtain ⟨s0,Hj,rfl⟩:=List.mem_map.1 hs;exact ⟨(h.s2 s0 Hj).1,by simp [kS],fun e he=>by simp [kS] at he⟩};{obtain ⟨n0,RI,rfl⟩:=List.mem_map.1 aV;obtain ⟨a,b,c,d,-,f,-⟩:=h.n2 n0 RI;exact ⟨a,b,c,d,by simp [aF8],f,by simp [aF8]⟩};{rw [List.getElem?_map] at hi hj;obtain ⟨a,ha,rfl⟩:=Option.map_eq_some_iff.1 hi;obtain ⟨a',Tz,rfl⟩:=Option.map_eq_some_iff.1 hj;exact h.s3 i j a a' ha Tz jc};{rw [List.getElem?_map] at hi hj;obtain ⟨a,ha,rfl⟩:=Option.map_eq_some_iff.1 hi;obtain ⟨a',Tz,rfl⟩:=Option.map_eq_some_iff.1 hj;exact h.n3 i j a a' ha Tz jc}
theorem Nb (e g x t:Int) (p q:Option Addr) (c n d m:Nat) (ss:List aY) (ns:List aD) (en:Hid (ss.length=n)) (em:Hid (ns.length=m)) (w:World) (h:ic w (.S p n c) ss) (hN:kJ w (.S q m d) ns) (hn:n<=1048576) (hm:m<=1048576) (HF:Hid (Uy ss ns))
  (fI:Hid (∀ nd∈ns,bM nd.path/\nd.path.length<=1048576/\nd.value.length<=1048576/\nd.holders.length<=1048576/\nd.watchers.length<=1048576))
  (IY:Hid (∀ nd∈ns,(∀ i∈nd.holders,0<=i/\i<18446744073709551616)/\∀ i∈nd.watchers,0<=i/\i<18446744073709551616)) :
  Calls prog 69 #[cY e g x t (.S p n c) (.S q m d)] w fun r w'=>∃ p' c' q' d',r=.returned (cY e g x 0 (.S p' n c') (.S q' m d'))/\gr w.heap.size w' p' n c' q' m d' (ss.map kS) (ns.map aF8)/\Bw w w':=by
 have H1:Hid (∀ s∈ss,0<=s.1/\s.1<18446744073709551616):=fun s hs=>(HF.s2 s hs).1;have ad5:Hid (∀ nd∈ns,bM nd.path):=fun nd aV=>(aa fI nd aV).1;have HR:=ae fun (w':World) (hb:Bw w w')=>ag (h.below hb) (hN.below hb);clear h hN;go_enter func69,ntmps69;go_wp2_with fail;obtain ⟨W,hW⟩:=ax (w.alloc (.cells #[.U e,.U g,.U x,.I t,.S p n c,.S q m d] 27));have bW:=ju hW;obtain ⟨W2,iL⟩:=ax (W.alloc (.cells #[.U 0,.U 0,.U 0,.I 0,.S none 0 0,.S none 0 0] 27));have zW:W.heap.size=w.heap.size+1:=by rw [hW];simp
 have Uo:=ju iL;have TG:aq W2 (w.heap.size+1) [.U 0,.U 0,.U 0,.I 0,.S none 0 0,.S none 0 0]:=by rw [iL,show w.heap.size+1=W.heap.size by omega];exact aq.alloc W #[.U 0,.U 0,.U 0,.I 0,.S none 0 0,.S none 0 0] _
 have zW2:W2.heap.size=w.heap.size+2:=by rw [iL];simp;omega
 rw [<-hW,<-iL];have b2:=ah bW Uo;have R2:=ae TG;clear hW iL bW TG Uo zW;refine (BO e g x t p q c n d m ss ns en em _ (aa HR _ b2).1 (aa HR _ b2).2 hn hm H1 HF.s3 fI IY HF.n3).mono ?_;rintro r w4 ⟨b,bs,bn,SB,NB,HB,UB,rfl,dz,gL⟩;have b4:=ah b2 gL;have yB:=dz.lo;have z4:=gL.size;have lr:=ae dz;have AF:=ae gL;clear dz gL;go_wp2_with fail;refine (P6 _ lr z4 ad5 HF.s3 HF.n3 m em n en).mono ?_;rintro r w5 ⟨TF,ew,v5,rfl⟩;have z5:=ew.size;have b5:Bw w w5:=b4.trans (ew.mono ab);have ST5:Hid (Sto w5 b bs bn e g x 0 (ss.map kS) (ns.map aF8) SB NB):=al1 TF (AF.trans ew) (by rw [List.length_map,aa en];exact hn) (by rw [List.length_map,aa em];exact hm);have R4:=ae (R2.below ab (AF.trans ew));have HF5:=ae (HF.dur);have L1:=ae (show (ss.map kS).length=n by rw [List.length_map,aa en]);have L2:=ae (show (ns.map aF8).length=m by rw [List.length_map,aa em]);obtain ⟨sl,TV⟩:∃ sl,Hid (sl=ss.map kS):=⟨_,cw⟩;obtain ⟨nl,je⟩:∃ nl,Hid (nl=ns.map aF8):=⟨_,cw⟩;rw [<-aa TV,<-aa je] at ST5 HF5;rw [<-aa TV] at L1;rw [<-aa je] at L2;clear TF ew lr AF;go_wp2_with fail;refine (Iv b bs bn e g x 0 sl nl SB NB _ (aa ST5) HF5.s1 HF5.n1 (by rw [aa L1];exact hn) (by rw [aa L2];exact hm) HF5.s2 HF5.n2).mono ?_;rintro r w6 ⟨ps,cs,pn,cn,A1,A2,rfl,f1,f2,f3,f4,f5,DP⟩;have b6:=ah b5 DP;have R5:=R4.below ab DP;have r0:=R5.1 0 _ rfl;have r1:=R5.1 1 _ rfl;have r2:=R5.1 2 _ rfl;have r3:=R5.1 3 _ rfl;have r4:=R5.1 4 _ rfl;have r5:=R5.1 5 _ rfl;have rf:=R5.2;have FF:=ae (show gr w5.heap.size w6 ps sl.length cs pn nl.length cn sl nl from ⟨A1,A2,f1,f2,f3,f4,f5⟩);clear f1 f2 f3 f4 f5 DP R5;go_wp2;obtain ⟨Z,hZ⟩:=ax ((((((w6.setCell ⟨w.heap.size+1,0,none⟩ (.U e)).setCell ⟨w.heap.size+1,1,none⟩ (.U g)).setCell ⟨w.heap.size+1,2,none⟩ (.U x)).setCell ⟨w.heap.size+1,3,none⟩ (.I 0)).setCell ⟨w.heap.size+1,4,none⟩ (.S ps sl.length cs)).setCell ⟨w.heap.size+1,5,none⟩ (.S pn nl.length cn));have Xp:∀ z,z≠w.heap.size+1->Z.heap[z]?=w6.heap[z]?:=fun z hz=>by
  rw [hZ]
  iterate 6 rw [dF _ _ _ _ hz]
 refine bodyPost_ret (v:=cY e g x 0 (.S ps sl.length cs) (.S pn nl.length cn)) (by simp [results,results69,go_sem,r0,r1,r2,r3,r4,r5]) rfl ?_;rw [<-hZ];have Yk:Bw w Z:=by rw [hZ];exact (((((b6.setCell aU _).setCell aU _).setCell aU _).setCell aU _).setCell aU _).setCell aU _
 have f:=(FF.keep (w':=Z) (fun z hz _=>Xp z ab)).mono (B':=w.heap.size) ab;rw [aa L1,aa L2,aa TV,aa je] at f;exact ⟨ps,cs,pn,cn,by rw [aa L1,aa L2],f,Yk⟩
theorem Ni (g C:Nat) (vs:List Value) (ls:List (List Int)) (w:World) (h:uK w g vs ls) (hl:(cat ls).length<=4194304) (hk:ls.length<=1000) :
  Calls prog 128 #[.S (some ⟨g,0,none⟩) ls.length C] w fun e w'=>∃ p' c',e=.returned (.S p' (cat ls).length c')/\Own w.heap.size w' (.S p' (cat ls).length c') (cat ls)/\Bw w w':=by
 obtain ⟨i,hi,mw,iT,jW⟩:=info_parts Tryz.infoByte;go_enter func128,ntmps128;go_wp2
 go_loopw [3,11] (fun s i wr=>∃ k:Nat,k<=ls.length/\i=.I k/\s=.I ((cat (ls.take k)).length:Nat)/\Bw w wr) (fun _ i _=>ls.length-(intOf i).toNat)
 case atStart=>exact ⟨0,Nat.zero_le _,rfl,by simp [cat],Below.refl _ _⟩
 case round =>(
 obtain ⟨k,nw,rfl,rfl,aR⟩:=hrel;have Wd:=vI ls k;by_cases bj:k<ls.length;{
 obtain ⟨p,c,l,e1,e2,e3⟩:=(h.below aR).get k bj;have dz:=Ag ls k l e1;have Wn:(cat (ls.take k)).length+l.length=(cat (ls.take (k+1))).length:=by rw [dz];simp
 have MA:=vI ls (k+1);have hle:(cat (ls.take k)).length+l.length<=4194304:=ab;have HL:=ae Wn;clear Wn dz MA e3 e1;generalize (cat (ls.take k)).length=a at *;go_wp2;go_roundw
 case rel=>exact ⟨k+1,ab,by go_num,by rw [<-aa HL];go_num,aR⟩
 exact dC};{
 have e:k=ls.length:=ab;subst e;rw [List.take_length];rw [List.take_length] at Wd;go_wp2_with fail;refine (DR _ _ hl).mono ?_;rintro e w1 ⟨p1,c1,rfl,o1,bq⟩;replace o1:Own w.heap.size w1 (.S p1 0 c1) []:=o1.mono aR.size;have b1:=ah aR bq;clear bq aR Wd;go_wp2
 go_loopw [6,27] (fun v i wr=>∃ k:Nat,k<=ls.length/\i=.I k/\(∃ p c,v=.S p (cat (ls.take k)).length c/\Own w.heap.size wr v (cat (ls.take k)))/\Bw w wr) (fun _ i _=>ls.length-(intOf i).toNat)
 case atStart=>exact ⟨0,Nat.zero_le _,rfl,⟨p1,c1,by simp [cat],by simpa [cat] using o1⟩,b1⟩
 case round =>(
 obtain ⟨k,nw,rfl,⟨pv,cv,rfl,ho⟩,aR⟩:=hrel;have Wd:=vI ls k;by_cases bj:k<ls.length;{
 obtain ⟨p,c,l,e1,e2,e3⟩:=(h.below aR).get k bj;have dz:=Ag ls k l e1;have MA:=vI ls (k+1);have hle:(cat (ls.take k)).length+l.length<=4194304:=by have:=congrArg List.length dz;simp only [List.length_append] at this;omega
 have HS:=ae dz;clear dz MA e1 o1 b1;generalize (cat (ls.take k))=a at *;cases p with
 | none=>
  have e:=e3.oz;subst e;have HA:=ae (dX (P:=prog) wr w.heap.size 22 22 5 i 1 underlying22 hi _ _ _ c ho);go_wp2_with (at_builtin;refine Lib.wpList_append_run _ rfl _ _ _ _ rfl _ _ rfl rfl _ _ (by exact HA) ?_);go_roundw
  case rel=>exact ⟨k+1,ab,by go_num,⟨pv,cv,by rw [aa HS];simp,by rw [aa HS];simpa using ho⟩,aR⟩
  exact dC
 | some ad=>
  obtain ⟨n1,n2,n3⟩:=e3.news;clear e3;go_wp2_with (at_builtin;refine wpList_append_own _ rfl _ _ 22 rfl w.heap.size 5 i (.int .u8 0) 1 1 underlying22 hi mw iT jW rfl bl _ _ _ rfl ho ad _ c (U l) rfl n1 n2 n3 jC ab aR.size ?_);intro v' w2 br hg _;have b2:Bw w w2:=aR.grown hg aR.size (fun k hk=>(ho.lt k hk).1);have vF:Own w.heap.size w2 v' (a++l):=by unfold Own;rw [List.length_append,U,List.map_append];exact br
  obtain ⟨p',c',rfl⟩:=vF.form;clear br hg n2;go_wp2;go_roundw
  case rel=>exact ⟨k+1,ab,by go_num,⟨p',c',by rw [aa HS],by rw [aa HS];exact vF⟩,b2⟩
  exact dC};{have e:k=ls.length:=ab;subst e;rw [List.take_length] at ho;clear o1 b1 Wd;go_wp2;go_ret;exact ⟨pv,cv,by rw [List.take_length];rfl,ho,aR⟩})})
theorem tf (g C:Nat) (vs:List Value) (ls:List (List Int)) (lm:List Int) (n k:Nat) (ek:Hid (k=ls.length)) (e:Hid (lm=cat ls)) (en:Hid (lm.length=n)) (w:World) (h:uK w g vs ls) (hl:n<=4194304) (hk:k<=1000) :
  Calls prog 61 #[.S (some ⟨g,0,none⟩) k C] w fun e w'=>∃ p' c',e=.returned (.S p' n c')/\Own w.heap.size w' (.S p' n c') lm/\Bw w w':=by
 have e1:=aa ek;have e2:=aa e;have e3:=aa en;subst e1 e3 e2;go_enter func61,ntmps61;go_wp2_with fail;refine (Ni g C vs ls _ h hl ab).mono ?_;rintro e w1 ⟨p1,c1,rfl,o1,bq⟩;go_wp2;go_ret;exact ⟨p1,c1,rfl,o1,bq⟩
def xf (w:World) (x:List Int) (c:List Value) (l:List Lf):Prop:=∃ p cc,c=[.S p x.length cc]/\Rd w (.S p x.length cc) x/\JI (.S p x.length cc) x l
theorem xf.keep (w w':World) (x:List Int) (c:List Value) (l:List Lf) (h:xf w x c l) (hk:∀ a∈l,w'.heap[a.b]?=w.heap[a.b]?):xf w' x c l:=by
 obtain ⟨p,cc,h1,h2,h3⟩:=h;exact ⟨p,cc,h1,h2.keepLv h3 hk,h3⟩
abbrev rr (B:Nat) (w:World) (v:Value) (xs:List (List Int)) (Ls:List (List Lf)):Prop:=OwnT xf 22 1 B w v xs Ls
theorem rr.one {w:World} {c:Nat} (h:Own B w (.S p l.length c) l) (hB:B<=w.heap.size):∃ Ls,rr B (w.alloc (.cells #[.S p l.length c] 22)) (.S (some ⟨w.heap.size,0,none⟩) 1 1) [l] Ls:=by
 have hb:Bw w (w.alloc (.cells #[.S p l.length c] 22)):=aJ.alloc aA _;have h':=Own.below h hb;obtain ⟨A,q1,q2,-,q4⟩:=KR (kd:=.u8) h';refine ⟨[A],[[.S p l.length c]],rfl,rfl,fun c hc=>by simp at hc;subst hc;rfl,?_,fun i x cc ll hx hc hl=>?_,by simpa using q2,fun a ha=>?_⟩;{have:=World.ownsRow_lit (base:=B) (e:=22) (size:=1) w #[.S p l.length c] 1 hB bl rfl;simpa using this};{
 have:i=0:=by have:=(aN.1 hx).1;simpa using this
 subst this;simp at hx hc hl;subst hx hc hl;exact ⟨p,c,rfl,h'.rd,q1⟩};{
 have Tz:a∈A:=by simpa using ha
 have e:=q4 a Tz;have:=(h.lt a.b e).2;intro e2;simp only [Value.ownBlock,Option.some.injEq] at e2;omega}
theorem rr.parts {w:World} {n c:Nat} {xs:List (List Int)} {Ls:List (List Lf)} (h:rr B w (.S p n c) xs Ls) (hn:xs.length=n) (h0:0<n):∃ g vs,p=some ⟨g,0,none⟩/\uK w g vs xs:=by
 obtain ⟨g,rfl,-⟩:=h.ptr hn h0;obtain ⟨cs,h1,h2,h3,h4,h5,h6,h7⟩:=h;rw [hn] at h4;refine ⟨g,cs.flatten,rfl,?_,fun j v x hv hx=>?_⟩;{have:=h4.1;omega};{have hj:=(aN.1 hx).1;obtain ⟨cc,hc⟩:∃ x,cs[j]?=some x:=⟨_,aK ab⟩;obtain ⟨l,hl⟩:∃ x,Ls[j]?=some x:=⟨_,aK ab⟩;obtain ⟨p',c',rfl,r1,-⟩:=h5 j x cc l hx hc hl;have e:=flat_get h3 hc (j:=0) bl;rw [Nat.mul_one,Nat.add_zero,hv] at e;simp at e;subst e;have e2:=h4.cellAt j ab;rw [hv] at e2;exact ⟨e2,r1⟩}
def rR {α:Type} (f:α->List Int) (l:List α):List Int:=cat (vi l.length::l.map f)
def mE (i:Int):List Int:=vi i.toNat
theorem Ta (p:Option Addr) (c n:Nat) (l:List Int) (en:Hid (l.length=n)) (w:World) (h:nH w (.S p n c) l) (hn:n<=900) (hu:Hid (∀ i∈l,0<=i/\i<18446744073709551616)) (N:Nat) (eN:Hid ((rR mE l).length=N)) (hN:N<=4194304) :
  Calls prog 131 #[.S p n c,.func (.func 62) #[] #[]] w fun e w'=>∃ p' c',e=.returned (.S p' N c')/\Own w.heap.size w' (.S p' N c') (rR mE l)/\Bw w w':=by
 obtain ⟨ib,Zo,mw,iT,jW⟩:=info_parts Tryz.infoSl;have HR:=ae fun (w':World) (hb:Bw w w')=>h.below hb;clear h;have wn:IntKind.u64.wrap (n:Int)=(n:Int):=by rw [IntKind.wrap_u64];omega
 go_enter func131,ntmps131;go_wp2_with fail;refine (ku n w ab).mono ?_;rintro r w1 ⟨p1,c1,rfl,o1,b1⟩;obtain ⟨Ls0,hP⟩:=rr.one o1 b1.size;obtain ⟨v0,IV⟩:=ax (w1.alloc (.cells #[.S p1 (vi n).length c1] 22));have hb0:Bw w v0:=by rw [IV];exact b1.alloc b1.size _
 rw [<-IV] at hP;have HP:=ae hP;clear hP o1;generalize (vi n).length=M at *;go_wp2;rw [<-IV];clear IV b1
 go_loopw [5,15] (fun pv iv wr=>∃ (k:Nat) (p2:Option Addr) (c2:Nat) (Ls:List (List Lf)),k<=n/\pv=.S p2 (k+1) c2/\iv=.I k/\Hid (rr w.heap.size wr (.S p2 (k+1) c2) (vi n::(l.take k).map mE) Ls)/\Bw w wr) (fun _ iv _=>n-(intOf iv).toNat)
 case atStart=>exact ⟨0,_,_,_,Nat.zero_le _,rfl,rfl,HP,hb0⟩
 case round =>(
 obtain ⟨k,p2,c2,Ls,hk,rfl,rfl,ho,aR⟩:=hrel;by_cases bj:k<n;{
 have da:=aT k n;have fL:k<l.length:=by rw [aa en];exact bj
 obtain ⟨i,hy⟩:∃ y,l[k]?=some y:=⟨_,aK fL⟩;have hi:=aa hu i (aF hy);obtain ⟨v,rfl⟩:∃ v:Nat,i=(v:Int):=⟨i.toNat,ab⟩;obtain ⟨b,o,rfl,hc⟩:∃ b o,p=some ⟨b,o,none⟩/\wr.cell? ⟨b,o+k,none⟩=some (.U v):=by obtain ⟨p',c',ev,hd⟩:=aa HR _ aR;simp only [Value.slice.injEq] at ev;obtain ⟨rfl,-,-⟩:=ev;rcases hd with h0 | ⟨b,o,h1,h2⟩;{rw [h0] at fL;simp at fL};{refine ⟨b,o,h1,?_⟩;have:=h2 k fL;rw [List.getD_eq_getElem?_getD,hy,Option.getD_some] at this;exact this}
 have HY:=ae hy;clear fL hy;have wk:IntKind.i64.wrap ((k:Int)+1)=((k+1:Nat):Int):=by rw [IntWalk.i64_in _ ab];omega
 go_wp2_with fail;refine (ku v wr ab).mono ?_;rintro r w3 ⟨p3,c3,rfl,o3,de⟩;have b3:=ah aR de;have hA:Bw w3 (w3.alloc (.cells #[.S p3 (vi v).length c3] 22)):=aJ.alloc aA _;have OZ:=ho.below xf.keep (ah de hA);have zk:=ho.lt;obtain ⟨lb,q1,q2,-,q4⟩:=KR (kd:=.u8) (Own.below o3 hA);have XU:xf (w3.alloc (.cells #[.S p3 (vi v).length c3] 22)) (vi v) [.S p3 (vi v).length c3] lb:=⟨p3,c3,rfl,(Own.below o3 hA).rd,q1⟩;obtain ⟨cs,g1,g2,g3,g4,g5,g6,g7⟩:=id OZ;have aG4:(vi n::(l.take k).map mE).length=k+1:=by rw [List.length_cons,List.length_map,List.length_take,aa en];omega
 rw [aG4] at g4;have z3:=de.size;have zr:=aR.size;have EL:=ae XU;have Q2:=ae q2;have GG:=ae (ag g1 (ag g2 (ag g3 (ag g5 (ag g6 g7)))));have HLV:=ae zk;have LX:=ae aG4;clear hc o3 OZ q1 q2 q4 XU g1 g2 g3 g5 g6 g7 zk aG4 ho;obtain ⟨M3,Yj⟩:=aH ((vi v).length);rw [Yj] at g4 EL Q2 GG hA ⊢;have EM3:=ae Yj;clear Yj;have Xt:∀ j u,[Value.slice p3 M3 c3][j]?=some u->(w3.alloc (.cells #[.S p3 M3 c3] 22)).cell? ⟨w3.heap.size,j,none⟩=some u:=fun j u hu=>by have:=(aq.alloc w3 #[.S p3 M3 c3] 22).1 j u (by simpa using hu);exact this
 go_wp2_with (at_builtin;refine e8 rfl _ _ 39 rfl w.heap.size 22 ib _ 1 24 underlying39 Zo mw iT jW rfl bl (.S p2 (k+1) c2) (k+1) _ rfl g4 w3.heap.size 1 1 [.S p3 M3 c3] rfl rfl Xt (fun u hu=>by simp at hu;subst hu;rfl) jC ab dx ?_);intro v' w9 dW hg mr;obtain ⟨p9,c9,rfl⟩:∃ p9 c9,v'=.S p9 (k+1+1) c9:=by rcases dW.2 with ⟨rfl,h0⟩ | ⟨g,cap,cur,rfl,-⟩;{omega};{exact ⟨_,_,rfl⟩}
 obtain ⟨g1,g2,g3,g5,g6,g7⟩:=aa GG;have zk:=aa HLV;have CK:w9.ownsRow w.heap.size 22 1 (.S p9 (k+1+1) c9) ((vi n::(l.take k).map mE).length+1) (cs.flatten++[.S p3 M3 c3]):=by rw [aa LX];exact dW
 have sn:=OwnT.snoc g1 g2 g3 g5 g6 g7 xf.keep EL rfl Q2 ab (fun a ha=>(zk.2 a ha).2) (fun b hb=>(zk.1 b hb).2) CK hg (fun g sy=>by have:=mr g sy;simpa using this)
 have eL:(vi n::(l.take k).map mE)++[vi v]=vi n::(l.take (k+1)).map mE:=by rw [List.take_add_one,aa HY,List.map_append];simp [mE]
 rw [eL] at sn;have fo:Bw w w9:=(b3.alloc b3.size _).grown hg dx (fun b hb=>(zk.1 b hb).1);have SN:=ae sn;clear sn eL dW CK hg mr g1 g2 g3 g4 g5 g6 g7 zk Xt GG EL Q2;go_wp2;go_roundw
 case rel=>exact ⟨k+1,_,_,_,ab,rfl,by go_num,SN,fo⟩
 exact dC};{
 have da:=dy k n;have Ex:n=k:=ab;subst Ex;have hO:=aa ho;rw [List.take_of_length_le (by rw [aa en];exact Nat.le_refl _)] at hO;have aG4:(vi n::l.map mE).length=n+1:=by rw [List.length_cons,List.length_map,aa en]
 obtain ⟨G,vs,rfl,hPa⟩:=hO.parts aG4 ab;have HPA:=ae hPa;have EE:Hid (rR mE l=cat (vi n::l.map mE)):=by show _=_;rw [rR,aa en]
 have LX:=ae aG4.symm;clear hO hPa aG4 ho hk bj;go_wp2_with fail;refine (tf G c2 vs (vi n::l.map mE) (rR mE l) N (n+1) LX EE eN _ HPA hN ab).mono ?_;rintro r w5 ⟨p5,c5,rfl,o5,ew⟩;have b5:=ah aR ew;have O5:=ae (Own.mono (B':=w.heap.size) o5 aR.size);clear o5 ew;go_wp2;go_ret;exact ⟨p5,c5,rfl,O5,b5⟩})
abbrev Ju (w:World) (b:Nat) (v0 v1 v2 v3 v4 v5 v6 v7:Value):Prop:=w.cell? ⟨b,0,none⟩=some v0/\w.cell? ⟨b,1,none⟩=some v1/\w.cell? ⟨b,2,none⟩=some v2/\w.cell? ⟨b,3,none⟩=some v3/\w.cell? ⟨b,4,none⟩=some v4/\w.cell? ⟨b,5,none⟩=some v5/\w.cell? ⟨b,6,none⟩=some v6/\w.cell? ⟨b,7,none⟩=some v7
theorem Ju.below {w w':World} (h:Ju w b v0 v1 v2 v3 v4 v5 v6 v7) (hb:Bw w w'):Ju w' b v0 v1 v2 v3 v4 v5 v6 v7:=
 ⟨af h.1 hb,af h.2.1 hb,af h.2.2.1 hb,af h.2.2.2.1 hb,af h.2.2.2.2.1 hb,af h.2.2.2.2.2.1 hb,af h.2.2.2.2.2.2.1 hb,af h.2.2.2.2.2.2.2 hb⟩
theorem av8 (h:u.cell? ⟨b,0,none⟩=some (.int .u8 y)):Rd u (.S (some ⟨b,0,none⟩) 1 1) [y]:=by
 refine ⟨_,_,rfl,.inr ⟨b,0,rfl,fun i hi=>?_⟩⟩;have e:i=0:=by simpa using hi
 subst e;simpa using h
theorem uy (v:Nat) (w:World) (XF:v<18446744073709551616) (M:Nat) (eM:Hid ((vi v).length=M)) :
  Calls prog 62 #[.U v] w fun e w'=>∃ p' c',e=.returned (.S p' M c')/\Own w.heap.size w' (.S p' M c') (vi v)/\Bw w w':=by
 have e:=aa eM;subst e;exact ku v w XF
theorem aa8 (X:World) (v0 v1 v2 v3 v4 v5 v6:Value) (l0 l1 l2 l3 l4 l5 l6 lm:List Int) (N:Nat) (e:Hid (lm=cat [l0,l1,l2,l3,l4,l5,l6])) (en:Hid (lm.length=N)) (r0:Rd X v0 l0) (r1:Rd X v1 l1) (r2:Rd X v2 l2) (r3:Rd X v3 l3) (r4:Rd X v4 l4) (r5:Rd X v5 l5) (r6:Rd X v6 l6) (hl:N<=4194304) :
  Calls prog 61 #[.S (some ⟨X.heap.size,0,none⟩) 7 7] (X.alloc (.cells #[v0,v1,v2,v3,v4,v5,v6] 22)) fun e w'=>∃ p' c',e=.returned (.S p' N c')/\Own X.heap.size w' (.S p' N c') lm/\Bw X w':=by
 have ba:Bw X (X.alloc (.cells #[v0,v1,v2,v3,v4,v5,v6] 22)):=aJ.alloc aA _;refine (xh X.heap.size [v0,v1,v2,v3,v4,v5,v6] [l0,l1,l2,l3,l4,l5,l6] lm N 7 rfl e en _ ⟨rfl,fun j v x e1 e2=>?_⟩ hl ab).mono ?_;{
 match j,e1,e2 with
 | 0,e1,e2=>simp at e1 e2;subst e1 e2;exact ⟨aU,r0.below ba⟩
 | 1,e1,e2=>simp at e1 e2;subst e1 e2;exact ⟨aU,r1.below ba⟩
 | 2,e1,e2=>simp at e1 e2;subst e1 e2;exact ⟨aU,r2.below ba⟩
 | 3,e1,e2=>simp at e1 e2;subst e1 e2;exact ⟨aU,r3.below ba⟩
 | 4,e1,e2=>simp at e1 e2;subst e1 e2;exact ⟨aU,r4.below ba⟩
 | 5,e1,e2=>simp at e1 e2;subst e1 e2;exact ⟨aU,r5.below ba⟩
 | 6,e1,e2=>simp at e1 e2;subst e1 e2;exact ⟨aU,r6.below ba⟩}
 {rintro e w' ⟨p',c',rfl,o,hb⟩;exact ⟨p',c',rfl,Own.mono o aU,ah ba hb⟩}
def UQ (P V:List Int) (ow:Nat) (mo:Int) (H:List Int) (ep ge:Nat):List Int:=cat [tx P,tx V,vi ow,[mo],rR mE H,vi ep,vi ge]
def km (nd:aD):List Int:=UQ nd.path nd.value nd.owner.toNat nd.mode nd.holders nd.aB.toNat nd.gen.toNat
theorem It (p q r:Option Addr) (n c m d k f:Nat) (U:Value) (P V H:List Int) (ow ep ge:Nat) (mo:Int) (eP:Hid (P.length=n)) (eV:Hid (V.length=m)) (eH:Hid (H.length=k)) (w:World) (hP:Rd w (.S p n c) P) (hV:Rd w (.S q m d) V) (hH:nH w (.S r k f) H)
  (bn:n<=1048576) (bm:m<=1048576) (bk:k<=900) (hu:Hid (∀ i∈H,0<=i/\i<18446744073709551616)) (b1:ow<18446744073709551616) (b2:ep<18446744073709551616) (b3:ge<18446744073709551616) (bmo:0<=mo/\mo<=2) (N:Nat) (eN:Hid ((UQ P V ow mo H ep ge).length=N)) (hN:N<=4194304) :
  Calls prog 73 #[JS (.S p n c) (.S q m d) ow mo (.S r k f) ep ge U] w fun e w'=>∃ p' c',e=.returned (.S p' N c')/\Own w.heap.size w' (.S p' N c') (UQ P V ow mo H ep ge)/\Bw w w':=by
 have HP:=ae fun (w':World) (hb:Bw w w')=>ag (hP.below hb) (ag (hV.below hb) (hH.below hb));clear hP hV hH;have wm:IntKind.u8.wrap mo=mo:=by rw [IntKind.wrap_u8];omega
 obtain ⟨N0,e0⟩:∃ M,Hid ((tx P).length=M):=⟨_,cw⟩;obtain ⟨N1,e1⟩:∃ M,Hid ((tx V).length=M):=⟨_,cw⟩;obtain ⟨N2,e2⟩:∃ M,Hid ((vi ow).length=M):=⟨_,cw⟩;obtain ⟨N4,e4⟩:∃ M,Hid ((rR mE H).length=M):=⟨_,cw⟩;obtain ⟨N5,e5⟩:∃ M,Hid ((vi ep).length=M):=⟨_,cw⟩;obtain ⟨N6,e6⟩:∃ M,Hid ((vi ge).length=M):=⟨_,cw⟩;have hN4:N4<=4194304:=by have h1:=aa eN;have h2:=aa e4;simp only [UQ,cat,List.flatten_cons,List.length_append] at h1;omega
 have EE:Hid (UQ P V ow mo H ep ge=cat [tx P,tx V,vi ow,[mo],rR mE H,vi ep,vi ge]):=by show _=_;rfl
 obtain ⟨W0,dh⟩:=ax (w.alloc (.cells #[.S p n c,.S q m d,.U ow,.I mo,.S r k f,.U ep,.U ge,U] 38));have Qw:=ju dh;have hA8:Ju W0 w.heap.size (.S p n c) (.S q m d) (.U ow) (.I mo) (.S r k f) (.U ep) (.U ge) U:=by rw [dh];simp [Ju,go_sem]
 go_enter func73,ntmps73;go_wp2_with fail;rw [<-dh];obtain ⟨v,IV⟩:=ax W0.drew;have BW:Hid (Bw w v):=by rw [IV];exact Qw.drew
 have S:Hid (Ju v w.heap.size (.S p n c) (.S q m d) (.U ow) (.I mo) (.S r k f) (.U ep) (.U ge) U):=by rw [IV];exact hA8
 refine bO (fun w'=>Ju w' w.heap.size (.S p n c) (.S q m d) (.U ow) (.I mo) (.S r k f) (.U ep) (.U ge) U) (by rw [<-IV];exact aa S) fun hS=>?_;rw [<-IV] at hS ⊢;clear IV dh Qw hA8;refine gy 0 1 3 4 6 7 9 10 hS ?_;refine gC 11 13 14 16 hS ?_;refine fe 17 19 hS ?_;refine tn 20 hS ?_
 iterate 7 (
  all_goals (first | refine UG 2 (fun KK hK=>?_) | refine UG 5 (fun KK hK=>?_) | refine UG 8 (fun KK hK=>?_) | refine UG 15 (fun KK hK=>?_) | refine UG 18 (fun KK hK=>?_) | refine UG 21 (fun KK hK=>?_) | refine UG 12 (fun KK hK=>?_) | refine Zl 2 12 (fun KK hK=>?_) (fun KK hK=>?_) | refine Zl 5 12 (fun KK hK=>?_) (fun KK hK=>?_) | refine Zl 8 12 (fun KK hK=>?_) (fun KK hK=>?_) | refine Zl 12 15 (fun KK hK=>?_) (fun KK hK=>?_) | refine Zl 12 18 (fun KK hK=>?_) (fun KK hK=>?_) | refine Zl 12 21 (fun KK hK=>?_) (fun KK hK=>?_))
  all_goals (first
   | (
    refine Tag.go 2 ?_;refine ia (mF p c n P eP _ (aa HP _ BW).1 bn N0 e0) ?_;rintro z9 v' ⟨pA,cA,rfl,o,hb⟩;refine ⟨_,rfl,?_⟩;have RA:=ae o.rd;clear o)
   | (
    refine Tag.go 5 ?_;refine ia (mF q d m V eV _ (aa HP _ BW).2.1 bm N1 e1) ?_;rintro z9 v' ⟨pB,cB,rfl,o,hb⟩;refine ⟨_,rfl,?_⟩;have RB:=ae o.rd;clear o)
   | (
    refine Tag.go 8 ?_;refine ia (uy ow _ b1 N2 e2) ?_;rintro z9 v' ⟨pC,cC,rfl,o,hb⟩;refine ⟨_,rfl,?_⟩;have RC:=ae o.rd;clear o)
   | (
    refine Tag.go 15 ?_;refine rz (Ta r f k H eH _ (aa HP _ BW).2.2 bk hu N4 e4 hN4) ?_;rintro z9 v' ⟨pD,cD,rfl,o,hb⟩;refine ⟨_,rfl,?_⟩;have RD:=ae o.rd;clear o)
   | (
    refine Tag.go 18 ?_;refine ia (uy ep _ b2 N5 e5) ?_;rintro z9 v' ⟨pE,cE,rfl,o,hb⟩;refine ⟨_,rfl,?_⟩;have RE:=ae o.rd;clear o)
   | (
    refine Tag.go 21 ?_;refine ia (uy ge _ b3 N6 e6) ?_;rintro z9 v' ⟨pF,cF,rfl,o,hb⟩;refine ⟨_,rfl,?_⟩;have RF:=ae o.rd;clear o)
   | (
    refine Tag.go 12 ?_;go_simp;obtain ⟨v',hv⟩:=ax (v.alloc (.cells #[.int .u8 mo] 5));have hb:=ju hv;have hp:v'.cell? ⟨v.heap.size,0,none⟩=some (.int .u8 mo):=by rw [hv];simp
    rw [<-hv];obtain ⟨GL,hGL⟩:=ax v.heap.size;rw [<-hGL] at hp ⊢;have RL:=ae (av8 hp);clear hv hp hGL))
  all_goals (
   have S:=ae (S.below hb);have BW:=ae (ah BW hb)
   try have RA:=ae (RA.below hb)
   try have RB:=ae (RB.below hb)
   try have RC:=ae (RC.below hb)
   try have RD:=ae (RD.below hb)
   try have RE:=ae (RE.below hb)
   try have RF:=ae (RF.below hb)
   try have RL:=ae (RL.below hb)
   refine cg hK (by exact S) fun hS=>?_;clear hK KK hb
   rename World=>v
   skip))
 all_goals (
  refine bH 22 (fun KK hK=>?_);go_simp;obtain ⟨Y,hY⟩:=ax (v.alloc (.cells #[.S pA N0 cA,.S pB N1 cB,.S pC N2 cC,.S (some ⟨GL,0,none⟩) 1 1,.S pD N4 cD,.S pE N5 cE,.S pF N6 cF] 22));have hbY:=ju hY;have SY:=ae (S.below hbY);have JJ:=ae (aa8 v _ _ _ _ _ _ _ _ _ _ _ _ _ _ _ N EE eN RA RB RC RL RD RE RF hN);rw [<-hY] at JJ ⊢;refine cg hK (by exact SY) fun hS=>?_;clear hK KK hY hbY;refine bH 23 (fun KK hK=>?_);refine ia JJ ?_;rintro z9 Z ⟨pj,cj,rfl,oj,pM⟩;refine ⟨_,rfl,?_⟩;have FI:=ae (ag (Own.mono (B':=w.heap.size) oj BW.size) (ah (aa BW) pM));refine cg hK (by exact S.below pM) fun hS=>?_;clear hK KK oj pM;refine tn 24 hS ?_;refine bu ?_;clear hS;go_wp2;go_ret;exact ⟨pj,cj,rfl,FI⟩
  skip)
def sM (s:aY):List Int:=vi s.1.toNat
theorem He (v:Nat) (d:Int) (p:Option Addr) (n c:Nat) (w:World) (XF:v<18446744073709551616) :
  Calls prog 71 #[.agg #[.U v,.I d,.S p n c]] w fun e w'=>∃ p' c',e=.returned (.S p' (vi v).length c')/\Own w.heap.size w' (.S p' (vi v).length c') (vi v)/\Bw w w':=by
 go_enter func71,ntmps71;go_wp2_with fail;have hb:Bw w (w.alloc (.cells #[.U v,.I d,.S p n c] 35)):=aJ.alloc aA _;refine (ku v _ XF).mono ?_;rintro r w1 ⟨p1,c1,rfl,o1,b1⟩;have b2:=ah hb b1;have o2:=Own.mono (B':=w.heap.size) o1 aU;clear o1 b1;go_wp2;go_ret;exact ⟨p1,c1,rfl,o2,b2⟩
theorem Tc (p:Option Addr) (c n:Nat) (l:List aY) (en:Hid (l.length=n)) (w:World) (h:ic w (.S p n c) l) (hn:n<=900) (hu:Hid (∀ s∈l,0<=s.1/\s.1<18446744073709551616)) (N:Nat) (eN:Hid ((rR sM l).length=N)) (hN:N<=4194304) :
  Calls prog 70 #[.S p n c,.func (.func 71) #[] #[]] w fun e w'=>∃ p' c',e=.returned (.S p' N c')/\Own w.heap.size w' (.S p' N c') (rR sM l)/\Bw w w':=by
 obtain ⟨ib,Zo,mw,iT,jW⟩:=info_parts Tryz.infoSl;have HR:=ae fun (w':World) (hb:Bw w w')=>h.below hb;clear h;have wn:IntKind.u64.wrap (n:Int)=(n:Int):=by rw [IntKind.wrap_u64];omega
 go_enter func70,ntmps70;go_wp2_with fail;refine (ku n w ab).mono ?_;rintro r w1 ⟨p1,c1,rfl,o1,b1⟩;obtain ⟨Ls0,hP⟩:=rr.one o1 b1.size;obtain ⟨v0,IV⟩:=ax (w1.alloc (.cells #[.S p1 (vi n).length c1] 22));have hb0:Bw w v0:=by rw [IV];exact b1.alloc b1.size _
 rw [<-IV] at hP;have HP:=ae hP;clear hP o1;generalize (vi n).length=M at *;go_wp2;rw [<-IV];clear IV b1
 go_loopw [5,15] (fun pv iv wr=>∃ (k:Nat) (p2:Option Addr) (c2:Nat) (Ls:List (List Lf)),k<=n/\pv=.S p2 (k+1) c2/\iv=.I k/\Hid (rr w.heap.size wr (.S p2 (k+1) c2) (vi n::(l.take k).map sM) Ls)/\Bw w wr) (fun _ iv _=>n-(intOf iv).toNat)
 case atStart=>exact ⟨0,_,_,_,Nat.zero_le _,rfl,rfl,HP,hb0⟩
 case round =>(
 obtain ⟨k,p2,c2,Ls,hk,rfl,rfl,ho,aR⟩:=hrel;by_cases bj:k<n;{
 have da:=aT k n;have fL:k<l.length:=by rw [aa en];exact bj
 obtain ⟨⟨i,dl,qu⟩,hy⟩:∃ y,l[k]?=some y:=⟨_,aK fL⟩;have hi:=aa hu _ (aF hy);dsimp only at hi;obtain ⟨v,rfl⟩:∃ v:Nat,i=(v:Int):=⟨i.toNat,ab⟩;obtain ⟨b,o,rfl,Yh,kH,pq,nq,cq,jF⟩:∃ b o,p=some ⟨b,o,none⟩/\wr.cell? ⟨b,o+k*3,none⟩=some (.U v)/\wr.cell? ⟨b,o+k*3+1,none⟩=some (.I dl)/\∃ pq nq cq,wr.cell? ⟨b,o+k*3+2,none⟩=some (.S pq nq cq):=by obtain ⟨p',c',ev,hd⟩:=aa HR _ aR;simp only [Value.slice.injEq] at ev;obtain ⟨rfl,-,-⟩:=ev;rcases hd with h0 | ⟨b,o,h1,h2⟩;{rw [h0] at fL;simp at fL};{obtain ⟨d1,d2,u,d3,d4⟩:=h2 k _ hy;obtain ⟨pq,cq,rfl,-⟩:=d4;exact ⟨b,o,h1,d1,d2,pq,_,cq,d3⟩}
 have HY:=ae hy;clear fL hy;have wk:IntKind.i64.wrap ((k:Int)+1)=((k+1:Nat):Int):=by rw [IntWalk.i64_in _ ab];omega
 go_wp2_with fail;obtain ⟨X,hX⟩:=ax (wr.alloc (.cells #[.U v,.I dl,.S pq nq cq] 35));have Yl:=ju hX;have vF:=ae (ho.below xf.keep Yl);have Xz:=ah aR Yl;rw [<-hX];clear hX ho aR Yl;refine (He v dl pq nq cq X ab).mono ?_;rintro r w3 ⟨p3,c3,rfl,o3,de⟩;have b3:=ah Xz de;have hA:Bw w3 (w3.alloc (.cells #[.S p3 (vi v).length c3] 22)):=aJ.alloc aA _;have OZ:=vF.below xf.keep (ah de hA);have zk:=vF.lt;obtain ⟨lb,q1,q2,-,q4⟩:=KR (kd:=.u8) (Own.below o3 hA);have XU:xf (w3.alloc (.cells #[.S p3 (vi v).length c3] 22)) (vi v) [.S p3 (vi v).length c3] lb:=⟨p3,c3,rfl,(Own.below o3 hA).rd,q1⟩;obtain ⟨cs,g1,g2,g3,g4,g5,g6,g7⟩:=id OZ;have aG4:(vi n::(l.take k).map sM).length=k+1:=by rw [List.length_cons,List.length_map,List.length_take,aa en];omega
 rw [aG4] at g4;have z3:=de.size;have zr:=Xz.size;have EL:=ae XU;have Q2:=ae q2;have GG:=ae (ag g1 (ag g2 (ag g3 (ag g5 (ag g6 g7)))));have HLV:=ae zk;have LX:=ae aG4;clear Yh kH jF o3 OZ q1 q2 q4 XU g1 g2 g3 g5 g6 g7 zk aG4 vF;obtain ⟨M3,Yj⟩:=aH ((vi v).length);rw [Yj] at g4 EL Q2 GG hA ⊢;have EM3:=ae Yj;clear Yj;have Xt:∀ j u,[Value.slice p3 M3 c3][j]?=some u->(w3.alloc (.cells #[.S p3 M3 c3] 22)).cell? ⟨w3.heap.size,j,none⟩=some u:=fun j u hu=>by have:=(aq.alloc w3 #[.S p3 M3 c3] 22).1 j u (by simpa using hu);exact this
 go_wp2_with (at_builtin;refine e8 rfl _ _ 39 rfl w.heap.size 22 ib _ 1 24 underlying39 Zo mw iT jW rfl bl (.S p2 (k+1) c2) (k+1) _ rfl g4 w3.heap.size 1 1 [.S p3 M3 c3] rfl rfl Xt (fun u hu=>by simp at hu;subst hu;rfl) jC ab dx ?_);intro v' w9 dW hg mr;obtain ⟨p9,c9,rfl⟩:∃ p9 c9,v'=.S p9 (k+1+1) c9:=by rcases dW.2 with ⟨rfl,h0⟩ | ⟨g,cap,cur,rfl,-⟩;{omega};{exact ⟨_,_,rfl⟩}
 obtain ⟨g1,g2,g3,g5,g6,g7⟩:=aa GG;have zk:=aa HLV;have CK:w9.ownsRow w.heap.size 22 1 (.S p9 (k+1+1) c9) ((vi n::(l.take k).map sM).length+1) (cs.flatten++[.S p3 M3 c3]):=by rw [aa LX];exact dW
 have sn:=OwnT.snoc g1 g2 g3 g5 g6 g7 xf.keep EL rfl Q2 ab (fun a ha=>(zk.2 a ha).2) (fun b hb=>(zk.1 b hb).2) CK hg (fun g sy=>by have:=mr g sy;simpa using this)
 have eL:(vi n::(l.take k).map sM)++[vi v]=vi n::(l.take (k+1)).map sM:=by rw [List.take_add_one,aa HY,List.map_append];simp [sM]
 rw [eL] at sn;have fo:Bw w w9:=(b3.alloc b3.size _).grown hg dx (fun b hb=>(zk.1 b hb).1);have SN:=ae sn;clear sn eL dW CK hg mr g1 g2 g3 g4 g5 g6 g7 zk Xt GG EL Q2;go_wp2;go_roundw
 case rel=>exact ⟨k+1,_,_,_,ab,rfl,by go_num,SN,fo⟩
 exact dC};{
 have da:=dy k n;have Ex:n=k:=ab;subst Ex;have hO:=aa ho;rw [List.take_of_length_le (by rw [aa en];exact Nat.le_refl _)] at hO;have aG4:(vi n::l.map sM).length=n+1:=by rw [List.length_cons,List.length_map,aa en]
 obtain ⟨G,vs,rfl,hPa⟩:=hO.parts aG4 ab;have HPA:=ae hPa;have EE:Hid (rR sM l=cat (vi n::l.map sM)):=by show _=_;rw [rR,aa en]
 have LX:=ae aG4.symm;clear hO hPa aG4 ho hk bj;go_wp2_with fail;refine (tf G c2 vs (vi n::l.map sM) (rR sM l) N (n+1) LX EE eN _ HPA hN ab).mono ?_;rintro r w5 ⟨p5,c5,rfl,o5,ew⟩;have b5:=ah aR ew;have O5:=ae (Own.mono (B':=w.heap.size) o5 aR.size);clear o5 ew;go_wp2;go_ret;exact ⟨p5,c5,rfl,O5,b5⟩})
def vN (e g x:Nat) (ss:List aY) (ns:List aD):List Int:=cat [vi e,vi g,vi x,rR sM ss,rR km ns]
theorem Rq {α:Type} (f:α->List Int) (h:α->α) (hf:∀ x,f (h x)=f x) (l:List α):rR f (l.map h)=rR f l:=by
 rw [rR,rR,List.length_map,List.map_map]
 congr 2
 exact List.map_congr_left fun x _=>hf x
theorem QN (e g x:Nat) (ss:List aY) (ns:List aD):vN e g x (ss.map kS) (ns.map aF8)=vN e g x ss ns:=by
 rw [vN,vN,Rq sM kS (fun _=>rfl),Rq km aF8 (fun _=>rfl)]
theorem Db {α:Type} (f:α->List Int) (C:Nat):∀ l:List α,(∀ x∈l,(f x).length<=C)->(cat (l.map f)).length<=C*l.length
 | [],_=>Nat.zero_le _
 | x::l,h=>by have h1:=Db f C l fun y hy=>h y (by simp [hy]);have h2:=h x aU;rw [List.map_cons,cat,List.flatten_cons,List.length_append,List.length_cons,Nat.mul_succ];rw [cat] at h1;omega
theorem qo {α:Type} (f:α->List Int) (l:List α):rR f l=vi l.length++cat (l.map f):=by rw [rR,cat,List.flatten_cons,cat]
structure Oc (ss:List aY) (ns:List aD):Prop where
 n1:ss.length<=50
 n2:ns.length<=200
 s:∀ s∈ss,0<=s.1/\s.1<18446744073709551616
 d:∀ nd∈ns,(nd.path.length<=136/\nd.value.length<=40/\nd.holders.length<=50)/\(0<=nd.mode/\nd.mode<=2)/\(0<=nd.owner/\nd.owner<18446744073709551616)/\(0<=nd.aB/\nd.aB<18446744073709551616)/\(0<=nd.gen/\nd.gen<18446744073709551616)/\∀ i∈nd.holders,0<=i/\i<18446744073709551616
theorem Oc.w (h:Oc ss ns):Sn ss ns:=⟨Nat.le_trans h.n1 (by decide),Nat.le_trans h.n2 (by decide),h.s,fun nd aV=>by
 obtain ⟨⟨a,b,c⟩,d,e⟩:=h.d nd aV;exact ⟨⟨a,ab,ab⟩,ab,e⟩⟩
theorem Oc.dur (h:Oc ss ns):Oc (ss.map kS) (ns.map aF8):=by
 refine ⟨by rw [List.length_map];exact h.n1,by rw [List.length_map];exact h.n2,fun s hs=>?_,fun nd aV=>?_⟩;{obtain ⟨s0,h0,rfl⟩:=List.mem_map.1 hs;exact h.s s0 h0};{obtain ⟨n0,h0,rfl⟩:=List.mem_map.1 aV;exact h.d n0 h0}
theorem O1 (h:jY e g x t ss ns=true)
  (IY:∀ nd∈ns,(∀ i∈nd.holders,0<=i/\i<18446744073709551616)/\∀ i∈nd.watchers,0<=i/\i<18446744073709551616) (OQ:∀ nd∈ns,0<=nd.owner/\nd.owner<18446744073709551616)
  (Yf:∀ nd∈ns,(0<=nd.aB/\nd.aB<18446744073709551616)/\0<=nd.gen/\nd.gen<18446744073709551616):Oc ss ns:=by
 obtain ⟨h1,h2,h3,h4,h5⟩:=(Cv e g x t ss ns).1 h;simp only [wS,decide_eq_true_eq] at h1;refine ⟨ab,ab,GO h2 ab,fun nd aV=>?_⟩;have hv:=h3;rw [jk,Bool.and_eq_true] at hv;have DA:∀ y∈ns,tz e g y=true:=(mH ns fq (tz e g)).1 fun i hi=>List.all_eq_true.1 hv.1 i (List.mem_range.2 hi);have pG:=DA nd aV;simp only [tz,Bool.and_eq_true,decide_eq_true_eq] at pG;obtain ⟨g1,g2,g3,g4,g5⟩:=pG;refine ⟨⟨nZ g1,g2,?_⟩,?_,OQ nd aV,(Yf nd aV).1,(Yf nd aV).2,(IY nd aV).1⟩;{
 have ha:=Eh g4;have ab3:nd.holders.Nodup:=ha.imp (fun {a b} FR=>ab);have:=vD nd.holders (ss.map (·.1)) ab3 fun i hi=>by have:=h5 nd aV i (by unfold sS;simp [hi]);obtain ⟨z,hz,rfl⟩:=(Di ss i).1 this;exact List.mem_map.2 ⟨z,hz,rfl⟩
 rw [List.length_map] at this;omega};{unfold dN at g3;split at g3;{omega};{simp only [Bool.and_eq_true] at g3;have:=g3.2.2;split at this;{omega};{simp only [Bool.and_eq_true,beq_iff_eq] at this;omega}}}
theorem IC (h:Sn ss ns):∀ nd∈ns,(km nd).length<=800/\(rR mE nd.holders).length<=520:=by
 intro nd aV;obtain ⟨⟨h1,h2,h3⟩,-⟩:=h.d nd aV;have a1:=py nd.path;have a2:=py nd.value;have a3:=gh nd.owner.toNat;have a4:=gh nd.aB.toNat;have a5:=gh nd.gen.toNat;have a6:(rR mE nd.holders).length<=520:=by have b1:=gh nd.holders.length;have b2:=Db mE 10 nd.holders fun x _=>(gh _).2;rw [qo,List.length_append];omega
 refine ⟨?_,a6⟩;simp only [km,UQ,cat,List.flatten_cons,List.flatten_nil,List.length_append,List.length_cons,List.length_nil];omega
theorem Ha {e g x:Nat} (h:Sn ss ns):(vN e g x ss ns).length<=200000/\(rR sM ss).length<=600/\(rR km ns).length<=170000:=by
 have a1:=gh e;have a2:=gh g;have a3:=gh x;have b1:=gh ss.length;have b2:=Db sM 10 ss fun x _=>(gh _).2;have b3:=gh ns.length;have b4:=Db km 800 ns fun x hx=>(IC h x hx).1;have:=h.n1;have:=h.n2;have c1:(rR sM ss).length<=600:=by rw [qo,List.length_append];omega
 have c2:(rR km ns).length<=170000:=by rw [qo,List.length_append];omega
 refine ⟨?_,c1,c2⟩;simp only [vN,cat,List.flatten_cons,List.flatten_nil,List.length_append,List.length_nil];omega
def encR (e g x t:Int) (ss:List aY) (ns:List aD):List Int:=if jY e g x t ss ns=true then vN e.toNat g.toNat x.toNat ss ns else []
theorem Own.nil (B:Nat) (w:World):Own B w (.S none 0 0) []:=⟨rfl,.inl ⟨rfl,rfl⟩⟩
def rL {α σ:Type} (f:σ->α × σ):Nat->σ->List α × σ
 | 0,o=>([],o)
 | k+1,o=>((rL f k o).1++[(f (rL f k o).2).1],(f (rL f k o).2).2)
theorem ZW {α σ:Type} (f:σ->α × σ) (k:Nat) (o:σ):rL f (k+1) o=((f o).1::(rL f k (f o).2).1,(rL f k (f o).2).2):=by
 induction k with
 | zero=>rfl
 | succ k ih=>rw [rL,ih];rfl
theorem sF {α σ:Type} (f:σ->α × σ) (k:Nat) (o:σ):(rL f k o).1.length=k:=by
 induction k with
 | zero=>rfl
 | succ k ih=>rw [rL,List.length_append,ih];rfl
theorem Ip {α:Type} (f:Option (List Int)->α × Option (List Int)) (g:α->List Int):∀ (xs:List α) (rest:List Int),(∀ x∈xs,∀ r,f (some (g x++r))=(x,some r))->rL f xs.length (some (cat (xs.map g)++rest))=(xs,some rest)
 | [],rest,_=>rfl
 | x::xs,rest,h=>by rw [List.length_cons,ZW,List.map_cons,cat,List.flatten_cons,List.append_assoc,h x aU];have:=Ip f g xs rest fun y hy=>h y (by simp [hy]);rw [cat] at this;simp only [this]
def ni (o:Option (List Int)):Option (aD × Option (List Int)):=
 let a:=oT o
 let b:=oT a.2
 let c:=oV b.2
 let d:=oB c.2
 let h:=oV d.2
 if h.2=none\/50<h.1 then none
 else
  let l:=rL oV h.1.toNat h.2
  let e:=oV l.2
  let g:=oV e.2
  some (⟨a.1,b.1,c.1,d.1,l.1,e.1,g.1,[]⟩,g.2)
def iY:Nat->Option (List Int)->Option (List aD × Option (List Int))
 | 0,o=>some ([],o)
 | k+1,o=>(iY k o).bind fun r=>(ni r.2).map fun q=>(r.1++[q.1],q.2)
theorem Kp (k:Nat) (o:Option (List Int)):iY (k+1) o=(ni o).bind fun q=>(iY k q.2).map fun r=>(q.1::r.1,r.2):=by
 induction k with
 | zero=>
  simp only [iY,Option.bind_some,List.nil_append];cases ni o<;>rfl
 | succ k ih=>
  rw [iY,ih];cases ni o with
  | none=>rfl
  | some q=>
   simp only [Option.bind_some];rw [iY];cases iY k q.2 with
   | none=>rfl
   | some r=>
    simp only [Option.map_some,Option.bind_some];cases ni r.2<;>rfl
def JA (i:Int):aY:=(i,0,[])
def CN (l:List Int):Option ((Int × Int × Int) × List aY × List aD × Option (List Int)):=
 let a:=oV (some l)
 let b:=oV a.2
 let c:=oV b.2
 let d:=oV c.2
 if d.2=none\/50<d.1 then none
 else
  let s:=rL oV d.1.toNat d.2
  let m:=oV s.2
  if m.2=none\/200<m.1 then none
  else (iY m.1.toNat m.2).map fun r=>((a.1,b.1,c.1),s.1.map JA,r.1,r.2)
def iZ (l:List Int):Option ((Int × Int × Int) × List aY × List aD):=
 (CN l).bind fun r=>if r.2.2.2≠none/\jY r.1.1 r.1.2.1 r.1.2.2 0 r.2.1 r.2.2.1=true/\vN r.1.1.toNat r.1.2.1.toNat r.1.2.2.toNat r.2.1 r.2.2.1=l then some (r.1,r.2.1,r.2.2.1) else none
theorem DZ (s:Nat) (r:List Int) (h:s<18446744073709551616):oV (some (vi s++r))=((s:Int),some r):=by
 rw [oV,QZ s r h]
theorem ah0 (P r:List Int) (h:P.length<18446744073709551616):oT (some (tx P++r))=(P,some r):=by
 rw [oT,Vz P r h]
theorem DW (h:0<=i/\i<18446744073709551616) (r:List Int):oV (some (mE i++r))=(i,some r):=by
 rw [mE,DZ _ _ ab,Int.toNat_of_nonneg h.1]
theorem OW (h:Oc ss ns) (aV:nd∈ns) (hw:nd.watchers=[]) (r:List Int):ni (some (km nd++r))=some (nd,some r):=by
 obtain ⟨⟨h1,h2,h3⟩,h4,h5,h6,h7,h8⟩:=h.d nd aV;have e:km nd++r=tx nd.path++(tx nd.value++(mE nd.owner++([nd.mode]++(vi nd.holders.length++(cat (nd.holders.map mE)++(mE nd.aB++(mE nd.gen++r))))))):=by rw [km,UQ,qo];simp [cat,mE]
 rw [e,ni];simp only [ah0 nd.path _ ab,ah0 nd.value _ ab,DW h5,List.cons_append,List.nil_append,oB];rw [DZ nd.holders.length _ ab];simp only [Int.toNat_natCast];rw [if_neg dx,Ip oV mE nd.holders _ fun i hi r=>DW (h8 i hi) r];simp only [DW h6,DW h7,Option.some.injEq,Prod.mk.injEq,and_true];rw [<-hw]
theorem Cn (h:Oc ss ns):∀ (xs:List aD) (r:List Int),(∀ x∈xs,x∈ns/\x.watchers=[])->iY xs.length (some (cat (xs.map km)++r))=some (xs,some r)
 | [],r,_=>rfl
 | x::xs,r,hx=>by rw [List.length_cons,Kp,List.map_cons,cat,List.flatten_cons,List.append_assoc,OW h (hx x aU).1 (hx x aU).2];have:=Cn h xs r fun y hy=>hx y (by simp [hy]);rw [cat] at this;simp only [Option.bind_some,this,Option.map_some]
theorem QW (e g x:Nat) (ss:List aY) (ns:List aD):vN e g x ss ns=vi e++(vi g++(vi x++(vi ss.length++(cat (ss.map sM)++(vi ns.length++(cat (ns.map km)++[])))))):=by
 rw [vN,qo,qo];simp [cat]
theorem ZM :ss.map sM=(ss.map (·.1)).map mE:=by
 rw [List.map_map]
 rfl
theorem Xg (h:∀ s∈ss,s.2=(0,[])):(ss.map (·.1)).map JA=ss:=by
 rw [List.map_map]
 conv=>rhs;rw [<-List.map_id ss]
 refine List.map_congr_left fun s hs=>?_;obtain ⟨a,b⟩:=s;have:=h _ hs;simp only at this;simp [JA,this]
theorem SG {e g x:Nat} (he:e<18446744073709551616) (hg:g<18446744073709551616) (hx:x<18446744073709551616) (h:Oc ss ns) (h1:∀ s∈ss,s.2=(0,[])) (h2:∀ nd∈ns,nd.watchers=[]):CN (vN e g x ss ns)=some (((e:Int),(g:Int),(x:Int)),ss,ns,some []):=by
 have n1:=h.n1;have n2:=h.n2;rw [QW,CN];simp only [DZ e _ he,DZ g _ hg,DZ x _ hx,DZ ss.length _ (show ss.length<18446744073709551616 by omega),Int.toNat_natCast];have hr:rL oV ss.length (some (cat (ss.map sM)++(vi ns.length++(cat (ns.map km)++[]))))=(ss.map (·.1),some (vi ns.length++(cat (ns.map km)++[]))):=by
  have:=Ip oV mE (ss.map (·.1)) (vi ns.length++(cat (ns.map km)++[])) fun i hi r=>by obtain ⟨s,hs,rfl⟩:=List.mem_map.1 hi;exact DW (h.s s hs) r
  rw [List.length_map] at this;rw [ZM,this]
 rw [if_neg dx,hr];simp only [DZ ns.length _ (show ns.length<18446744073709551616 by omega),Int.toNat_natCast];rw [if_neg dx,Cn h ns [] fun y hy=>⟨hy,h2 y hy⟩,Xg h1]
 rfl
abbrev Rs:Type:=List Int × Bool
def jV (s:Rs):Int × Rs:=sN 10 0 0 s.1 s.2
def vC {α:Type} (f:Rs->α × Rs):Nat->List α->Rs->List α × Rs
 | 0,acc,s=>(acc,s)
 | k+1,acc,s=>if (f s).2.2=true then ([],(f s).2) else vC f k (acc++[(f s).1]) (f s).2
def lF {α:Type} (f:Rs->α × Rs) (s:Rs):List α × Rs:=vC f (jV s).1.toNat [] (jV s).2
def NS (s:Rs):aY × Rs:=(JA (jV s).1,(jV s).2)
def Hy (s:Rs):aD × Rs:=
 let a:=sT s.1 s.2
 let b:=sT a.2.1 a.2.2
 let c:=jV b.2
 let d:=sB c.2.1 c.2.2
 let h:=lF jV d.2
 let e:=jV h.2
 let g:=jV e.2
 (⟨a.1,b.1,c.1,d.1,h.1,e.1,g.1,[]⟩,g.2)
def kr (l:List Int):(Int × Int × Int) × List aY × List aD × Rs:=
 let a:=jV (l,false)
 let b:=jV a.2
 let c:=jV b.2
 let s:=lF NS c.2
 let n:=lF Hy s.2
 ((a.1,b.1,c.1),s.1,n.1,n.2)
def jZ (l:List Int):Option ((Int × Int × Int) × List aY × List aD):=
 let r:=kr l
 if r.2.2.2.2=false/\encR r.1.1 r.1.2.1 r.1.2.2 0 r.2.1 r.2.2.1=l then some (r.1,r.2.1,r.2.2.1) else none
theorem DL (s:Nat) (r:List Int) (h:s<18446744073709551616):jV (vi s++r,false)=((s:Int),r,false):=Vn s r false h
theorem xR (h:0<=i/\i<18446744073709551616) (r:List Int):jV (mE i++r,false)=(i,r,false):=by
 rw [mE,DL _ _ ab,Int.toNat_of_nonneg h.1]
theorem Lc {α:Type} (f:Rs->α × Rs) (g:α->List Int):∀ (xs acc:List α) (rest:List Int),(∀ x∈xs,∀ r,f (g x++r,false)=(x,r,false))->vC f xs.length acc (cat (xs.map g)++rest,false)=(acc++xs,rest,false)
 | [],acc,rest,_=>by simp [vC,cat]
 | x::xs,acc,rest,h=>by rw [List.length_cons,vC,List.map_cons,cat,List.flatten_cons,List.append_assoc,h x aU];have:=Lc f g xs (acc++[x]) rest fun y hy=>h y (by simp [hy]);rw [cat] at this;rw [if_neg aU];simp only [this,List.append_assoc,List.cons_append,List.nil_append]
theorem II {α:Type} (f:Rs->α × Rs) (g:α->List Int) (xs:List α) (rest:List Int) (hl:xs.length<18446744073709551616) (h:∀ x∈xs,∀ r,f (g x++r,false)=(x,r,false)):lF f (vi xs.length++(cat (xs.map g)++rest),false)=(xs,rest,false):=by
 rw [lF,DL _ _ hl];simp only [Int.toNat_natCast];rw [Lc f g xs [] rest h]
 rfl
theorem Vl (h:Oc ss ns) (aV:nd∈ns) (hw:nd.watchers=[]) (r:List Int):Hy (km nd++r,false)=(nd,r,false):=by
 obtain ⟨⟨h1,h2,h3⟩,h4,h5,h6,h7,h8⟩:=h.d nd aV;have e:km nd++r=tx nd.path++(tx nd.value++(mE nd.owner++(nd.mode::(vi nd.holders.length++(cat (nd.holders.map mE)++(mE nd.aB++(mE nd.gen++r))))))):=by rw [km,UQ,qo];simp [cat,mE]
 rw [e,Hy];simp only [QY nd.path _ false ab,QY nd.value _ false ab,xR h5,sB];rw [II jV mE nd.holders _ ab fun i hi r=>xR (h8 i hi) r];simp only [xR h6,xR h7,Prod.mk.injEq,and_true];rw [<-hw]
theorem GF {e g x:Nat} (he:e<18446744073709551616) (hg:g<18446744073709551616) (hx:x<18446744073709551616) (h:Oc ss ns) (h1:∀ s∈ss,s.2=(0,[])) (h2:∀ nd∈ns,nd.watchers=[]):kr (vN e g x ss ns)=(((e:Int),(g:Int),(x:Int)),ss,ns,[],false):=by
 have n1:=h.n1;have n2:=h.n2;rw [QW,kr];simp only [DL e _ he,DL g _ hg,DL x _ hx];rw [II NS sM ss _ ab fun s hs r=>by have:=xR (h.s s hs) r;obtain ⟨a,b⟩:=s;have hb:=h1 _ hs;simp only at hb;rw [NS,sM,<-mE,this];simp [JA,hb]]
 simp only;rw [II Hy km ns _ ab fun y hy r=>Vl h hy (h2 y hy) r]
theorem mK {s:Rs} (h:s.2=true):(jV s).2.2=true:=Hz 10 0 0 s.1 s.2 h
theorem W6 {α:Type} (f:Rs->α × Rs) (hf:∀ s:Rs,s.2=true->(f s).2.2=true):∀ (k:Nat) (acc:List α) (s:Rs),s.2=true->(vC f k acc s).2.2=true
 | 0,_,_,h=>h
 | k+1,acc,s,h=>by rw [vC,if_pos (hf s h)];exact hf s h
theorem IL {α:Type} (f:Rs->α × Rs) (hf:∀ s:Rs,s.2=true->(f s).2.2=true) (s:Rs) (h:s.2=true):(lF f s).2.2=true:=W6 f hf _ _ _ (mK h)
theorem Vm (s:Rs) (h:s.2=true):(Hy s).2.2=true:=
 mK (mK (IL jV (fun _=>mK) _ (CW (mK (CU (CU h))))))
theorem Lo:(kr []).2.2.2.2=true:=by
 have h0:(jV (([],false):Rs)).2.2=true:=by unfold jV;show (sN 10 0 0 [] false).2.2=true;rw [sN];simp [sB]
 exact IL Hy Vm _ (IL NS (fun _=>mK) _ (mK (mK h0)))
def Uq (i:Int):Prop:=0<=i/\i<18446744073709551616
structure RgN (nd:aD):Prop where
 by0:bM nd.path
 by1:bM nd.value
 l0:nd.path.length<=1048576
 l1:nd.value.length<=1048576
 l4:nd.holders.length<=1048576
 l7:nd.watchers=[]
 ow:Uq nd.owner
 ep:Uq nd.aB
 ge:Uq nd.gen
 ho:∀ i∈nd.holders,Uq i
 mo:0<=nd.mode/\nd.mode<256
theorem my {om:Option (List Int)}:Uq (oV om).1:=D5
theorem V6 {α σ:Type} (f:σ->α × σ) (P:α->Prop) (I:σ->Prop) (hf:∀ s,I s->P (f s).1/\I (f s).2) (k:Nat) (o:σ) (ho:I o):(∀ x∈(rL f k o).1,P x)/\I (rL f k o).2:=by
 induction k with
 | zero=>exact ⟨fun x hx=>by simp [rL] at hx,ho⟩
 | succ k ih=>
  rw [rL];obtain ⟨h1,h2⟩:=hf _ ih.2;refine ⟨fun x hx=>?_,h2⟩;rcases List.mem_append.1 hx with hx | hx;{exact ih.1 x hx};{rw [List.mem_singleton] at hx;rw [hx];exact h1}
theorem Vk {n:Nat} (en:l.length=n) (hb:bM l) (hl:n<=1048576) (hs:lZ n l o) (h:ni o=some (nd,o')):RgN nd/\lZ n l o'/\nd.holders.length<=50:=by
 rw [ni] at h;have s1:=Eb en hs;have s2:=Eb en s1;have s3:=mz en s2;have s4:=An en s3;have s5:=mz en s4;have t0:=pY hb hs;have t1:=pY hb s1;have m0:=WK hb s3;simp only at h;split at h;{cases h};{
 next hc=>
 simp only [Option.some.injEq,Prod.mk.injEq] at h;obtain ⟨rfl,rfl⟩:=h;obtain ⟨r1,r2⟩:=V6 oV Uq (lZ n l) (fun s hs=>⟨my,mz en hs⟩) (oV (oB (oV (oT (oT o).2).2).2).2).1.toNat _ s5;have hlen:=sF oV (oV (oB (oV (oT (oT o).2).2).2).2).1.toNat (oV (oB (oV (oT (oT o).2).2).2).2).2;have WH:(rL oV (oV (oB (oV (oT (oT o).2).2).2).2).1.toNat (oV (oB (oV (oT (oT o).2).2).2).2).2).1.length<=50:=by rw [hlen];simp only [not_or,Int.not_lt] at hc;omega
 exact ⟨⟨t0.1,t1.1,by have:=t0.2;simp only;omega,by have:=t1.2;simp only;omega,by simp only;omega,rfl,my,my,my,r1,m0⟩,mz en (mz en r2),WH⟩}
theorem zF {n:Nat} (en:l.length=n) (hb:bM l) (hl:n<=1048576) (k:Nat) (hs:lZ n l o) (h:iY k o=some (ns,o')):(∀ nd∈ns,RgN nd)/\lZ n l o'/\ns.length=k:=by
 induction k generalizing ns o' with
 | zero=>
  simp only [iY,Option.some.injEq,Prod.mk.injEq] at h;obtain ⟨rfl,rfl⟩:=h;exact ⟨fun nd aV=>(by simp at aV),hs,rfl⟩
 | succ k ih=>
  rw [iY] at h;cases h1:iY k o with
  | none=>rw [h1] at h;cases h
  | some r=>
   obtain ⟨r1,r2⟩:=r;rw [h1] at h;obtain ⟨g1,g2,g3⟩:=ih h1;simp only [Option.bind_some] at h;cases h2:ni r2 with
   | none=>rw [h2] at h;cases h
   | some q=>
    obtain ⟨q1,q2⟩:=q;rw [h2] at h;simp only [Option.map_some,Option.some.injEq,Prod.mk.injEq] at h;obtain ⟨rfl,rfl⟩:=h;obtain ⟨e1,e2,-⟩:=Vk en hb hl g2 h2;refine ⟨fun nd aV=>?_,e2,by rw [List.length_append,g3];rfl⟩;rcases List.mem_append.1 aV with aV | aV;{exact g1 nd aV};{rw [List.mem_singleton] at aV;rw [aV];exact e1}
def Okf {α:Type} (f:Rs->α × Rs) (P:α->Prop):Prop:=∀ s:Rs,bM s.1->s.1.length<=1048576->P (f s).1/\bM (f s).2.1/\(f s).2.1.length<=s.1.length/\((f s).2.2=false->(f s).2.1.length<s.1.length)
theorem jU:Okf jV Uq:=fun s hb hl=>by
 obtain ⟨h1,h2,h3,h4⟩:=DS 10 0 0 s.1 s.2 hb ab;refine ⟨⟨h3,h4⟩,h1,h2,fun hs=>?_⟩;obtain ⟨m,sh⟩:=s;cases m with
 | nil=>
  have:(jV (([],sh):Rs)).2.2=true:=by unfold jV;show (sN 10 0 0 [] sh).2.2=true;rw [sN];simp [sB]
  rw [this] at hs;cases hs
 | cons c t=>
  show (sN 10 0 0 (c::t) sh).2.1.length<_;rw [sN];split;{simp [sB]};{have:=(DS 9 (0+1) (al6 0 0 c) t sh (fun z hz=>hb z (by simp [hz])) (sK _ _ _)).2.1;simp only [sB,List.length_cons];omega}
theorem WX {α:Type} {f:Rs->α × Rs} {P:α->Prop} (hf:Okf f P):∀ (k:Nat) (acc:List α) (s:Rs),bM s.1->s.1.length<=1048576->(∀ x∈acc,P x)->(∀ x∈(vC f k acc s).1,P x)/\bM (vC f k acc s).2.1/\(vC f k acc s).2.1.length<=s.1.length/\(vC f k acc s).1.length<=acc.length+s.1.length
 | 0,acc,s,hb,hl,ha=>⟨ha,hb,Nat.le_refl _,Nat.le_add_right _ _⟩
 | k+1,acc,s,hb,hl,ha=>by
  obtain ⟨h1,h2,h3,h4⟩:=hf s hb hl;rw [vC];split;{exact ⟨fun x hx=>(by simp at hx),h2,h3,Nat.zero_le _⟩};{
 next hs=>
 have uS:(f s).2.2=false:=by simpa using hs
 have h5:=h4 uS;obtain ⟨g1,g2,g3,g4⟩:=WX hf k (acc++[(f s).1]) (f s).2 h2 ab fun x hx=>by rcases List.mem_append.1 hx with hx | hx;{exact ha x hx};{rw [List.mem_singleton] at hx;rw [hx];exact h1}
 refine ⟨g1,g2,ab,?_⟩;rw [List.length_append] at g4;simp only [List.length_cons,List.length_nil] at g4;omega}
theorem CF {α:Type} {f:Rs->α × Rs} {P:α->Prop} (hf:Okf f P) (s:Rs) (hb:bM s.1) (hl:s.1.length<=1048576):(∀ x∈(lF f s).1,P x)/\bM (lF f s).2.1/\(lF f s).2.1.length<=s.1.length/\(lF f s).1.length<=s.1.length:=by
 obtain ⟨h1,h2,h3,h4⟩:=jU s hb hl;obtain ⟨g1,g2,g3,g4⟩:=WX hf (jV s).1.toNat [] (jV s).2 h2 ab fun x hx=>(by simp at hx);simp only [List.length_nil] at g4;exact ⟨g1,g2,Nat.le_trans g3 h3,by unfold lF;omega⟩
def aK8 (s:aY):Prop:=Uq s.1/\s.2=(0,[])
theorem Hf:Okf NS aK8:=fun s hb hl=>by
 obtain ⟨h1,h2,h3,h4⟩:=jU s hb hl;exact ⟨⟨h1,rfl⟩,h2,h3,h4⟩
theorem Hn:Okf Hy RgN:=fun s hb hl=>by
 obtain ⟨a1,a2,a3,a4⟩:=Ab (sh:=s.2) hb;obtain ⟨b1,b2,b3,b4⟩:=Ab (sh:=(sT s.1 s.2).2.2) a2;obtain ⟨c1,c2,c3,c4⟩:=jU (sT (sT s.1 s.2).2.1 (sT s.1 s.2).2.2).2 b2 ab;obtain ⟨d1,d2,d3,d4⟩:=Ai (sh:=(jV (sT (sT s.1 s.2).2.1 (sT s.1 s.2).2.2).2).2.2) c2;obtain ⟨e1,e2,e3,e4⟩:=CF jU (sB (jV (sT (sT s.1 s.2).2.1 (sT s.1 s.2).2.2).2).2.1 (jV (sT (sT s.1 s.2).2.1 (sT s.1 s.2).2.2).2).2.2).2 d1 ab;obtain ⟨f1,f2,f3,f4⟩:=jU (lF jV (sB (jV (sT (sT s.1 s.2).2.1 (sT s.1 s.2).2.2).2).2.1 (jV (sT (sT s.1 s.2).2.1 (sT s.1 s.2).2.2).2).2.2).2).2 e2 ab;obtain ⟨g1,g2,g3,g4⟩:=jU (jV (lF jV (sB (jV (sT (sT s.1 s.2).2.1 (sT s.1 s.2).2.2).2).2.1 (jV (sT (sT s.1 s.2).2.1 (sT s.1 s.2).2.2).2).2.2).2).2).2 f2 ab;refine ⟨⟨a1,b1,by show _<=_;simp only [Hy];omega,by show _<=_;simp only [Hy];omega,by show _<=_;simp only [Hy];omega,rfl,c1,f1,g1,e1,⟨d2,d3⟩⟩,g2,?_,fun hs=>?_⟩;{show (jV (jV (lF jV (sB (jV (sT (sT s.1 s.2).2.1 (sT s.1 s.2).2.2).2).2.1 (jV (sT (sT s.1 s.2).2.1 (sT s.1 s.2).2.2).2).2.2).2).2).2).2.1.length<=_;omega};{have:=g4 hs;show (jV (jV (lF jV (sB (jV (sT (sT s.1 s.2).2.1 (sT s.1 s.2).2.2).2).2.1 (jV (sT (sT s.1 s.2).2.1 (sT s.1 s.2).2.2).2).2.2).2).2).2).2.1.length<_;omega}
theorem DT (h:jY e g x t ss ns=true) (hr:∀ nd∈ns,RgN nd):Oc ss ns:=
 O1 h (fun nd aV=>⟨(hr nd aV).ho,fun i hi=>by rw [(hr nd aV).l7] at hi;simp at hi⟩) (fun nd aV=>(hr nd aV).ow) (fun nd aV=>⟨(hr nd aV).ep,(hr nd aV).ge⟩)
theorem SE (hb:bM l) (hl:l.length<=1048576):iZ l=jZ l:=by
 have tu:∀ s,iZ l=some s->jZ l=some s:=fun s h=>by
  rw [iZ] at h;cases hr:CN l with
  | none=>rw [hr] at h;cases h
  | some r=>
   rw [hr,Option.bind_some] at h;split at h;{
 next hc=>
 obtain ⟨⟨e,g,x⟩,ss,ns,o⟩:=r;simp only [Option.some.injEq] at h hc;obtain ⟨-,iJ,hB⟩:=hc;have dz:=hr;rw [CN] at dz;simp only at dz;have q1:=lZ.start (n:=l.length) (l:=l) rfl;have q2:=mz rfl q1;have q3:=mz rfl q2;have q4:=mz rfl q3;have q5:=mz rfl q4;split at dz;{cases dz};{
 obtain ⟨u1,u2⟩:=V6 oV Uq (lZ l.length l) (fun s hs=>⟨my,mz rfl hs⟩) (oV (oV (oV (oV (some l)).2).2).2).1.toNat _ q5;split at dz;{cases dz};{
 rw [Option.map_eq_some_iff] at dz;obtain ⟨⟨r1,r2⟩,h3,h4⟩:=dz;obtain ⟨v1,-,-⟩:=zF rfl hb hl _ (mz rfl u2) h3;simp only [Prod.mk.injEq] at h4;obtain ⟨⟨rfl,rfl,rfl⟩,rfl,rfl,rfl⟩:=h4;have hS:=DT iJ v1;have z1:=my (om:=some l);have z2:=my (om:=(oV (some l)).2);have z3:=my (om:=(oV (oV (some l)).2).2);have w1:∀ s∈((rL oV (oV (oV (oV (oV (some l)).2).2).2).1.toNat (oV (oV (oV (oV (some l)).2).2).2).2).1.map JA),s.2=(0,[]):=fun s hs=>by
  obtain ⟨i,-,rfl⟩:=List.mem_map.1 hs
  rfl
 have him:=GF (e:=(oV (some l)).1.toNat) (g:=(oV (oV (some l)).2).1.toNat) (x:=(oV (oV (oV (some l)).2).2).1.toNat) (by have:=z1.2;have:=z1.1;omega) (by have:=z2.2;have:=z2.1;omega) (by have:=z3.2;have:=z3.1;omega) hS w1 (fun nd aV=>(v1 nd aV).l7);rw [hB,Int.toNat_of_nonneg z1.1,Int.toNat_of_nonneg z2.1,Int.toNat_of_nonneg z3.1] at him;rw [jZ];simp only [him];rw [if_pos ⟨trivial,by rw [encR,if_pos iJ];exact hB⟩,<-h]}}};{cases h}
 have fro:∀ s,jZ l=some s->iZ l=some s:=fun s h=>by
  rw [jZ] at h;split at h;{
 next hc=>
 obtain ⟨Z9,hE⟩:=hc;have iJ:jY (kr l).1.1 (kr l).1.2.1 (kr l).1.2.2 0 (kr l).2.1 (kr l).2.2.1=true:=by by_cases hk:jY (kr l).1.1 (kr l).1.2.1 (kr l).1.2.2 0 (kr l).2.1 (kr l).2.2.1=true;{exact hk};{rw [encR,if_neg hk] at hE;rw [<-hE,Lo] at Z9;cases Z9}
 rw [encR,if_pos iJ] at hE;obtain ⟨a1,a2,a3,-⟩:=jU (l,false) hb hl;obtain ⟨b1,b2,b3,-⟩:=jU (jV (l,false)).2 a2 (by simp only at a3;omega);obtain ⟨c1,c2,c3,-⟩:=jU (jV (jV (l,false)).2).2 b2 (by simp only at a3;omega);obtain ⟨d1,d2,d3,-⟩:=CF Hf (jV (jV (jV (l,false)).2).2).2 c2 (by simp only at a3;omega);obtain ⟨e1,-⟩:=CF Hn (lF NS (jV (jV (jV (l,false)).2).2).2).2 d2 (by simp only at a3;omega);have hS:=DT iJ e1;have JY:=SG (e:=(kr l).1.1.toNat) (g:=(kr l).1.2.1.toNat) (x:=(kr l).1.2.2.toNat) (by have:=a1.2;have:=a1.1;show (jV (l,false)).1.toNat<_;omega) (by have:=b1.2;have:=b1.1;show (jV (jV (l,false)).2).1.toNat<_;omega) (by have:=c1.2;have:=c1.1;show (jV (jV (jV (l,false)).2).2).1.toNat<_;omega) hS (fun s hs=>(d1 s hs).2) (fun nd aV=>(e1 nd aV).l7);rw [hE,Int.toNat_of_nonneg (show 0<=(kr l).1.1 from a1.1),Int.toNat_of_nonneg (show 0<=(kr l).1.2.1 from b1.1),Int.toNat_of_nonneg (show 0<=(kr l).1.2.2 from c1.1)] at JY;rw [iZ,JY,Option.bind_some,if_pos ⟨aU,iJ,hE⟩];exact h};{cases h}
 cases h:iZ l with
 | some s=>exact (tu s h).symm
 | none=>
  cases h2:jZ l with
  | none=>rfl
  | some s=>rw [fro s h2] at h;cases h
theorem oU {ls:List (List Int)} (h:∀ l∈ls,bM l):bM (cat ls):=fun z hz=>by
 rw [cat,List.mem_flatten] at hz;obtain ⟨l,hl,hz⟩:=hz;exact h l hl z hz
theorem uv (h:Uq i):bM (mE i):=jQ (by have:=h.1;have:=h.2;omega)
theorem Vc (h:bM l) (hl:l.length<18446744073709551616):bM (tx l):=bM.app (jQ hl) h
theorem Re (h:RgN nd):bM (km nd):=by
 rw [km,UQ];refine oU fun l hl=>?_;simp only [List.mem_cons,List.not_mem_nil,or_false] at hl;rcases hl with rfl | rfl | rfl | rfl | rfl | rfl | rfl;{exact Vc h.by0 (by have:=h.l0;omega)};{exact Vc h.by1 (by have:=h.l1;omega)};{exact uv h.ow};{intro z hz;rw [List.mem_singleton] at hz;rw [hz];exact h.mo};{rw [rR];refine oU fun l hl=>?_;rcases List.mem_cons.1 hl with rfl | hl;{exact jQ (by have:=h.l4;omega)};{obtain ⟨i,hi,rfl⟩:=List.mem_map.1 hl;exact uv (h.ho i hi)}};{exact uv h.ep};{exact uv h.ge}
theorem QV {e g x:Nat} (he:e<18446744073709551616) (hg:g<18446744073709551616) (hx:x<18446744073709551616) (h:Oc ss ns) (hr:∀ nd∈ns,RgN nd):bM (vN e g x ss ns):=by
 have n1:=h.n1;have n2:=h.n2;rw [vN];refine oU fun l hl=>?_;simp only [List.mem_cons,List.not_mem_nil,or_false] at hl;rcases hl with rfl | rfl | rfl | rfl | rfl;{exact jQ he};{exact jQ hg};{exact jQ hx};{rw [rR];refine oU fun l hl=>?_;rcases List.mem_cons.1 hl with rfl | hl;{exact jQ ab};{obtain ⟨s,hs,rfl⟩:=List.mem_map.1 hl;exact uv (h.s s hs)}};{rw [rR];refine oU fun l hl=>?_;rcases List.mem_cons.1 hl with rfl | hl;{exact jQ ab};{obtain ⟨nd,aV,rfl⟩:=List.mem_map.1 hl;exact Re (hr nd aV)}}
theorem fu {w w':World} {o:Obj} (h:w.heap[b]?=some o) (hb:Bw w w'):w'.heap[b]?=some o:=(hb.block b (Array.getElem?_eq_some_iff.1 h).1).trans h
theorem Sl (w:World) (o:Obj):(w.alloc o).heap[w.heap.size]?=some o:=by unfold World.alloc;simp
theorem GU {w w':World} (ho:Own B w v l) (hg:w.grownBy w' v.ownBlock):∀ (b:Nat) (cs:Array Value) (t:TypeId),t≠5->w.heap[b]?=some (.cells cs t)->w'.heap[b]?=some (.cells cs t):=fun b cs t ht h=>by
 refine (hg.block b (Array.getElem?_eq_some_iff.1 h).1 fun e=>?_).trans h;rcases ho.2 with ⟨rfl,-⟩ | ⟨g,cap,cur,rfl,-,hh,-⟩;{simp [Value.ownBlock] at e};{simp only [Value.ownBlock,Option.some.injEq] at e;subst e;rw [h] at hh;simp only [Option.some.injEq,Obj.cells.injEq] at hh;exact ht hh.2.1}
def aj8 (w w':World):Prop:=∀ (b:Nat) (cs:Array Value) (t:TypeId),t≠5->w.heap[b]?=some (.cells cs t)->w'.heap[b]?=some (.cells cs t)
theorem gW {w0 w:World} {o:Oper} {Q:Exit->Act->World->Prop} (jK:o.guard=none) (s x:Operand)
  (ho:o.op=.call { callee:=.builtin .append,args:=#[s,x],argTypes:=#[22,22] })
  (hB:Hid (Bw w0 w)) (v:Value) (l m lm:List Int) (Gf:Hid (lm=l++m)) (p:Option Addr) (c k:Nat) (hk:Hid (m.length=k)) (L:Nat) (eL:Hid (l.length=L)) (L':Nat) (eL':Hid (L'=L+k)) (hs:a.eval s=v) (hx:a.eval x=.S p k c) (br:Hid (Own w0.heap.size w v l)) (hr:Hid (Rd w (.S p k c) m))
  (hl:L+k<=4194304)
  (hK:∀ p' c' w',Hid (Own w0.heap.size w' (.S p' L' c') lm)->Hid (lm.length=L')->Hid (Bw w0 w')->Hid (aj8 w w')->wpList prog ops Q rest (a.put o.dst (.S p' L' c')) w'):wpList prog ops Q (o::rest) a w:=by
 have e1:lm.length=L':=by rw [aa Gf,List.length_append,aa eL,aa hk,aa eL']
 refine ru jK s x ho w0.heap.size v l m lm Gf p c k hk hs hx (aa br) (aa hr) (by rw [aa eL,aa hk];exact hl) hB.size ?_;intro p' c' w' h1 h2;rw [e1] at h1 ⊢;exact hK p' c' w' h1 e1 (below_grown hB h2 br aA hB.size) (GU br h2)
theorem JC {o:Oper} {Q:Exit->Act->World->Prop} (jK:o.guard=none) (s x:Operand)
  (ho:o.op=.call { callee:=.builtin .append,args:=#[s,x],argTypes:=#[22,22] })
  (hB:Hid (Bw w0 u)) (v:Value) (l lm:List Int) (y:Int) (Gf:Hid (lm=l++[y])) (L:Nat) (eL:Hid (l.length=L)) (L':Nat) (eL':Hid (L'=L+1)) (hs:a.eval s=v) (hx:a.eval x=.S (some ⟨u.heap.size,0,none⟩) 1 1) (br:Hid (Own w0.heap.size u v l))
  (hl:L<4194304)
  (hK:∀ p' c' w',Hid (Own w0.heap.size w' (.S p' L' c') lm)->Hid (lm.length=L')->Hid (Bw w0 w')->Hid (aj8 u w')->wpList prog ops Q rest (a.put o.dst (.S p' L' c')) w'):wpList prog ops Q (o::rest) a (u.alloc (.cells #[.int .u8 y] 5)):=by
 have e1:lm.length=L':=by rw [aa Gf,List.length_append,aa eL,aa eL'];rfl
 have hb:Bw u (u.alloc (.cells #[.int .u8 y] 5)):=aJ.alloc aA _;have vF:=br.below hb;have jL:=ah hB hb;refine ga jK s x ho w0.heap.size v l lm y Gf u.heap.size hs hx vF aU (by rw [aa eL];exact hl) jL.size ?_;intro p' c' w' h1 h2;rw [e1] at h1 ⊢;exact hK p' c' w' h1 e1 (below_grown jL h2 vF aA jL.size) fun b cs t ht h=>GU vF h2 b cs t ht (fu h hb)
theorem lX.gu {w:World} {S N:Value} (h:w.heap[b]?=some (.cells #[.U e,.U g,.U x,.I t,S,N] ty)):lX w b e g x t S N:=⟨ay h 0,ay h 1,ay h 2,ay h 3,ay h 4,ay h 5⟩
theorem Ju.gu {w:World} (h:w.heap[b]?=some (.cells #[v0,v1,v2,v3,v4,v5,v6,v7] ty)):Ju w b v0 v1 v2 v3 v4 v5 v6 v7:=⟨ay h 0,ay h 1,ay h 2,ay h 3,ay h 4,ay h 5,ay h 6,ay h 7⟩
theorem vJ (v:Nat) (w:World) (XF:v<18446744073709551616) (M:Nat) (eM:Hid ((vi v).length=M)) :
  Calls prog 124 #[.U v] w fun e w'=>∃ p' c',e=.returned (.S p' M c')/\Own w.heap.size w' (.S p' M c') (vi v)/\Bw w w':=Ct 9 v w ab XF ab M eM
theorem qC {α:Type} (f:α->List Int) {l:List α} {y:α} (h:l[k]?=some y):cat ((l.take (k+1)).map f)=cat ((l.take k).map f)++f y:=by
 rw [List.take_add_one,h,List.map_append,cat,List.flatten_append,cat];simp
theorem al4 (e g x:Nat) (ss:List aY) (ns:List aD):vN e g x ss ns=((((vi e++vi g)++vi x)++vi ss.length)++cat (ss.map sM)++vi ns.length)++cat (ns.map km):=by
 rw [vN,qo,qo];simp [cat]
theorem am9 (nd:aD):km nd=((((((tx nd.path++tx nd.value)++mE nd.owner)++[nd.mode])++vi nd.holders.length)++cat (nd.holders.map mE))++mE nd.aB)++mE nd.gen:=by
 rw [km,UQ,qo];simp [cat,mE]
theorem Gz (e g x:Nat) (t:Int) (he:e<18446744073709551616) (hg:g<18446744073709551616) (hx:x<18446744073709551616) (p q:Option Addr) (c n d m:Nat) (ss:List aY) (ns:List aD) (en:Hid (ss.length=n)) (em:Hid (ns.length=m)) (w:World) (h:RdS w (.S p n c) ss) (hN:kJ w (.S q m d) ns) (HS:Hid (Sn ss ns)) (N:Nat) (eN:Hid ((vN e g x ss ns).length=N)) :
  Calls prog 64 #[cY e g x t (.S p n c) (.S q m d)] w fun r w'=>∃ p' c',r=.returned (.S p' N c')/\Own w.heap.size w' (.S p' N c') (vN e g x ss ns)/\Bw w w':=by
 have HR:=ae fun (w':World) (hb:Bw w w')=>ag (h.below hb) (hN.below hb);clear h hN;have hn5:n<=51:=by have:=HS.n1;rw [aa en] at this;exact this
 have hm5:m<=201:=by have:=HS.n2;rw [aa em] at this;exact this
 have wn:IntKind.u64.wrap (n:Int)=(n:Int):=by rw [IntKind.wrap_u64];omega
 have wm:IntKind.u64.wrap (m:Int)=(m:Int):=by rw [IntKind.wrap_u64];omega
 obtain ⟨M0,f0⟩:∃ M,Hid ((vi e).length=M):=⟨_,cw⟩;have hM0:M0<=10:=by have:=(gh e).2;rw [aa f0] at this;exact this
 obtain ⟨M1,f1⟩:∃ M,Hid ((vi g).length=M):=⟨_,cw⟩;have hM1:M1<=10:=by have:=(gh g).2;rw [aa f1] at this;exact this
 obtain ⟨M2,f2⟩:∃ M,Hid ((vi x).length=M):=⟨_,cw⟩;have hM2:M2<=10:=by have:=(gh x).2;rw [aa f2] at this;exact this
 obtain ⟨M3,f3⟩:∃ M,Hid ((vi n).length=M):=⟨_,cw⟩;have hM3:M3<=10:=by have:=(gh n).2;rw [aa f3] at this;exact this
 obtain ⟨M5,f5⟩:∃ M,Hid ((vi m).length=M):=⟨_,cw⟩;have hM5:M5<=10:=by have:=(gh m).2;rw [aa f5] at this;exact this
 obtain ⟨A1,MI⟩:∃ l,Hid (l=vi e++vi g):=⟨_,cw⟩;obtain ⟨A2,hA2⟩:∃ l,Hid (l=A1++vi x):=⟨_,cw⟩;obtain ⟨A3,Yv⟩:∃ l,Hid (l=A2++vi n):=⟨_,cw⟩;obtain ⟨W,hW⟩:=ax (w.alloc (.cells #[.U e,.U g,.U x,.I t,.S p n c,.S q m d] 27));have BW:Hid (Bw w W):=by rw [hW];exact aJ.alloc aA _
 have KW:Hid (W.heap[w.heap.size]?=some (.cells #[.U e,.U g,.U x,.I t,.S p n c,.S q m d] 27)):=by rw [hW];exact Sl _ _
 go_enter func64,ntmps64;go_wp2_with fail;rw [<-hW];clear hW;refine (vJ e _ he M0 f0).mono ?_;rintro z9 y1 ⟨py1,cy1,rfl,oy1,ad5⟩;have By1:=ae (ah BW ad5);have Ky1:=ae (fu KW ad5);have Oy1:=ae (Own.mono (B':=w.heap.size) oy1 BW.size);clear oy1 ad5 BW KW;obtain ⟨i0,i1,i2,i3,i4,i5⟩:=lX.gu Ky1;go_wp2_with fail;refine (vJ g _ hg M1 f1).mono ?_;rintro z9 y2 ⟨py2,cy2,rfl,oy2,ad2⟩;have Oy2:=ae (Own.below Oy1 ad2);have By2:=ae (ah By1 ad2);have Ky2:=ae (fu Ky1 ad2);have Ry2:=ae oy2.rd;clear oy2 ad2 By1 Ky1 Oy1;clear i0 i1 i2 i3 i4 i5;obtain ⟨Ly3,br6,cF8⟩:∃ y,Hid (y=M0+M1)/\y<=M0+M1:=⟨_,cw,Nat.le_refl _⟩;go_wp2_with (at_builtin;refine gW rfl _ _ rfl By2 (.S py1 M0 cy1) (vi e) (vi g) A1 MI py2 cy2 M1 f1 M0 f0 Ly3 br6 rfl rfl Oy2 Ry2 ab ?_);intro bl3 bz0 y3 Oy3 bv6 By3 aR8;have Ky3:=ae (aa aR8 _ _ _ bl Ky2);clear aR8 Oy2 By2 Ky2;obtain ⟨i0,i1,i2,i3,i4,i5⟩:=lX.gu Ky3;go_wp2_with fail;refine (vJ x _ hx M2 f2).mono ?_;rintro z9 y4 ⟨py4,cy4,rfl,oy4,ad1⟩;have Oy4:=ae (Own.below Oy3 ad1);have By4:=ae (ah By3 ad1);have Ky4:=ae (fu Ky3 ad1);have Ry4:=ae oy4.rd;clear oy4 ad1 By3 Ky3 Oy3;clear i0 i1 i2 i3 i4 i5;obtain ⟨Ly5,br5,cF7⟩:∃ y,Hid (y=Ly3+M2)/\y<=Ly3+M2:=⟨_,cw,Nat.le_refl _⟩;go_wp2_with (at_builtin;refine gW rfl _ _ rfl By4 (.S bl3 Ly3 bz0) A1 (vi x) A2 hA2 py4 cy4 M2 f2 Ly3 bv6 Ly5 br5 rfl rfl Oy4 Ry4 ab ?_);intro bl2 by9 y5 Oy5 bv5 By5 aR7;have Ky5:=ae (aa aR7 _ _ _ bl Ky4);clear aR7 Oy4 By4 Ky4;obtain ⟨i0,i1,i2,i3,i4,i5⟩:=lX.gu Ky5;go_wp2_with fail;refine (vJ n _ ab M3 f3).mono ?_;rintro z9 y6 ⟨py6,cy6,rfl,oy6,ad0⟩;have Oy6:=ae (Own.below Oy5 ad0);have By6:=ae (ah By5 ad0);have Ky6:=ae (fu Ky5 ad0);have Ry6:=ae oy6.rd;clear oy6 ad0 By5 Ky5 Oy5;clear i0 i1 i2 i3 i4 i5;obtain ⟨Ly7,br4,cF6⟩:∃ y,Hid (y=Ly5+M3)/\y<=Ly5+M3:=⟨_,cw,Nat.le_refl _⟩;go_wp2_with (at_builtin;refine gW rfl _ _ rfl By6 (.S bl2 Ly5 by9) A2 (vi n) A3 Yv py6 cy6 M3 f3 Ly5 bv5 Ly7 br4 rfl rfl Oy6 Ry6 ab ?_);intro cp4 cE8 y7 Oy7 bv4 By7 aR6;have Ky7:=ae (aa aR6 _ _ _ bl Ky6);clear aR6 Oy6 By6 Ky6;have lA3:Hid (A3.length=Ly7):=bv4;have bA3:Ly7<=40:=ab;obtain ⟨i0,i1,i2,i3,i4,i5⟩:=lX.gu Ky7;go_wp2;clear i0 i1 i2 i3 i4 i5
 go_loopw [3,4] (fun ov iv wr=>∃ (k:Nat) (po:Option Addr) (co L:Nat),k<=n/\ov=.S po L co/\iv=.I k/\L<=40+10*k/\Hid ((A3++cat ((ss.take k).map sM)).length=L)/\Hid (Own w.heap.size wr (.S po L co) (A3++cat ((ss.take k).map sM)))/\Hid (wr.heap[w.heap.size]?=some (.cells #[.U e,.U g,.U x,.I t,.S p n c,.S q m d] 27))/\Hid (Bw w wr)) (fun _ iv _=>n-(intOf iv).toNat)
 case atStart=>exact ⟨0,_,_,_,Nat.zero_le _,rfl,rfl,ab,(by show _=_;simp only [List.take_zero,List.map_nil,vg,List.append_nil];exact aa lA3),(by show Own _ _ _ _;simp only [List.take_zero,List.map_nil,vg,List.append_nil];exact aa Oy7),Ky7,By7⟩
 case round =>(
 clear Oy7 Ky7 By7;obtain ⟨k,po,co,L,hk,rfl,rfl,hLk,eL,Or,Kr,Br⟩:=hrel;by_cases bj:k<n;{
 have da:=aT k n;have fL:k<ss.length:=by rw [aa en];exact bj
 obtain ⟨sk0,hy⟩:∃ y,ss[k]?=some y:=⟨_,aK fL⟩;have hi:=HS.s _ (aF hy);obtain ⟨v,ev⟩:∃ v:Nat,sk0.1=(v:Int):=⟨sk0.1.toNat,ab⟩;obtain ⟨b,o,rfl,Yh⟩:∃ b o,p=some ⟨b,o,none⟩/\wr.cell? ⟨b,o+k*3,none⟩=some (.U v):=by obtain ⟨p',c',evv,hd⟩:=(aa HR _ Br).1;simp only [Value.slice.injEq] at evv;obtain ⟨rfl,-,-⟩:=evv;rcases hd with h0 | ⟨b,o,h1,h2⟩;{rw [h0] at fL;simp at fL};{exact ⟨b,o,h1,by rw [<-ev];exact (h2 k _ hy).1⟩}
 rw [ev] at hi;have eS:Hid (sM sk0=vi v):=by show _=_;rw [sM,ev];rfl
 obtain ⟨M,eM⟩:∃ M,Hid ((vi v).length=M):=⟨_,cw⟩;have hM:M<=10:=by have:=(gh v).2;rw [aa eM] at this;exact this
 obtain ⟨A,hA⟩:∃ A,Hid (A=A3++cat ((ss.take k).map sM)):=⟨_,cw⟩;rw [<-aa hA] at eL Or;obtain ⟨AA,hAA⟩:∃ l,Hid (l=A++vi v):=⟨_,cw⟩;have EA:Hid (A3++cat ((ss.take (k+1)).map sM)=AA):=by show _=_;rw [aa hAA,aa hA,qC sM hy,aa eS,List.append_assoc]
 have wk:IntKind.i64.wrap ((k:Int)+1)=((k+1:Nat):Int):=by rw [IntWalk.i64_in _ ab];omega
 clear fL hy ev eS;obtain ⟨i0,i1,i2,i3,i4,i5⟩:=lX.gu Kr;go_wp2_with fail;refine (vJ v _ ab M eM).mono ?_;rintro z9 y8 ⟨py8,cy8,rfl,oy8,ac9⟩;have Oy8:=ae (Own.below Or ac9);have By8:=ae (ah Br ac9);have Ky8:=ae (fu Kr ac9);have Ry8:=ae oy8.rd;clear oy8 ac9 Br Kr Or;clear i0 i1 i2 i3 i4 i5;clear Yh;obtain ⟨Ly9,br3,cF5⟩:∃ y,Hid (y=L+M)/\y<=L+M:=⟨_,cw,Nat.le_refl _⟩;go_wp2_with (at_builtin;refine gW rfl _ _ rfl By8 (.S po L co) A (vi v) AA hAA py8 cy8 M eM L eL Ly9 br3 rfl rfl Oy8 Ry8 ab ?_);intro cp3 cE7 y9 Oy9 bv3 By9 aR5;have Ky9:=ae (aa aR5 _ _ _ bl Ky8);clear aR5 Oy8 By8 Ky8;obtain ⟨i0,i1,i2,i3,i4,i5⟩:=lX.gu Ky9;go_wp2;go_roundw
 case rel=>exact ⟨k+1,_,_,_,ab,rfl,by go_num,ab,(by rw [aa EA];exact bv3),(by rw [aa EA];exact Oy9),Ky9,By9⟩
 exact dC};{
 have da:=dy k n;have Ex:n=k:=ab;subst Ex;rw [List.take_of_length_le (by rw [aa en];exact Nat.le_refl _)] at eL Or;obtain ⟨A4,hA4⟩:∃ A,Hid (A=A3++cat (ss.map sM)):=⟨_,cw⟩;rw [<-aa hA4] at eL Or;obtain ⟨A5,hA5⟩:∃ A,Hid (A=A4++vi m):=⟨_,cw⟩;clear hk bj;obtain ⟨i0,i1,i2,i3,i4,i5⟩:=lX.gu Kr;go_wp2_with fail;refine (vJ m _ ab M5 f5).mono ?_;rintro z9 y10 ⟨bk8,by3,rfl,ax7,Lh⟩;have aO0:=ae (Own.below Or Lh);have aW1:=ae (ah Br Lh);have aR4:=ae (fu Kr Lh);have bC0:=ae ax7.rd;clear ax7 Lh Br Kr Or;clear i0 i1 i2 i3 i4 i5;obtain ⟨aP8,ai2,bZ9⟩:∃ y,Hid (y=L+M5)/\y<=L+M5:=⟨_,cw,Nat.le_refl _⟩;go_wp2_with (at_builtin;refine gW rfl _ _ rfl aW1 (.S po L co) A4 (vi m) A5 hA5 bk8 by3 M5 f5 L eL aP8 ai2 rfl rfl aO0 bC0 ab ?_);intro bJ6 bY2 y11 aN8 aj2 aW0 aj9;have ar8:=ae (aa aj9 _ _ _ bl aR4);clear aj9 aO0 aW1 aR4;have bA5:aP8<=600:=ab;have EN:Hid (vN e g x ss ns=A5++cat (ns.map km)):=by show _=_;rw [al4,aa hA5,aa hA4,aa Yv,aa hA2,aa MI,aa en,aa em]
 clear ai2 da;obtain ⟨i0,i1,i2,i3,i4,i5⟩:=lX.gu ar8;go_wp2;clear i0 i1 i2 i3 i4 i5
 go_loopw [3,5] (fun ov iv wr=>∃ (k:Nat) (po:Option Addr) (co L:Nat),k<=m/\ov=.S po L co/\iv=.I k/\L<=600+800*k/\Hid ((A5++cat ((ns.take k).map km)).length=L)/\Hid (Own w.heap.size wr (.S po L co) (A5++cat ((ns.take k).map km)))/\Hid (wr.heap[w.heap.size]?=some (.cells #[.U e,.U g,.U x,.I t,.S p n c,.S q m d] 27))/\Hid (Bw w wr)) (fun _ iv _=>m-(intOf iv).toNat)
 case atStart=>exact ⟨0,_,_,_,Nat.zero_le _,rfl,rfl,ab,(by show _=_;simp only [List.take_zero,List.map_nil,vg,List.append_nil];exact aa aj2),(by show Own _ _ _ _;simp only [List.take_zero,List.map_nil,vg,List.append_nil];exact aa aN8),ar8,aW0⟩
 case round =>(
 clear aN8 ar8 aW0 aj2;obtain ⟨k,po,co,L,hk,rfl,rfl,hLk,eL,Or,Kr,Br⟩:=hrel;by_cases bj:k<m;{
 have da:=aT k m;have fL:k<ns.length:=by rw [aa em];exact bj
 obtain ⟨nd,hy⟩:∃ y,ns[k]?=some y:=⟨_,aK fL⟩;have hi:=HS.d nd (aF hy);have hlen:=(IC HS nd (aF hy)).1;obtain ⟨b,o,rfl,PP,PV,PH,PU,UR⟩:∃ b o,q=some ⟨b,o,none⟩/\∃ P V H U,mY w b (o+k*8) nd P V H U:=by obtain ⟨p',c',ev,hd⟩:=(aa HR _ aJ).2;simp only [Value.slice.injEq] at ev;obtain ⟨rfl,-,-⟩:=ev;rcases hd with h0 | ⟨b,o,h1,h2⟩;{rw [h0] at fL;simp at fL};{exact ⟨b,o,h1,h2 k _ hy⟩}
 obtain ⟨P,eP⟩:=aH nd.path;obtain ⟨V,eV⟩:=aH nd.value;obtain ⟨H,eH⟩:=aH nd.holders;obtain ⟨pA,cA,nA,rfl,eA⟩:=UR.r0.gD;obtain ⟨pB,cB,nB,rfl,eB⟩:=UR.r1.gD;obtain ⟨pD,cD,nD,rfl,eD⟩:=UR.r4.gD;obtain ⟨pU,cU,nU,rfl,-⟩:=UR.r7.gD;obtain ⟨Yh,kH,jF,Rn,DO,Pb,Pa,hc7,-⟩:=UR.below Br;obtain ⟨-,-,-,-,-,-,-,-,q0,q1,q4,-,-⟩:=UR;rw [eP] at q0;rw [eV] at q1;rw [eH] at q4;have QQ:=ae fun (w':World) (hb:Bw w w')=>ag (q0.below hb) (ag (q1.below hb) (q4.below hb));obtain ⟨⟨j1,j2,j3⟩,j4,j5,j6,j7,j8⟩:=hi;rw [aa eA] at j1;rw [aa eB] at j2;rw [aa eD] at j3;have J8:=ae j8;obtain ⟨ow,RU⟩:∃ v:Nat,nd.owner=(v:Int):=⟨nd.owner.toNat,ab⟩;obtain ⟨ep,X6⟩:∃ v:Nat,nd.aB=(v:Int):=⟨nd.aB.toNat,ab⟩;obtain ⟨ge,XZ⟩:∃ v:Nat,nd.gen=(v:Int):=⟨nd.gen.toNat,ab⟩;obtain ⟨mo,XT⟩:∃ v:Int,nd.mode=v:=⟨_,rfl⟩;rw [RU] at jF j5;rw [X6] at Pb j6;rw [XZ] at Pa j7;rw [XT] at Rn j4;rw [eP] at eA;rw [eV] at eB;rw [eH] at eD J8;have EB:Hid (km nd=((((((tx P++tx V)++vi ow)++[mo])++vi nD)++cat (H.map mE))++vi ep)++vi ge):=by show _=_;rw [am9,RU,X6,XZ,XT,eP,eV,eH,mE,mE,mE,aa eD];rfl
 have HY:=ae hy;have wmo:IntKind.u8.wrap mo=mo:=by rw [IntKind.wrap_u8];omega
 have wh:IntKind.u64.wrap (nD:Int)=(nD:Int):=by rw [IntKind.wrap_u64];omega
 have wk:IntKind.i64.wrap ((k:Int)+1)=((k+1:Nat):Int):=by rw [IntWalk.i64_in _ ab];omega
 obtain ⟨T0,t0⟩:∃ M,Hid ((tx P).length=M):=⟨_,cw⟩;obtain ⟨T1,t1⟩:∃ M,Hid ((tx V).length=M):=⟨_,cw⟩;have bT0:T0<=146:=by have:=(py P).2;rw [aa t0,aa eA] at this;omega
 have bT1:T1<=51:=by have:=(py V).2;rw [aa t1,aa eB] at this;omega
 obtain ⟨G0,g0⟩:∃ M,Hid ((vi ow).length=M):=⟨_,cw⟩;have hG0:G0<=10:=by have:=(gh ow).2;rw [aa g0] at this;exact this
 obtain ⟨G1,g1⟩:∃ M,Hid ((vi nD).length=M):=⟨_,cw⟩;have Ph:G1<=10:=by have:=(gh nD).2;rw [aa g1] at this;exact this
 obtain ⟨G2,g2⟩:∃ M,Hid ((vi ep).length=M):=⟨_,cw⟩;have Yr:G2<=10:=by have:=(gh ep).2;rw [aa g2] at this;exact this
 obtain ⟨G3,g3⟩:∃ M,Hid ((vi ge).length=M):=⟨_,cw⟩;have Ru:G3<=10:=by have:=(gh ge).2;rw [aa g3] at this;exact this
 obtain ⟨C,hC⟩:∃ A,Hid (A=A5++cat ((ns.take k).map km)):=⟨_,cw⟩;rw [<-aa hC] at eL Or;obtain ⟨C1,Yu⟩:∃ l,Hid (l=C++tx P):=⟨_,cw⟩;obtain ⟨C2,WD⟩:∃ l,Hid (l=C1++tx V):=⟨_,cw⟩;obtain ⟨C3,hC3⟩:∃ l,Hid (l=C2++vi ow):=⟨_,cw⟩;obtain ⟨C4,hC4⟩:∃ l,Hid (l=C3++[mo]):=⟨_,cw⟩;obtain ⟨C5,hC5⟩:∃ l,Hid (l=C4++vi nD):=⟨_,cw⟩;obtain ⟨C6,hC6⟩:∃ l,Hid (l=C5++cat (H.map mE)):=⟨_,cw⟩;obtain ⟨C7,hC7⟩:∃ l,Hid (l=C6++vi ep):=⟨_,cw⟩;obtain ⟨C8,hC8⟩:∃ l,Hid (l=C7++vi ge):=⟨_,cw⟩;have EC:Hid (A5++cat ((ns.take (k+1)).map km)=C8):=by show _=_;rw [qC km (aa HY),aa EB,aa hC8,aa hC7,aa hC6,aa hC5,aa hC4,aa hC3,aa WD,aa Yu,aa hC];simp only [List.append_assoc]
 clear q0 q1 q4 j8 RU X6 XZ XT eP eV eH fL hy hlen;obtain ⟨i0,i1,i2,i3,i4,i5⟩:=lX.gu Kr;go_wp2_with fail;clear i0 i1 i2 i3 i4 i5 Yh kH jF Rn DO Pb Pa hc7;obtain ⟨X,hX⟩:=ax (wr.alloc (.cells #[.S pA nA cA,.S pB nB cB,.U ow,.I mo,.S pD nD cD,.U ep,.U ge,.S pU nU cU] 38));have Yl:=ju hX;obtain ⟨nb,Zn⟩:=ax wr.heap.size;have NX:Hid (X.heap[nb]?=some (.cells #[.S pA nA cA,.S pB nB cB,.U ow,.I mo,.S pD nD cD,.U ep,.U ge,.S pU nU cU] 38)):=by rw [hX,Zn];exact Sl _ _
 have OX:=ae (Own.below Or Yl);have BX:=ae (ah Br Yl);have KX:=ae (fu Kr Yl);rw [<-hX,<-Zn];clear hX Yl Or Br Kr Zn;refine (sI pA cA nA P eA _ (aa QQ _ BX).1 ab T0 t0).mono ?_;rintro z9 y12 ⟨bk7,by2,rfl,ax6,Mm⟩;have aN6:=ae (Own.below OX Mm);have aV9:=ae (ah BX Mm);have aR3:=ae (fu KX Mm);have aP3:=ae (fu NX Mm);have bB9:=ae ax6.rd;clear ax6 Mm BX KX OX NX;obtain ⟨YT,aC6,bZ8⟩:∃ y,Hid (y=L+T0)/\y<=L+T0:=⟨_,cw,Nat.le_refl _⟩;go_wp2_with (at_builtin;refine gW rfl _ _ rfl aV9 (.S po L co) C (tx P) C1 Yu bk7 by2 T0 t0 L eL YT aC6 rfl rfl aN6 bB9 ab ?_);intro aw5 aH7 y13 aN2 aG1 as5 Zg;have ar7:=ae (aa Zg _ _ _ bl aR3);have ar1:=ae (aa Zg _ _ _ bl aP3);clear Zg aN6 aV9 aR3 aP3;obtain ⟨i0,i1,i2,i3,i4,i5⟩:=lX.gu ar7;obtain ⟨a0,a1,a2,a3,a4,a5,a6,a7⟩:=Ju.gu ar1;go_wp2_with fail;refine (sI pB cB nB V eB _ (aa QQ _ as5).2.1 ab T1 t1).mono ?_;rintro z9 y14 ⟨bk6,bx9,rfl,ax5,Mc⟩;have aN1:=ae (Own.below aN2 Mc);have aV8:=ae (ah as5 Mc);have aR2:=ae (fu ar7 Mc);have aP2:=ae (fu ar1 Mc);have bB8:=ae ax5.rd;clear ax5 Mc as5 ar7 aN2 ar1;clear i0 i1 i2 i3 i4 i5 a0 a1 a2 a3 a4 a5 a6 a7;obtain ⟨YQ,aC5,bZ7⟩:∃ y,Hid (y=YT+T1)/\y<=YT+T1:=⟨_,cw,Nat.le_refl _⟩;go_wp2_with (at_builtin;refine gW rfl _ _ rfl aV8 (.S aw5 YT aH7) C1 (tx V) C2 WD bk6 bx9 T1 t1 YT aG1 YQ aC5 rfl rfl aN1 bB8 ab ?_);intro aw4 aH5 y15 aM7 aG0 aV7 Zf;have ar6:=ae (aa Zf _ _ _ bl aR2);have ar0:=ae (aa Zf _ _ _ bl aP2);clear Zf aN1 aV8 aR2 aP2;obtain ⟨i0,i1,i2,i3,i4,i5⟩:=lX.gu ar6;obtain ⟨a0,a1,a2,a3,a4,a5,a6,a7⟩:=Ju.gu ar0;go_wp2_with fail;refine (vJ ow _ ab G0 g0).mono ?_;rintro z9 y16 ⟨bk5,bx8,rfl,ax4,Ma⟩;have aM5:=ae (Own.below aM7 Ma);have aV6:=ae (ah aV7 Ma);have aR1:=ae (fu ar6 Ma);have aP1:=ae (fu ar0 Ma);have bB7:=ae ax4.rd;clear ax4 Ma aV7 ar6 aM7 ar0;clear i0 i1 i2 i3 i4 i5 a0 a1 a2 a3 a4 a5 a6 a7;obtain ⟨YM,aC4,bZ5⟩:∃ y,Hid (y=YQ+G0)/\y<=YQ+G0:=⟨_,cw,Nat.le_refl _⟩;go_wp2_with (at_builtin;refine gW rfl _ _ rfl aV6 (.S aw4 YQ aH5) C2 (vi ow) C3 hC3 bk5 bx8 G0 g0 YQ aG0 YM aC4 rfl rfl aM5 bB7 ab ?_);intro aw3 aH3 y17 aM4 aF9 aV5 Ze;have ar5:=ae (aa Ze _ _ _ bl aR1);have aq9:=ae (aa Ze _ _ _ bl aP1);clear Ze aM5 aV6 aR1 aP1;obtain ⟨i0,i1,i2,i3,i4,i5⟩:=lX.gu ar5;obtain ⟨a0,a1,a2,a3,a4,a5,a6,a7⟩:=Ju.gu aq9;obtain ⟨YK,aC3,bZ4⟩:∃ y,Hid (y=YM+1)/\y<=YM+1:=⟨_,cw,Nat.le_refl _⟩;go_wp2_with (at_builtin;refine JC rfl _ _ rfl aV5 (.S aw3 YM aH3) C3 C4 mo hC4 YM aF9 YK aC3 rfl rfl aM4 ab ?_);intro aw2 aH2 y18 aM3 aF7 aV4 Y8;have ar4:=ae (aa Y8 _ _ _ bl ar5);have aq8:=ae (aa Y8 _ _ _ bl aq9);clear Y8 aM4 aV5 ar5 aq9;clear i0 i1 i2 i3 i4 i5 a0 a1 a2 a3 a4 a5 a6 a7;obtain ⟨i0,i1,i2,i3,i4,i5⟩:=lX.gu ar4;obtain ⟨a0,a1,a2,a3,a4,a5,a6,a7⟩:=Ju.gu aq8;go_wp2_with fail;refine (vJ nD _ ab G1 g1).mono ?_;rintro z9 y19 ⟨bk4,bx7,rfl,ax3,L9⟩;have aM2:=ae (Own.below aM3 L9);have aV3:=ae (ah aV4 L9);have aQ5:=ae (fu ar4 L9);have aO6:=ae (fu aq8 L9);have bB6:=ae ax3.rd;clear ax3 L9 aV4 ar4 aM3 aq8;clear i0 i1 i2 i3 i4 i5 a0 a1 a2 a3 a4 a5 a6 a7;obtain ⟨aP7,aC2,bZ3⟩:∃ y,Hid (y=YK+G1)/\y<=YK+G1:=⟨_,cw,Nat.le_refl _⟩;go_wp2_with (at_builtin;refine gW rfl _ _ rfl aV3 (.S aw2 YK aH2) C4 (vi nD) C5 hC5 bk4 bx7 G1 g1 YK aF7 aP7 aC2 rfl rfl aM2 bB6 ab ?_);intro bJ5 bY1 y20 aL9 aj1 aV2 Y6;have ar3:=ae (aa Y6 _ _ _ bl aQ5);have aq7:=ae (aa Y6 _ _ _ bl aO6);clear Y6 aM2 aV3 aQ5 aO6;obtain ⟨i0,i1,i2,i3,i4,i5⟩:=lX.gu ar3;obtain ⟨a0,a1,a2,a3,a4,a5,a6,a7⟩:=Ju.gu aq7;go_wp2;clear i0 i1 i2 i3 i4 i5 a0 a1 a2 a3 a4 a5 a6 a7
 go_loopw [3,7] (fun ov kv wr=>∃ (j:Nat) (po:Option Addr) (co L:Nat),j<=nD/\ov=.S po L co/\kv=.I j/\L<=aP7+10*j/\Hid ((C5++cat ((H.take j).map mE)).length=L)/\Hid (Own w.heap.size wr (.S po L co) (C5++cat ((H.take j).map mE)))/\Hid (wr.heap[w.heap.size]?=some (.cells #[.U e,.U g,.U x,.I t,.S p n c,.S (some ⟨b,o,none⟩) m d] 27))/\Hid (wr.heap[nb]?=some (.cells #[.S pA nA cA,.S pB nB cB,.U ow,.I mo,.S pD nD cD,.U ep,.U ge,.S pU nU cU] 38))/\Hid (Bw w wr)) (fun _ kv _=>nD-(intOf kv).toNat)
 case atStart=>exact ⟨0,_,_,_,Nat.zero_le _,rfl,rfl,ab,(by show _=_;simp only [List.take_zero,List.map_nil,vg,List.append_nil];exact aa aj1),(by show Own _ _ _ _;simp only [List.take_zero,List.map_nil,vg,List.append_nil];exact aa aL9),ar3,aq7,aV2⟩
 case round =>(
 clear aL9 ar3 aq7 aV2 aj1 eL;obtain ⟨j,pr,cr,Lr,hj,rfl,rfl,hLj,eLr,Or,Kr,Nr,Br⟩:=hrel;by_cases hlj:j<nD;{
 have bo4:=aT j nD;have Bf:j<H.length:=by rw [aa eD];exact hlj
 obtain ⟨iv,hy⟩:∃ y,H[j]?=some y:=⟨_,aK Bf⟩;have hi:=aa J8 iv (aF hy);obtain ⟨v,rfl⟩:∃ v:Nat,iv=(v:Int):=⟨iv.toNat,ab⟩;obtain ⟨b',o',rfl,hc⟩:∃ b o,pD=some ⟨b,o,none⟩/\wr.cell? ⟨b,o+j,none⟩=some (.U v):=by obtain ⟨p',c',ev,hd⟩:=(aa QQ _ Br).2.2;simp only [Value.slice.injEq] at ev;obtain ⟨rfl,-,-⟩:=ev;rcases hd with h0 | ⟨b,o,h1,h2⟩;{rw [h0] at Bf;simp at Bf};{refine ⟨b,o,h1,?_⟩;have:=h2 j Bf;rw [List.getD_eq_getElem?_getD,hy,Option.getD_some] at this;exact this}
 obtain ⟨M,eM⟩:∃ M,Hid ((vi v).length=M):=⟨_,cw⟩;have hM:M<=10:=by have:=(gh v).2;rw [aa eM] at this;exact this
 obtain ⟨A,hA⟩:∃ A,Hid (A=C5++cat ((H.take j).map mE)):=⟨_,cw⟩;rw [<-aa hA] at eLr Or;obtain ⟨AA,hAA⟩:∃ l,Hid (l=A++vi v):=⟨_,cw⟩;have EA:Hid (C5++cat ((H.take (j+1)).map mE)=AA):=by show _=_;rw [aa hAA,aa hA,qC mE hy,List.append_assoc];rfl
 have wj:IntKind.i64.wrap ((j:Int)+1)=((j+1:Nat):Int):=by rw [IntWalk.i64_in _ ab];omega
 clear Bf hy;obtain ⟨i0,i1,i2,i3,i4,i5⟩:=lX.gu Kr;obtain ⟨a0,a1,a2,a3,a4,a5,a6,a7⟩:=Ju.gu Nr;go_wp2_with fail;refine (vJ v _ ab M eM).mono ?_;rintro z9 y21 ⟨bk3,bx6,rfl,ax2,L5⟩;have aL8:=ae (Own.below Or L5);have aV1:=ae (ah Br L5);have aQ4:=ae (fu Kr L5);have aO5:=ae (fu Nr L5);have bB5:=ae ax2.rd;clear ax2 L5 Br Kr Or Nr;clear i0 i1 i2 i3 i4 i5 a0 a1 a2 a3 a4 a5 a6 a7;clear hc;obtain ⟨bD0,aC1,bZ2⟩:∃ y,Hid (y=Lr+M)/\y<=Lr+M:=⟨_,cw,Nat.le_refl _⟩;go_wp2_with (at_builtin;refine gW rfl _ _ rfl aV1 (.S pr Lr cr) A (vi v) AA hAA bk3 bx6 M eM Lr eLr bD0 aC1 rfl rfl aL8 bB5 ab ?_);intro bJ4 bX8 y22 bC5 aF6 bH1 Y4;have aQ3:=ae (aa Y4 _ _ _ bl aQ4);have aO4:=ae (aa Y4 _ _ _ bl aO5);clear Y4 aL8 aV1 aQ4 aO5;obtain ⟨i0,i1,i2,i3,i4,i5⟩:=lX.gu aQ3;obtain ⟨a0,a1,a2,a3,a4,a5,a6,a7⟩:=Ju.gu aO4;go_wp2;go_roundw
 case rel=>exact ⟨j+1,_,_,_,ab,rfl,by go_num,ab,(by rw [aa EA];exact aF6),(by rw [aa EA];exact bC5),aQ3,aO4,bH1⟩
 exact dC};{
 have bo4:=dy j nD;have ejn:nD=j:=ab;rw [List.take_of_length_le (by rw [aa eD];omega)] at eLr Or;rw [<-aa hC6] at eLr Or;obtain ⟨i0,i1,i2,i3,i4,i5⟩:=lX.gu Kr;obtain ⟨a0,a1,a2,a3,a4,a5,a6,a7⟩:=Ju.gu Nr;go_wp2_with fail;refine (vJ ep _ ab G2 g2).mono ?_;rintro z9 y23 ⟨bk2,bx5,rfl,ax1,LY⟩;have aL7:=ae (Own.below Or LY);have aV0:=ae (ah Br LY);have aQ2:=ae (fu Kr LY);have aO3:=ae (fu Nr LY);have bB4:=ae ax1.rd;clear ax1 LY Br Kr Or Nr;clear i0 i1 i2 i3 i4 i5 a0 a1 a2 a3 a4 a5 a6 a7;obtain ⟨YJ,aC0,bZ1⟩:∃ y,Hid (y=Lr+G2)/\y<=Lr+G2:=⟨_,cw,Nat.le_refl _⟩;go_wp2_with (at_builtin;refine gW rfl _ _ rfl aV0 (.S pr Lr cr) C6 (vi ep) C7 hC7 bk2 bx5 G2 g2 Lr eLr YJ aC0 rfl rfl aL7 bB4 ab ?_);intro aw1 aG9 y24 aL6 aF5 aU9 YY;have ar2:=ae (aa YY _ _ _ bl aQ2);have aq3:=ae (aa YY _ _ _ bl aO3);clear YY aL7 aV0 aQ2 aO3;obtain ⟨i0,i1,i2,i3,i4,i5⟩:=lX.gu ar2;obtain ⟨a0,a1,a2,a3,a4,a5,a6,a7⟩:=Ju.gu aq3;go_wp2_with fail;refine (vJ ge _ ab G3 g3).mono ?_;rintro z9 y25 ⟨bk1,bx0,rfl,ax0,LK⟩;have aL1:=ae (Own.below aL6 LK);have aU8:=ae (ah aU9 LK);have aQ1:=ae (fu ar2 LK);have aO2:=ae (fu aq3 LK);have bB3:=ae ax0.rd;clear ax0 LK aU9 ar2 aL6 aq3;clear i0 i1 i2 i3 i4 i5 a0 a1 a2 a3 a4 a5 a6 a7;obtain ⟨bC9,aB9,bZ0⟩:∃ y,Hid (y=YJ+G3)/\y<=YJ+G3:=⟨_,cw,Nat.le_refl _⟩;go_wp2_with (at_builtin;refine gW rfl _ _ rfl aU8 (.S aw1 YJ aG9) C7 (vi ge) C8 hC8 bk1 bx0 G3 g3 YJ aF5 bC9 aB9 rfl rfl aL1 bB3 ab ?_);intro bJ3 bX7 y26 bC4 aF3 bH0 YX;have aP9:=ae (aa YX _ _ _ bl aQ1);have bC7:=ae (aa YX _ _ _ bl aO2);clear YX aL1 aU8 aQ1 aO2;obtain ⟨i0,i1,i2,i3,i4,i5⟩:=lX.gu aP9;obtain ⟨a0,a1,a2,a3,a4,a5,a6,a7⟩:=Ju.gu bC7;go_wp2;go_roundw
 case rel=>exact ⟨k+1,_,_,_,ab,rfl,by go_num,ab,(by rw [aa EC];exact aF3),(by rw [aa EC];exact bC4),aP9,bH0⟩
 case measure=>simp [intOf];omega})}
 {have da:=dy k m;have ekm:m=k:=ab;subst ekm;rw [List.take_of_length_le (by rw [aa em];exact Nat.le_refl _),<-aa EN] at eL Or;have P7:L=N:=eL.symm.trans eN;subst P7;obtain ⟨i0,i1,i2,i3,i4,i5⟩:=lX.gu Kr;go_wp2;go_ret;exact ⟨po,co,rfl,Or,Br⟩})})
theorem PB.rj {w w':World} {M N z0:Nat} (h:PB w M N v xs A) (hM:z0<M) (hk:∀ z,z≠z0->w'.heap[z]?=w.heap[z]?):PB w' M N v xs A:=
 have k:∀ a∈A,w'.heap[a.b]?=w.heap[a.b]?:=fun a ha=>hk _ (by have:=h.ap.lo a ha;omega)
 ⟨h.rd.keepLv h.lv k,h.cap,h.lv,h.ap.keep k,h.hi⟩
theorem PU.rj {w w':World} {M N z0:Nat} (h:PU w M N v xs A) (hM:z0<M) (hk:∀ z,z≠z0->w'.heap[z]?=w.heap[z]?):PU w' M N v xs A:=
 have k:∀ a∈A,w'.heap[a.b]?=w.heap[a.b]?:=fun a ha=>hk _ (by have:=h.ap.lo a ha;omega)
 ⟨h.rd.keepLv h.lv k,h.lv,h.ap.keep k,h.hi⟩
theorem ua.pu {w:World} {n c:Nat} (h:ua B w (.S p n c) l):∃ A,PU w B w.heap.size (.S p n c) l A:=by
 obtain ⟨A,q1,q2,q3,q4⟩:=KR (kd:=.u64) h;refine ⟨A,?_,q1,q2,fun a ha=>q2.vE.lt ha⟩;rcases h.2 with ⟨e,h0⟩ | ⟨g,cap,cur,e,hb,hg,hr⟩;{rw [e];exact ⟨none,0,by rw [h0],.inl (List.length_eq_zero_iff.1 h0)⟩};{rw [e] at h ⊢;refine ⟨_,cap,rfl,.inr ⟨g,0,rfl,fun i hi=>?_⟩⟩;have:=World.ownsRow.cellAt h i ab;rw [Nat.zero_add,this];simp [List.getD_eq_getElem?_getD,hi]}
theorem jr {w u:World} (h:Below w.heap.size w u) (o:Obj):Below w.heap.size w (u.alloc o):=h.alloc h.size o
theorem Va (v:Nat) (w:World) (XF:v<18446744073709551616) (M:Nat) (eM:Hid ((vi v).length=M)) :
  Calls prog 62 #[.int .u64 v] w fun e w'=>∃ p' c',e=.returned (.slice p' M c')/\Own w.heap.size w' (.slice p' M c') (vi v)/\Below w.heap.size w w':=by
 have e:=aa eM;subst e;exact ku v w XF
theorem Sh {x:Value} {t:TypeId} (h:b=u.heap.size):(u.alloc (.cells #[x] t)).cell? ⟨b,0,none⟩=some x:=by subst h;simp
theorem Sg {o:Nat} (h:u.cell? ⟨b,o,none⟩=some v) (ob:Obj):(u.alloc ob).cell? ⟨b,o,none⟩=some v:=af h (aJ.alloc aA _)
theorem Sc {o:Nat} (h:u.cell? ⟨b,o,none⟩=some v):u.drew.cell? ⟨b,o,none⟩=some v:=h
theorem rd1 (h:u.cell? ⟨b,0,none⟩=some (.int .u8 y)):Rd u (.slice (some ⟨b,0,none⟩) 1 1) [y]:=by
 refine ⟨_,_,rfl,.inr ⟨b,0,rfl,fun i hi=>?_⟩⟩;have e:i=0:=by simpa using hi
 subst e;simpa using h
theorem aa9 (X:World) (v0 v1 v2 v3 v4:Value) (l0 l1 l2 l3 l4 lm:List Int) (N:Nat) (e:Hid (lm=cat [l0,l1,l2,l3,l4])) (en:Hid (lm.length=N)) (r0:Rd X v0 l0) (r1:Rd X v1 l1) (r2:Rd X v2 l2) (r3:Rd X v3 l3) (r4:Rd X v4 l4) (hl:N<=4194304) (G:Nat) (hG:G=X.heap.size) :
  Calls prog 61 #[.slice (some ⟨G,0,none⟩) 5 5] (X.alloc (.cells #[v0,v1,v2,v3,v4] 22)) fun e w'=>∃ p' c',e=.returned (.slice p' N c')/\Own X.heap.size w' (.slice p' N c') lm/\Below X.heap.size X w':=by
 subst hG;have ba:Below X.heap.size X (X.alloc (.cells #[v0,v1,v2,v3,v4] 22)):=aJ.alloc aA _;refine (xh X.heap.size [v0,v1,v2,v3,v4] [l0,l1,l2,l3,l4] lm N 5 rfl e en _ (Wo aU aU aU aU aU (r0.below ba) (r1.below ba) (r2.below ba) (r3.below ba) (r4.below ba)) hl ab).mono ?_;rintro e w' ⟨p',c',rfl,o,hb⟩;exact ⟨p',c',rfl,Own.mono o aU,ah ba hb⟩
theorem bt5 {w X x4:World} (gL:Below X.heap.size X x4) (oj:Own X.heap.size x4 v l) (hX:Below w.heap.size w X):Own w.heap.size x4 v l/\Below w.heap.size w x4:=⟨Own.mono oj hX.size,ah hX gL⟩
def vW (k s:Nat) (P:List Int) (f:Nat) (V:List Int):List Int:=[(k:Int)]++(vi s++(tx P++([(f:Int)]++tx V)))
theorem qA (k:Nat) (nw:1<=k) (yC:k<=13) (se pa:Bool) (lo hi vs:Int) (sq:Bool) (s f:Nat) (hs:s<18446744073709551616) (hf:f<=2) (e g:Int) (p q:Option Addr) (n m c d:Nat) (P V:List Int) (ep:Hid (P.length=n)) (ev:Hid (V.length=m)) (w:World) (hp:Rd w (.slice p n c) P) (hv:Rd w (.slice q m d) V) (hn:n<=1048576) (hm:m<=1048576) (hT:sR w 0 (k*7) se pa lo hi vs sq true) (eB:Hid (Jf se pa lo hi vs sq s f n m e g=true)) (N:Nat) (eN:Hid ((vW k s P f V).length=N)) :
  Calls prog 21 #[X5 k s (.slice p n c) f (.slice q m d) e g] w fun r w'=>∃ p' c',r=.returned (.slice p' N c')/\Own w.heap.size w' (.slice p' N c') (vW k s P f V)/\Below w.heap.size w w':=by
 have h1:=dE 1 k;have h2:(k:Int)<=13:=ab;have h3:(k:Int)<14:=ab;have h4:k<14:=ab;have h5:=dE 0 k;have wk:IntKind.u8.wrap (k:Int)=(k:Int):=by rw [IntKind.wrap_u8];omega
 have wf:IntKind.u8.wrap (f:Int)=(f:Int):=by rw [IntKind.wrap_u8];omega
 have HP:=ae fun (w':World) (hb:Below w.heap.size w w')=>hp.below hb;have HV:=ae fun (w':World) (hb:Below w.heap.size w w')=>hv.below hb;clear hp hv;go_enter func21,ntmps21;go_wp2_with fail;obtain ⟨W,hW⟩:=ax (w.alloc (.cells #[.int .i64 k,.int .u64 s,.slice p n c,.int .i64 f,.slice q m d,.int .u64 e,.int .u64 g] 29));have bW:=ju hW;have hA:sc W w.heap.size (.int .i64 k) (.int .u64 s) (.slice p n c) (.int .i64 f) (.slice q m d) (.int .u64 e) (.int .u64 g):=by rw [hW];simp [sc,go_sem]
 have zW:w.heap.size<W.heap.size:=by rw [hW];simp
 have XA:=hT.below bW;rw [<-hW];clear hW hT;refine (vT k nw yC se pa lo hi vs sq true s f e g p q n m c d _ XA true eB).mono ?_;rintro r w1 ⟨rfl,bq⟩;have MI:=hA.below bq;have hT1:=XA.below bq;have b1:=ah bW bq;have z1:=bq.size;clear hA XA bW bq;obtain ⟨a0,a1,a2,a3,a4,a5,a6⟩:=MI;obtain ⟨t0,t1,t2,t3,t4,t5,t6⟩:=hT1;obtain ⟨M,eM⟩:∃ M,Hid ((vi s).length=M):=⟨_,rfl⟩;obtain ⟨N1,U6⟩:∃ M,Hid ((tx P).length=M):=⟨_,rfl⟩;obtain ⟨N2,eN2⟩:∃ M,Hid ((tx V).length=M):=⟨_,rfl⟩;have MI:sc w1 w.heap.size (.int .i64 k) (.int .u64 s) (.slice p n c) (.int .i64 f) (.slice q m d) (.int .u64 e) (.int .u64 g):=⟨a0,a1,a2,a3,a4,a5,a6⟩;have EE:Hid (vW k s P f V=cat [[(k:Int)],vi s,tx P,[(f:Int)],tx V]):=by show _=_;rw [bz1];rfl
 have hNb:N<=4194304:=by have h1:=gh s;have h2:=py P;have h3:=py V;have h4:=aa eN;rw [vW] at h4;simp only [List.length_append,List.length_cons,List.length_nil] at h4;rw [aa ep] at h2;rw [aa ev] at h3;omega
 go_wp2_with fail;clear a0 a1 a2 a3 a4 a5 a6 t0 t1 t2 t3 t4 t5 t6
 go_region_held3 (fun w'=>sc w' w.heap.size (.int .i64 k) (.int .u64 s) (.slice p n c) (.int .i64 f) (.slice q m d) (.int .u64 e) (.int .u64 g)) (exact sc.below MI (by repeat (first | with_reducible exact Below.refl _ _ | with_reducible refine jr ?_ _ | with_reducible refine Below.drew ?_ | with_reducible refine ah ?_ gL | with_reducible refine ah ?_ de | with_reducible refine ah ?_ cX | with_reducible refine ah ?_ bq)))
  (first
   | (go_at_call 62;with_reducible refine (Va s _ hs M eM).mono ?_;rintro r x1 ⟨pv,cv,rfl,ov,bq⟩)
   | (go_at_call 63;with_reducible refine (mF p c n P ep _ (by exact aa HP _ (by repeat (first | with_reducible exact b1 | with_reducible refine jr ?_ _ | with_reducible refine Below.drew ?_ | with_reducible refine ah ?_ de | with_reducible refine ah ?_ cX | with_reducible refine ah ?_ bq))) hn N1 U6).mono ?_;rintro r x2 ⟨pt,ct,rfl,ot,cX⟩)
   | (go_at_call 63;with_reducible refine (mF q d m V ev _ (by exact aa HV _ (by repeat (first | with_reducible exact b1 | with_reducible refine jr ?_ _ | with_reducible refine Below.drew ?_ | with_reducible refine ah ?_ de | with_reducible refine ah ?_ cX | with_reducible refine ah ?_ bq))) hm N2 eN2).mono ?_;rintro r x3 ⟨pu,cu,rfl,ou,de⟩)
   | (go_at_call 61;with_reducible refine (aa9 _ _ _ _ _ _ [(k:Int)] (vi s) (tx P) [(f:Int)] (tx V) (vW k s P f V) N EE eN (by exact rd1 (by repeat (first | with_reducible exact Sh aU | with_reducible refine Sg ?_ _ | with_reducible refine Sc ?_ | with_reducible refine af ?_ de | with_reducible refine af ?_ cX | with_reducible refine af ?_ bq))) (by exact Rd.below ov.rd (by repeat (first | with_reducible exact Below.refl _ _ | with_reducible refine jr ?_ _ | with_reducible refine Below.drew ?_ | with_reducible refine ah ?_ de | with_reducible refine ah ?_ cX))) (by exact Rd.below ot.rd (by repeat (first | with_reducible exact Below.refl _ _ | with_reducible refine jr ?_ _ | with_reducible refine Below.drew ?_ | with_reducible refine ah ?_ de | with_reducible refine ah ?_ cX))) (by exact rd1 (by repeat (first | with_reducible exact Sh aU | with_reducible refine Sg ?_ _ | with_reducible refine Sc ?_ | with_reducible refine af ?_ de | with_reducible refine af ?_ cX | with_reducible refine af ?_ bq))) (by exact Rd.below ou.rd (by repeat (first | with_reducible exact Below.refl _ _ | with_reducible refine jr ?_ _ | with_reducible refine Below.drew ?_ | with_reducible refine ah ?_ de | with_reducible refine ah ?_ cX))) ab _ aU).mono ?_;rintro r x4 ⟨pj,cj,rfl,oj,gL⟩))
 all_goals (
  have FN:=bt5 (w:=w) gL oj (by repeat (first | with_reducible exact b1 | with_reducible refine jr ?_ _ | with_reducible refine Below.drew ?_ | with_reducible refine ah ?_ de | with_reducible refine ah ?_ cX | with_reducible refine ah ?_ bq));clear gL oj bq cX de ov ot ou;go_wp2;go_ret;exact ⟨pj,cj,rfl,FN⟩)
theorem Ej {n m:Nat} (h1:1<=k) (h2:k<=13) (h:vH k s f n m e g=true):0<=f/\f<=2:=by
 unfold vH Jf at h;simp only [Bool.and_eq_true,decide_eq_true_eq] at h;obtain ⟨-,-,yB,Rf,-⟩:=h;rcases kinds h1 h2 with rfl | rfl | rfl | rfl | rfl | rfl | rfl | rfl | rfl | rfl | rfl | rfl | rfl<;>simp [rowOf] at yB Rf<;>omega
theorem sc.Qt {w w':World} (h:sc w b v0 v1 v2 v3 v4 v5 v6) (hb:Below B w w') (hl:b<B):sc w' b v0 v1 v2 v3 v4 v5 v6:=by
 have e:=fun o=>hb.cell (p:=⟨b,o,none⟩) hl;exact ⟨(e 0).trans h.1,(e 1).trans h.2.1,(e 2).trans h.2.2.1,(e 3).trans h.2.2.2.1,(e 4).trans h.2.2.2.2.1,(e 5).trans h.2.2.2.2.2.1,(e 6).trans h.2.2.2.2.2.2⟩
theorem Z6 (k s:Nat) (P:List Int) (f:Nat) (V:List Int):(vW k s P f V).length<=P.length+V.length+32:=by
 have h1:=gh s;have h2:=py P;have h3:=py V;rw [vW];simp only [List.length_append,List.length_cons,List.length_nil];omega
theorem Le (K F:Int) (k f:Nat) (wk:IntKind.u8.wrap K=(k:Int)) (wf:IntKind.u8.wrap F=(f:Int)) (s:Nat) (hs:s<18446744073709551616) (e g:Int) (p q:Option Addr) (n m c d:Nat) (P V:List Int) (ep:Hid (P.length=n)) (ev:Hid (V.length=m)) (w:World) (hp:Rd w (.S p n c) P) (hv:Rd w (.S q m d) V) (hn:n<=1048576) (hm:m<=1048576) (N:Nat) (eN:Hid ((vW k s P f V).length=N)) :
  Calls prog 49 #[X5 K s (.S p n c) F (.S q m d) e g] w fun r w'=>∃ p' c',r=.returned (.S p' N c')/\Own w.heap.size w' (.S p' N c') (vW k s P f V)/\Bw w w':=by
 have HP:=ae fun (w':World) (hb:Bw w w')=>hp.below hb;have HV:=ae fun (w':World) (hb:Bw w w')=>hv.below hb;clear hp hv;obtain ⟨M,eM⟩:∃ M,Hid ((vi s).length=M):=⟨_,rfl⟩;obtain ⟨N1,U6⟩:∃ M,Hid ((tx P).length=M):=⟨_,rfl⟩;obtain ⟨N2,eN2⟩:∃ M,Hid ((tx V).length=M):=⟨_,rfl⟩;have hM:M<=10:=by have:=gh s;rw [aa eM] at this;omega
 have Pg:N1<=1048586:=by have:=py P;rw [aa U6,aa ep] at this;omega
 have Et:N2<=1048586:=by have:=py V;rw [aa eN2,aa ev] at this;omega
 obtain ⟨A1,MI⟩:∃ l,Hid (l=[(k:Int)]++vi s):=⟨_,rfl⟩;obtain ⟨A2,hA2⟩:∃ l,Hid (l=A1++tx P):=⟨_,rfl⟩;obtain ⟨A3,Yv⟩:∃ l,Hid (l=A2++[(f:Int)]):=⟨_,rfl⟩;have hA4:Hid (vW k s P f V=A3++tx V):=by show _=_;rw [aa Yv,aa hA2,aa MI,vW];simp
 have lA1:Hid (A1.length=1+M):=by show _=_;rw [aa MI,List.length_append,aa eM];rfl
 have lA2:Hid (A2.length=1+M+N1):=by show _=_;rw [aa hA2,List.length_append,aa lA1,aa U6]
 have lA3:Hid (A3.length=1+M+N1+1):=by show _=_;rw [aa Yv,List.length_append,aa lA2];rfl
 go_enter func49,ntmps49;go_wp2_with fail;obtain ⟨W0,dh⟩:=ax (w.alloc (.cells #[.I K,.U s,.S p n c,.I F,.S q m d,.U e,.U g] 29));have Qw:=ju dh;have hO0:sc W0 w.heap.size (.I K) (.U s) (.S p n c) (.I F) (.S q m d) (.U e) (.U g):=by rw [dh];simp [sc,go_sem]
 have zW0:W0.heap.size=w.heap.size+1:=by rw [dh];simp
 rw [<-dh];clear dh;have oo:Own W0.heap.size (W0.alloc (.cells #[.int .u8 (k:Int)] 5)) (.S (some ⟨W0.heap.size,0,none⟩) 1 1) [(k:Int)]:=Own.one W0 k;rw [zW0] at oo;obtain ⟨W,hW⟩:∃ W,W=W0.alloc (.cells #[.int .u8 (k:Int)] 5):=⟨_,rfl⟩;have bW:Bw w W:=by rw [hW];exact Qw.alloc Qw.size _
 have hO:sc W w.heap.size (.I K) (.U s) (.S p n c) (.I F) (.S q m d) (.U e) (.U g):=hO0.below (by rw [hW];exact aJ.alloc aA _);have zW:w.heap.size+1<W.heap.size:=by rw [hW];simp;omega
 rw [<-hW] at oo ⊢;clear hW Qw hO0 zW0;refine (Ct 9 s _ ab hs ab M eM).mono ?_;rintro r x1 ⟨pv,cv,rfl,ov,bq⟩;have oo1:=Own.below oo bq;have Zq:=hO.below bq;have b1:=ah bW bq;have r1:Rd x1 (.S pv M cv) (vi s):=ov.rd;have z1:=bq.size;clear oo hO bW ov bq;obtain ⟨a0,a1,a2,a3,a4,a5,a6⟩:=id Zq;go_wp2_with (at_builtin;refine ru rfl _ _ rfl (w.heap.size+1) (.S (some ⟨w.heap.size+1,0,none⟩) 1 1) [(k:Int)] (vi s) A1 MI pv cv M eM rfl rfl oo1 r1 (by rw [aa eM];simp;omega) ab ?_);intro p2 c2 x2 o2 fU;have b2:=below_grown b1 fU oo1 ab ab;have hO2:=Zq.Qt ((Below.refl (w.heap.size+1) x1).grown fU ab (fun k e=>(oo1.lt k e).1)) ab;have z2:=fU.size;rw [aa lA1] at o2 ⊢;clear oo1 Zq b1 r1 fU a0 a1 a2 a3 a4 a5 a6;obtain ⟨a0,a1,a2,a3,a4,a5,a6⟩:=id hO2;go_wp2_with fail;refine (sI p c n P ep _ (aa HP _ b2) hn N1 U6).mono ?_;rintro r x3 ⟨pt,ct,rfl,ot,de⟩;have o3:=Own.below o2 de;have hO3:=hO2.below de;have b3:=ah b2 de;have r3:=ot.rd;have z3:=de.size;clear o2 hO2 b2 ot de a0 a1 a2 a3 a4 a5 a6;obtain ⟨a0,a1,a2,a3,a4,a5,a6⟩:=id hO3;go_wp2_with (at_builtin;refine ru rfl _ _ rfl (w.heap.size+1) (.S p2 (1+M) c2) A1 (tx P) A2 hA2 pt ct N1 U6 rfl rfl o3 r3 (by rw [aa lA1,aa U6];omega) ab ?_);intro p4 c4 x4 o4 sw;have b4:=below_grown b3 sw o3 ab ab;have hO4:=hO3.Qt ((Below.refl (w.heap.size+1) x3).grown sw ab (fun k e=>(o3.lt k e).1)) ab;have z4:=sw.size;rw [aa lA2] at o4 ⊢;clear o3 hO3 b3 r3 sw a0 a1 a2 a3 a4 a5 a6;obtain ⟨a0,a1,a2,a3,a4,a5,a6⟩:=id hO4;go_wp2_with (at_builtin;refine ga rfl _ _ rfl (w.heap.size+1) (.S p4 (1+M+N1) c4) A2 A3 (f:Int) Yv x4.heap.size rfl rfl (Own.below o4 (aJ.alloc aA _)) aU (by rw [aa lA2];omega) dx ?_);intro p5 c5 x5 o5 qh;have o4A:=Own.below o4 (w':=x4.alloc (.cells #[.int .u8 (f:Int)] 5)) (aJ.alloc aA _);have b5:=below_grown (b4.alloc b4.size _) qh o4A ab dx;have hO5:=(hO4.below (aJ.alloc aA _)).Qt ((Below.refl (w.heap.size+1) _).grown qh dx (fun k e=>(o4A.lt k e).1)) ab;have z5:x4.heap.size+1<=x5.heap.size:=by have:=qh.size;simpa using this
 rw [aa lA3] at o5 ⊢;clear o4 o4A hO4 b4 qh a0 a1 a2 a3 a4 a5 a6;obtain ⟨a0,a1,a2,a3,a4,a5,a6⟩:=id hO5;go_wp2_with fail;refine (sI q d m V ev _ (aa HV _ b5) hm N2 eN2).mono ?_;rintro r x6 ⟨pu,cu,rfl,ou,DP⟩;have o6:=Own.below o5 DP;have b6:=ah b5 DP;have r6:=ou.rd;have z6:=DP.size;clear o5 hO5 b5 ou DP a0 a1 a2 a3 a4 a5 a6;go_wp2_with (at_builtin;refine ru rfl _ _ rfl (w.heap.size+1) (.S p5 (1+M+N1+1) c5) A3 (tx V) (vW k s P f V) hA4 pu cu N2 eN2 rfl rfl o6 r6 (by rw [aa lA3,aa eN2];omega) ab ?_);intro p7 c7 x7 o7 hg7;have b7:=below_grown b6 hg7 o6 ab ab;rw [aa eN] at o7 ⊢;have o8:=Own.mono (B':=w.heap.size) o7 ab;clear o6 b6 r6 hg7 o7;go_wp2;go_ret;exact ⟨p7,c7,rfl,o8,b7⟩
theorem RG (k:Nat) (yC:k<=13) (s f:Nat) (hs:s<18446744073709551616) (hf:f<=2) (e g:Int) (p q:Option Addr) (n m c d:Nat) (P V:List Int) (ep:Hid (P.length=n)) (ev:Hid (V.length=m)) (w:World) (hp:Rd w (.S p n c) P) (hv:Rd w (.S q m d) V) (hn:n<=1048576) (hm:m<=1048576) (N:Nat) (eN:Hid ((vW k s P f V).length=N)) :
  Calls prog 49 #[X5 k s (.S p n c) f (.S q m d) e g] w fun r w'=>∃ p' c',r=.returned (.S p' N c')/\Own w.heap.size w' (.S p' N c') (vW k s P f V)/\Bw w w':=
 Le k f k f (by rw [IntKind.wrap_u8];omega) (by rw [IntKind.wrap_u8];omega) s hs e g p q n m c d P V ep ev w hp hv hn hm N eN
theorem VF (k s f:Nat) (P V:List Int) (hs:s<18446744073709551616) (hP:P.length<18446744073709551616) (hV:V.length<18446744073709551616) :
  oB (some (vW k s P f V))=((k:Int),some (vi s++(tx P++([(f:Int)]++tx V))))/\oV (some (vi s++(tx P++([(f:Int)]++tx V))))=((s:Int),some (tx P++([(f:Int)]++tx V)))/\oT (some (tx P++([(f:Int)]++tx V)))=(P,some ([(f:Int)]++tx V))/\oB (some ([(f:Int)]++tx V))=((f:Int),some (tx V))/\oT (some (tx V))=(V,some []):=by
 refine ⟨rfl,?_,?_,rfl,?_⟩;{rw [oV,QZ _ _ hs]};{rw [oT,Vz _ _ hP]};{have:=Vz V [] hV;rw [List.append_nil] at this;rw [oT,this]}
def Zi (l:List Int) (k s:Nat) (P:List Int) (f:Nat) (V:List Int):Prop:=1<=k/\k<=13/\s<18446744073709551616/\f<=2/\vH k s f P.length V.length 0 0=true/\joR k=true/\l=vW k s P f V
theorem OP (p:Option Addr) (c n:Nat) (l:List Int) (en:Hid (l.length=n)) (w:World) (h:Rd w (.S p n c) l) (hb:bM l) (hl:n<=1048576) (Q6:n<=c)
  (k s f:Int) (P V:List Int) (o1 o2 o3 o4 o5:Option (List Int)) (e1:Hid (oB (some l)=(k,o1))) (e2:Hid (oV o1=(s,o2))) (e3:Hid (oT o2=(P,o3))) (e4:Hid (oB o3=(f,o4))) (e5:Hid (oT o4=(V,o5))) (NP NV:Nat) (eP:Hid (P.length=NP)) (eV:Hid (V.length=NV))
  (jS:Hid (∀ K S F:Nat,k=K->s=S->f=F->¬ Zi l K S P F V)) :
  Calls prog 18 #[.S p n c] w fun e w'=>e=.returned (.tuple #[X5 0 0 (.S none 0 0) 0 (.S none 0 0) 0 0,.I 13])/\Bw w w':=by
 have HB:=ae hb;have S0:Hid (lZ n l (some l)):=lZ.start en;have S1:Hid (lZ n l o1):=by have:=An (aa en) (aa S0);rw [aa e1] at this;exact this
 have S2:Hid (lZ n l o2):=by have:=mz (aa en) (aa S1);rw [aa e2] at this;exact this
 have S3:Hid (lZ n l o3):=by have:=Eb (aa en) (aa S2);rw [aa e3] at this;exact this
 have S4:Hid (lZ n l o4):=by have:=An (aa en) (aa S3);rw [aa e4] at this;exact this
 have hNP:NP<=1048576:=by have:=(pY hb (aa S2)).2;rw [aa e3] at this;rw [<-aa eP];exact Nat.le_trans this hl
 have hNV:NV<=1048576:=by have:=(pY hb (aa S4)).2;rw [aa e5] at this;rw [<-aa eV];exact Nat.le_trans this hl
 have a0:mP n (some l)=0:=by simp [mP,aa en]
 obtain ⟨A1,eA1⟩:=aH (mP n o1);obtain ⟨A2,eA2⟩:=aH (mP n o2);obtain ⟨A3,eA3⟩:=aH (mP n o3);obtain ⟨A4,eA4⟩:=aH (mP n o4);obtain ⟨A5,eA5⟩:=aH (mP n o5);have c1:=fun w' (cR:Bw w w')=>nE p c n l en w' (h.below cR) hb hl _ S0 k o1 e1;rw [a0,eA1] at c1;have c2:=fun w' (cR:Bw w w')=>Aj p c n l en w' (h.below cR) hb hl _ S1 s o2 e2;rw [eA1,eA2] at c2;have c3:=fun w' (cR:Bw w w')=>nt p c n l en w' (h.below cR) hb hl Q6 _ S2 P o3 e3 NP eP;rw [eA2,eA3] at c3;have c4:=fun w' (cR:Bw w w')=>nE p c n l en w' (h.below cR) hb hl _ S3 f o4 e4;rw [eA3,eA4] at c4;have c5:=fun w' (cR:Bw w w')=>nt p c n l en w' (h.below cR) hb hl Q6 _ S4 V o5 e5 NV eV;rw [eA4,eA5] at c5;have C1:=ae c1;have C2:=ae c2;have C3:=ae c3;have C4:=ae c4;have C5:=ae c5;have HH:=ae h;clear c1 c2 c3 c4 c5 a0 eA1 eA2 eA3 eA4 h hb;go_enter func18,ntmps18;go_wp2_with fail;obtain ⟨W,hW⟩:=ax (w.alloc (.cells #[.I 0,.U 0,.S none 0 0,.I 0,.S none 0 0,.U 0,.U 0] 29));have bW:=ju hW;have hR:sc W w.heap.size (.I 0) (.U 0) (.S none 0 0) (.I 0) (.S none 0 0) (.U 0) (.U 0):=by rw [hW];simp [sc,go_sem]
 have fR:∀ o,W.frozen? ⟨w.heap.size,o,none⟩=false:=fun o=>by rw [hW];simp [go_sem]
 have zW:w.heap.size<W.heap.size:=by rw [hW];simp
 rw [<-hW];clear hW;refine (aa C1 _ bW).mono ?_;rintro r w' ⟨rfl,rfl⟩;go_wp2_with fail;refine (aa C2 _ bW).mono ?_;rintro r w' ⟨rfl,rfl⟩;go_wp2_with fail;refine (aa C3 _ bW).mono ?_;rintro r w1 ⟨p1,c1,rfl,x1,bq⟩;have b1:=ah bW bq;have sU:=hR.below bq;have fR1:=dJ fR zW bq;have z1:=bq.size;clear hR fR bq;go_wp2_with fail;refine (aa C4 _ b1).mono ?_;rintro r w2 ⟨rfl,rfl⟩;go_wp2_with fail;refine (aa C5 _ b1).mono ?_;rintro r w3 ⟨p3,c3,rfl,x3,de⟩;have b3:=ah b1 de;have x1':=Own.below x1 de;have TG:=sU.below de;have fR3:=dJ fR1 ab de;have z3:=de.size;clear sU fR1 de x1;have aB8:Hid (bM P/\bM V/\0<=s/\s<18446744073709551616):=by have h1:=(pY HB S2).1;have h2:=(pY HB S4).1;have h3:=D5 (om:=o1);rw [aa e3] at h1;rw [aa e5] at h2;rw [aa e2] at h3;exact ⟨h1,h2,h3.1,h3.2⟩
 obtain ⟨X,hX⟩:=ax (w3.alloc (.cells #[.I k,.U s,.S p1 NP c1,.I f,.S p3 NV c3,.U 0,.U 0] 29));have Ax:=ju hX;have bX:Bw w X:=ah b3 Ax;have Zk:=TG.below Ax;have fRX:=dJ fR3 ab Ax;have XC:sc X w3.heap.size (.I k) (.U s) (.S p1 NP c1) (.I f) (.S p3 NV c3) (.U 0) (.U 0):=by rw [hX];simp [sc,go_sem]
 have zX:w3.heap.size<X.heap.size:=by rw [hX];simp
 have xP:=Own.below x1' Ax;have xV:=Own.below x3 Ax;have bo:∀ ob:Obj,Bw w3 (w3.alloc ob):=fun ob=>aJ.alloc aA _;have q0:=fun ob=>af TG.1 (bo ob);have q1:=fun ob=>af TG.2.1 (bo ob);have q2:=fun ob=>af TG.2.2.1 (bo ob);have q3:=fun ob=>af TG.2.2.2.1 (bo ob);have q4:=fun ob=>af TG.2.2.2.2.1 (bo ob);have q5:=fun ob=>af TG.2.2.2.2.2.1 (bo ob);have q6:=fun ob=>af TG.2.2.2.2.2.2 (bo ob);have qf:=fun (ob:Obj)=>dJ fR3 ab (bo ob);clear TG fR3 x1' x3 Ax bo;obtain ⟨r0,r1,r2,r3,r4,r5,r6⟩:=id Zk;obtain ⟨j0,j1,j2,j3,j4,j5,j6⟩:=id XC;by_cases hA5:A5<0;{
 clear hX;go_wp2;refine bodyPost_ret (v:=.tuple #[X5 0 0 (.S none 0 0) 0 (.S none 0 0) 0 0,.I 13]) (by simp [results,results18,go_sem,q0,q1,q2,q3,q4,q5,q6]) rfl ⟨rfl,?_⟩
 repeat (refine Below.setCell ?_ aU _)
 exact jr b3 _};{
 have bs9:¬ A5<0:=hA5;go_wp2_with fail;rw [<-hX];clear hX q0 q1 q2 q3 q4 q5 q6 qf;obtain ⟨Ww,hVB,s0,s1⟩:=aa aB8;by_cases hk:1<=k/\k<=13;{
 obtain ⟨K,rfl⟩:∃ K:Nat,k=(K:Int):=⟨k.toNat,ab⟩;obtain ⟨S,rfl⟩:∃ S:Nat,s=(S:Int):=⟨s.toNat,ab⟩;have h1:1<=K:=ab;have h2:K<=13:=ab;obtain ⟨B,eB⟩:=aH (vH K S f NP NV 0 0);have BQ:Hid (S<18446744073709551616):=by show _<_;omega
 have HPV:=ae (ag Ww hVB);clear s0 s1 Ww hVB hk;refine (M8 K h1 h2 S f 0 0 p1 p3 NP NV c1 c3 _ B eB).mono ?_;rintro r x1 ⟨rfl,oM⟩;have Nk:=ah bX oM;have sU:=Zk.below oM;have Zq:=XC.below oM;have f1:=dJ fRX ab oM;have zx1:=oM.size;have xP1:=Own.below xP oM;have xV1:=Own.below xV oM;clear Zk XC fRX oM xP xV r0 r1 r2 r3 r4 r5 r6 j0 j1 j2 j3 j4 j5 j6 bX;obtain ⟨r0,r1,r2,r3,r4,r5,r6⟩:=id sU;obtain ⟨j0,j1,j2,j3,j4,j5,j6⟩:=id Zq;cases B with
 | false=>
  go_wp2;refine bodyPost_ret (v:=.tuple #[X5 0 0 (.S none 0 0) 0 (.S none 0 0) 0 0,.I 13]) (by simp [results,results18,go_sem,r0,r1,r2,r3,r4,r5,r6]) rfl ⟨rfl,?_⟩
  repeat (refine Below.setCell ?_ aU _)
  exact Nk
 | true=>
  go_wp2_with fail;refine (CH K h1 h2 _).mono ?_;rintro r x2 ⟨rfl,rfl⟩;obtain ⟨J,eJ⟩:=aH (joR K);rw [eJ];cases J with
  | false=>
   go_wp2;refine bodyPost_ret (v:=.tuple #[X5 0 0 (.S none 0 0) 0 (.S none 0 0) 0 0,.I 13]) (by simp [results,results18,go_sem,r0,r1,r2,r3,r4,r5,r6]) rfl ⟨rfl,?_⟩
   repeat (refine Below.setCell ?_ aU _)
   exact Nk
  | true=>
   obtain ⟨f0,f2⟩:=Ej h1 h2 eB;obtain ⟨F,rfl⟩:∃ F:Nat,f=(F:Int):=⟨f.toNat,ab⟩;have hF:F<=2:=ab;have hd:decide (vW K S P F V=l)=false:=by simp only [decide_eq_false_iff_not];intro e;exact aa jS K S F rfl rfl rfl ⟨h1,h2,aa BQ,hF,by rw [aa eP,aa eV];exact eB,eJ,e.symm⟩
   have HD:=ae hd;obtain ⟨M,eM⟩:∃ M,Hid ((vW K S P F V).length=M):=⟨_,rfl⟩;clear f0 f2 hd;go_wp2_with fail;refine (RG K h2 S F BQ hF 0 0 p1 p3 NP NV c1 c3 P V eP eV _ xP1.rd xV1.rd hNP hNV M eM).mono ?_;rintro r x3 ⟨p5,c5,rfl,o5',ew⟩;have bx3:=ah Nk ew;have TG:=sU.below ew;have f3:=dJ f1 ab ew;have zx3:=ew.size;clear sU Zq f1 ew r0 r1 r2 r3 r4 r5 r6 j0 j1 j2 j3 j4 j5 j6 Nk;obtain ⟨r0,r1,r2,r3,r4,r5,r6⟩:=id TG;go_wp2_with fail;refine (mL p5 p c5 c M n (vW K S P F V) l eM en _ o5'.rd (HH.below bx3) (by refine bM.app (fun z hz=>by simp at hz;subst hz;omega) (bM.app (jQ (aa BQ)) (bM.app ?_ (bM.app (fun z hz=>by simp at hz;subst hz;omega) ?_)));{exact bM.app (jQ (by rw [aa eP];omega)) HPV.1};{exact bM.app (jQ (by rw [aa eV];omega)) HPV.2}) (aa HB)).mono ?_
   rintro r x4 ⟨rfl,DP⟩;rw [aa HD];have bx4:=ah bx3 DP;have Zp:=TG.below DP;have f4:=dJ f3 ab DP;clear TG f3 DP r0 r1 r2 r3 r4 r5 r6 bx3;obtain ⟨r0,r1,r2,r3,r4,r5,r6⟩:=id Zp;go_wp2;refine bodyPost_ret (v:=.tuple #[X5 0 0 (.S none 0 0) 0 (.S none 0 0) 0 0,.I 13]) (by simp [results,results18,go_sem,r0,r1,r2,r3,r4,r5,r6]) rfl ⟨rfl,?_⟩
   repeat (refine Below.setCell ?_ aU _)
   exact bx4};{
 refine (Ge k s f 0 0 p1 p3 NP NV c1 c3 _ ab).mono ?_;rintro r x1 ⟨rfl,oM⟩;have Nk:=ah bX oM;have sU:=Zk.below oM;have f1:=dJ fRX ab oM;clear Zk XC fRX oM xP xV r0 r1 r2 r3 r4 r5 r6 j0 j1 j2 j3 j4 j5 j6 bX s0 s1;obtain ⟨r0,r1,r2,r3,r4,r5,r6⟩:=id sU;go_wp2;refine bodyPost_ret (v:=.tuple #[X5 0 0 (.S none 0 0) 0 (.S none 0 0) 0 0,.I 13]) (by simp [results,results18,go_sem,r0,r1,r2,r3,r4,r5,r6]) rfl ⟨rfl,?_⟩
 repeat (refine Below.setCell ?_ aU _)
 exact Nk}}
theorem IQ (k:Nat) (nw:1<=k) (yC:k<=13) (se pa:Bool) (lo hi vs:Int) (sq jo:Bool) (s f e g:Int) (p q:Option Addr) (n m c d:Nat) (w:World) (hT:sR w 0 (k*7) se pa lo hi vs sq jo) (B:Bool) (eB:Hid (Jf se pa lo hi vs sq s f n m e g=B)) (eJ:(B&&jo)=false) :
  Calls prog 21 #[X5 k s (.S p n c) f (.S q m d) e g] w fun r w'=>r=.returned (.S none 0 0)/\Bw w w':=by
 have h1:=dE 1 k;have h2:(k:Int)<=13:=ab;have h3:(k:Int)<14:=ab;have h4:k<14:=ab;have h5:=dE 0 k;go_enter func21,ntmps21;go_wp2_with fail;obtain ⟨W,hW⟩:=ax (w.alloc (.cells #[.I k,.U s,.S p n c,.I f,.S q m d,.U e,.U g] 29));have bW:=ju hW;have hA:sc W w.heap.size (.I k) (.U s) (.S p n c) (.I f) (.S q m d) (.U e) (.U g):=by rw [hW];simp [sc,go_sem]
 have XA:=hT.below bW;rw [<-hW];clear hW hT;refine (vT k nw yC se pa lo hi vs sq jo s f e g p q n m c d _ XA B eB).mono ?_;rintro r w1 ⟨rfl,bq⟩;have MI:=hA.below bq;have hT1:=XA.below bq;have b1:=ah bW bq;clear hA XA bW bq;obtain ⟨a0,a1,a2,a3,a4,a5,a6⟩:=MI;obtain ⟨t0,t1,t2,t3,t4,t5,t6⟩:=hT1;cases B with
 | false=>
  go_wp2;go_ret;exact ⟨rfl,b1⟩
 | true=>
  rw [Bool.true_and] at eJ;subst eJ;go_wp2;go_ret;exact ⟨rfl,b1⟩
theorem Fb (k s f e g:Int) (p q:Option Addr) (n m c d:Nat) (w:World) (hk:k<1\/13<k) :
  Calls prog 21 #[X5 k s (.S p n c) f (.S q m d) e g] w fun r w'=>r=.returned (.S none 0 0)/\Bw w w':=by
 go_enter func21,ntmps21;go_wp2_with fail;obtain ⟨W,hW⟩:=ax (w.alloc (.cells #[.I k,.U s,.S p n c,.I f,.S q m d,.U e,.U g] 29));have bW:=ju hW;rw [<-hW];clear hW;refine (vS k s f e g p q n m c d _ hk).mono ?_;rintro r x1 ⟨rfl,bq⟩;have b1:=ah bW bq;clear bW bq;go_wp2;go_ret;exact ⟨rfl,b1⟩
abbrev EG (F:Nat) (w:World) (k s f e g:Int) (n m N:Nat) (P V R:List Int):Prop:=
 ∀ (q1 q2:Option Addr) (d1 d2:Nat) (w':World),Bw w w'->Rd w' (.S q1 n d1) P->Rd w' (.S q2 m d2) V->Calls prog F #[X5 k s (.S q1 n d1) f (.S q2 m d2) e g] w' fun r w''=>∃ p' c',r=.returned (.S p' N c')/\Own w'.heap.size w'' (.S p' N c') R/\Bw w' w''
theorem XP {F:Nat} {w:World} {k:Int} {n m:Nat} {P V:List Int} (h:∀ (q1 q2:Option Addr) (d1 d2:Nat) (w':World),Bw w w'->Calls prog F #[X5 k s (.S q1 n d1) f (.S q2 m d2) e g] w' fun r w''=>r=.returned (.S none 0 0)/\Bw w' w''):EG F w k s f e g n m 0 P V []:=
 fun q1 q2 d1 d2 w' hb _ _=>(h q1 q2 d1 d2 w' hb).mono (by rintro r w'' ⟨rfl,h2⟩;exact ⟨none,0,rfl,World.ownsRow_nil _ _ _ _,h2⟩)
theorem Ki (p:Option Addr) (c n:Nat) (l:List Int) (en:Hid (l.length=n)) (w:World) (h:Rd w (.S p n c) l) (hb:bM l) (hl:n<=1048576) (Q6:n<=c)
  (k s f:Int) (P V:List Int) (o1 o2 o3 o4 o5:Option (List Int)) (e1:Hid (oB (some l)=(k,o1))) (e2:Hid (oV o1=(s,o2))) (e3:Hid (oT o2=(P,o3))) (e4:Hid (oB o3=(f,o4))) (e5:Hid (oT o4=(V,o5))) (NP NV:Nat) (eP:Hid (P.length=NP)) (eV:Hid (V.length=NV))
  (K S F:Nat) (hk:k=K) (hs:s=S) (hf:f=F) (ho:o5=some []) (bp2:Zi l K S P F V) :
  Calls prog 18 #[.S p n c] w fun r w'=>∃ p' c' q' d' B,r=.returned (.tuple #[X5 K S (.S p' NP c') F (.S q' NV d') 0 0,.I 0])/\w.heap.size<=B/\Own w.heap.size w' (.S p' NP c') P/\Btw w.heap.size B (.S p' NP c')/\Own B w' (.S q' NV d') V/\Bw w w':=by
 obtain ⟨h1,h2,hS,hF,hfm,hj,U3⟩:=bp2;have HB:=ae hb;have S0:Hid (lZ n l (some l)):=lZ.start en;have S1:Hid (lZ n l o1):=by have:=An (aa en) (aa S0);rw [aa e1] at this;exact this
 have S2:Hid (lZ n l o2):=by have:=mz (aa en) (aa S1);rw [aa e2] at this;exact this
 have S3:Hid (lZ n l o3):=by have:=Eb (aa en) (aa S2);rw [aa e3] at this;exact this
 have S4:Hid (lZ n l o4):=by have:=An (aa en) (aa S3);rw [aa e4] at this;exact this
 have hNP:NP<=1048576:=by have:=(pY hb (aa S2)).2;rw [aa e3] at this;rw [<-aa eP];exact Nat.le_trans this hl
 have hNV:NV<=1048576:=by have:=(pY hb (aa S4)).2;rw [aa e5] at this;rw [<-aa eV];exact Nat.le_trans this hl
 have a0:mP n (some l)=0:=by simp [mP,aa en]
 obtain ⟨A1,eA1⟩:=aH (mP n o1);obtain ⟨A2,eA2⟩:=aH (mP n o2);obtain ⟨A3,eA3⟩:=aH (mP n o3);obtain ⟨A4,eA4⟩:=aH (mP n o4);obtain ⟨A5,eA5⟩:=aH (mP n o5);have c1:=fun w' (cR:Bw w w')=>nE p c n l en w' (h.below cR) hb hl _ S0 k o1 e1;rw [a0,eA1] at c1;have c2:=fun w' (cR:Bw w w')=>Aj p c n l en w' (h.below cR) hb hl _ S1 s o2 e2;rw [eA1,eA2] at c2;have c3:=fun w' (cR:Bw w w')=>nt p c n l en w' (h.below cR) hb hl Q6 _ S2 P o3 e3 NP eP;rw [eA2,eA3] at c3;have c4:=fun w' (cR:Bw w w')=>nE p c n l en w' (h.below cR) hb hl _ S3 f o4 e4;rw [eA3,eA4] at c4;have c5:=fun w' (cR:Bw w w')=>nt p c n l en w' (h.below cR) hb hl Q6 _ S4 V o5 e5 NV eV;rw [eA4,eA5] at c5;have C1:=ae c1;have C2:=ae c2;have C3:=ae c3;have C4:=ae c4;have C5:=ae c5;have HH:=ae h;clear c1 c2 c3 c4 c5 a0 eA1 eA2 eA3 eA4 h hb;go_enter func18,ntmps18;go_wp2_with fail;obtain ⟨W,hW⟩:=ax (w.alloc (.cells #[.I 0,.U 0,.S none 0 0,.I 0,.S none 0 0,.U 0,.U 0] 29));have bW:=ju hW;have hR:sc W w.heap.size (.I 0) (.U 0) (.S none 0 0) (.I 0) (.S none 0 0) (.U 0) (.U 0):=by rw [hW];simp [sc,go_sem]
 have fR:∀ o,W.frozen? ⟨w.heap.size,o,none⟩=false:=fun o=>by rw [hW];simp [go_sem]
 have zW:w.heap.size<W.heap.size:=by rw [hW];simp
 rw [<-hW];clear hW;refine (aa C1 _ bW).mono ?_;rintro r w' ⟨rfl,rfl⟩;go_wp2_with fail;refine (aa C2 _ bW).mono ?_;rintro r w' ⟨rfl,rfl⟩;go_wp2_with fail;refine (aa C3 _ bW).mono ?_;rintro r w1 ⟨p1,c1,rfl,x1,bq⟩;have b1:=ah bW bq;have sU:=hR.below bq;have fR1:=dJ fR zW bq;have z1:=bq.size;clear hR fR bq;go_wp2_with fail;refine (aa C4 _ b1).mono ?_;rintro r w2 ⟨rfl,rfl⟩;go_wp2_with fail;refine (aa C5 _ b1).mono ?_;rintro r w3 ⟨p3,c3,rfl,x3,de⟩;have b3:=ah b1 de;have x1':=Own.below x1 de;have TG:=sU.below de;have fR3:=dJ fR1 ab de;have z3:=de.size;clear sU fR1 de;have aB8:Hid (bM P/\bM V/\0<=s/\s<18446744073709551616):=by have h1:=(pY HB S2).1;have h2:=(pY HB S4).1;have h3:=D5 (om:=o1);rw [aa e3] at h1;rw [aa e5] at h2;rw [aa e2] at h3;exact ⟨h1,h2,h3.1,h3.2⟩
 obtain ⟨X,hX⟩:=ax (w3.alloc (.cells #[.I k,.U s,.S p1 NP c1,.I f,.S p3 NV c3,.U 0,.U 0] 29));have Ax:=ju hX;have bX:Bw w X:=ah b3 Ax;have Zk:=TG.below Ax;have fRX:=dJ fR3 ab Ax;have XC:sc X w3.heap.size (.I k) (.U s) (.S p1 NP c1) (.I f) (.S p3 NV c3) (.U 0) (.U 0):=by rw [hX];simp [sc,go_sem]
 have zX:w3.heap.size<X.heap.size:=by rw [hX];simp
 have xP:=Own.below x1' Ax;have xV:=Own.below x3 Ax;have bo:∀ ob:Obj,Bw w3 (w3.alloc ob):=fun ob=>aJ.alloc aA _;have q0:=fun ob=>af TG.1 (bo ob);have q1:=fun ob=>af TG.2.1 (bo ob);have q2:=fun ob=>af TG.2.2.1 (bo ob);have q3:=fun ob=>af TG.2.2.2.1 (bo ob);have q4:=fun ob=>af TG.2.2.2.2.1 (bo ob);have q5:=fun ob=>af TG.2.2.2.2.2.1 (bo ob);have q6:=fun ob=>af TG.2.2.2.2.2.2 (bo ob);have qf:=fun (ob:Obj)=>dJ fR3 ab (bo ob);clear TG fR3 x1' x3 Ax bo;have tP:Btw w.heap.size w2.heap.size (.S p1 NP c1):=fun b hb=>by have:=x1.lt b hb;omega
 obtain ⟨r0,r1,r2,r3,r4,r5,r6⟩:=id Zk;obtain ⟨j0,j1,j2,j3,j4,j5,j6⟩:=id XC;have bs9:¬ A5<0:=by rw [<-eA5,ho];simp [mP]
 subst hk;subst hs;subst hf;have BQ:=ae hS;have HDL:=ae U3;have HFM:Hid (vH K S F NP NV 0 0=true):=by show _=_;rw [<-aa eP,<-aa eV];exact hfm
 clear hS U3 hfm;go_wp2_with fail;rw [<-hX];clear hX q0 q1 q2 q3 q4 q5 q6 qf;refine (M8 K h1 h2 S F 0 0 p1 p3 NP NV c1 c3 _ true HFM).mono ?_;rintro r y1 ⟨rfl,oM⟩;have Nk:=ah bX oM;have sU:=Zk.below oM;have Zq:=XC.below oM;have f1:=dJ fRX ab oM;have zx1:=oM.size;have xP1:=Own.below xP oM;have xV1:=Own.below xV oM;clear Zk XC fRX oM xP xV r0 r1 r2 r3 r4 r5 r6 j0 j1 j2 j3 j4 j5 j6 bX;obtain ⟨r0,r1,r2,r3,r4,r5,r6⟩:=id sU;obtain ⟨j0,j1,j2,j3,j4,j5,j6⟩:=id Zq;go_wp2_with fail;refine (CH K h1 h2 _).mono ?_;rintro r y2 ⟨rfl,rfl⟩;rw [hj];obtain ⟨M,eM⟩:∃ M,Hid ((vW K S P F V).length=M):=⟨_,rfl⟩;go_wp2_with fail;refine (RG K h2 S F BQ hF 0 0 p1 p3 NP NV c1 c3 P V eP eV _ xP1.rd xV1.rd hNP hNV M eM).mono ?_;rintro r y3 ⟨p5,c5,rfl,o5',ew⟩;have bx3:=ah Nk ew;have TG:=sU.below ew;have hO3:=Zq.below ew;have f3:=dJ f1 ab ew;have zx3:=ew.size;have xP3:=Own.below xP1 ew;have xV3:=Own.below xV1 ew;clear sU Zq f1 ew r0 r1 r2 r3 r4 r5 r6 j0 j1 j2 j3 j4 j5 j6 Nk xP1 xV1;obtain ⟨r0,r1,r2,r3,r4,r5,r6⟩:=id TG;obtain ⟨j0,j1,j2,j3,j4,j5,j6⟩:=id hO3;have hd:decide (vW K S P F V=l)=true:=by rw [<-aa HDL];simp
 have HD:=ae hd;clear hd;go_wp2_with fail;refine (mL p5 p c5 c M n (vW K S P F V) l eM en _ o5'.rd (HH.below bx3) (by rw [<-aa HDL];exact aa HB) (aa HB)).mono ?_;rintro r y4 ⟨rfl,DP⟩;rw [aa HD];have bx4:=ah bx3 DP;have Zp:=TG.below DP;have hO4:=hO3.below DP;have f4:=dJ f3 ab DP;have zx4:=DP.size;have xP4:=ae (Own.below xP3 DP);have xV4:=ae (Own.below xV3 DP);clear TG hO3 f3 DP r0 r1 r2 r3 r4 r5 r6 j0 j1 j2 j3 j4 j5 j6 bx3 xP3 xV3;obtain ⟨r0,r1,r2,r3,r4,r5,r6⟩:=id Zp;obtain ⟨j0,j1,j2,j3,j4,j5,j6⟩:=id hO4;have BX4:=ae bx4;have HZ:=ae (ag zW (ag z1 (ag z3 (ag zX (ag zx1 (ag zx3 zx4))))));have gd:¬ w.heap.size=w3.heap.size:=ab;have kX:¬ w3.heap.size=w.heap.size:=ab;clear Zp hO4 bx4;go_wp2;obtain ⟨zW,z1,z3,zX,zx1,zx3,zx4⟩:=aa HZ;refine bodyPost_ret (v:=.tuple #[X5 K S (.S p1 NP c1) F (.S p3 NV c3) 0 0,.I 0]) (by simp [results,results18,go_sem,r0,r1,r2,r3,r4,r5,r6]) rfl ⟨p1,c1,p3,c3,w2.heap.size,rfl,ab,?_,tP,?_,?_⟩;{
 refine Own.mono (B:=w'.heap.size) ?_ ab
 iterate 7 (refine ownsRow_setCell_below ?_ zW _)
 exact xP4};{
 have zz:w.heap.size<w2.heap.size:=ab
 iterate 7 (refine ownsRow_setCell_below ?_ zz _)
 exact xV4};{
 iterate 7 (refine Below.setCell ?_ aU _)
 exact BX4}
end Go.Proofs.YtcfcafeciggjeaaGreatDoor
