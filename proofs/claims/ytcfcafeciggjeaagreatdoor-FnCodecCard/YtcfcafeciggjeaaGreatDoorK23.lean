import Derived.Test.YtcfcafeciggjeaaGreatDoorAS1
namespace Go.Proofs.YtcfcafeciggjeaaGreatDoor
set_option maxHeartbeats 6400000
set_option linter.all false
set_option maxRecDepth 100000
open Go.ChangeShapes Go.WideShapes Go.ChangeAt Go.RowKit Go.Proofs.Tryz
variable {B B0 b b' i j k:Nat} {Qs:List Value} {l:List Int} {nd:aD} {ns:List aD} {p:Option Addr} {s:aY} {ss:List aY} {v v0 v1 v2 v3 v4 v5:Value}
theorem GY {w:World} {o0 o1 o2 o3 o4 o5:Value} (h:aq w b [o0,o1,o2,o3,o4,o5]) (v0 v1 v2 v3 v4 v5:Value):aq (bg w b v0 v1 v2 v3 v4 v5) b [v0,v1,v2,v3,v4,v5]:=
 (((((h.dI 0 aU v0).dI 1 aU v1).dI 2 aU v2).dI 3 aU v3).dI 4 aU v4).dI 5 aU v5
theorem rN {w:World} {vs:List Value} (h:aq w b' vs) (gd:b'≠b) (v0 v1 v2 v3 v4 v5:Value):aq (bg w b v0 v1 v2 v3 v4 v5) b' vs:=
 (((((h.rj (a:=⟨b,0,none⟩) gd v0).rj (a:=⟨b,1,none⟩) gd v1).rj (a:=⟨b,2,none⟩) gd v2).rj (a:=⟨b,3,none⟩) gd v3).rj (a:=⟨b,4,none⟩) gd v4).rj (a:=⟨b,5,none⟩) gd v5
theorem uE (w:World) (b:Nat) (v0 v1 v2 v3 v4 v5:Value):(bg w b v0 v1 v2 v3 v4 v5).heap.size=w.heap.size:=by simp [bg]
theorem fS {w:World} (gd:b'≠b) :(bg w b v0 v1 v2 v3 v4 v5).heap[b']?=w.heap[b']?:=by
 unfold bg
 iterate 6 rw [dF _ _ _ _ (show b'≠_ from gd)]
theorem rM {w:World} {ty:TypeId} (h:∃ cur,w.heap[b]?=some (.cells cur ty)) :∃ cur,(bg w b v0 v1 v2 v3 v4 v5).heap[b]?=some (.cells cur ty):=
 (bf (bf (bf (bf (bf (bf h).1).1).1).1).1).1
theorem XB.trans {vP Q2:List Value} {N M:Nat} (h:XB Qs vP N) (h2:XB vP Q2 M) (hM:N<=M):XB Qs Q2 N:=fun i Q b hq hb=>by
 rcases h2 i Q b hq hb with ⟨j,Q',hj,cR⟩ | h3;{exact h j Q' b hj cR};{exact .inr ab}
theorem bS.at {w:World} {n c:Nat} (h:bS B0 B w (.S p n c) ns) (hx:ns[i]?=some nd) :
  ∃ g P V H U,p=some ⟨g,0,none⟩/\n=ns.length/\n<=c/\w.cell? ⟨g,i*8,none⟩=some P/\w.cell? ⟨g,i*8+1,none⟩=some V/\w.cell? ⟨g,i*8+2,none⟩=some (.U nd.owner)/\w.cell? ⟨g,i*8+3,none⟩=some (.I nd.mode)/\w.cell? ⟨g,i*8+4,none⟩=some H/\w.cell? ⟨g,i*8+5,none⟩=some (.U nd.aB)/\w.cell? ⟨g,i*8+6,none⟩=some (.U nd.gen)/\w.cell? ⟨g,i*8+7,none⟩=some U/\TB w P nd.path/\TB w V nd.value/\TU B0 w H nd.holders/\TU B0 w U nd.watchers/\∀ o,w.frozen? ⟨g,o,none⟩=false:=by
 obtain ⟨p',c',e,hc,-,hp⟩:=h.form;simp only [Value.slice.injEq] at e;obtain ⟨rfl,rfl,rfl⟩:=e;obtain ⟨g,rfl⟩:=hp (by have:=(aN.1 hx).1;omega);obtain ⟨cs,-,⟨P,V,H,U,rfl,h1,h2,h3,h4⟩,la,hf⟩:=RT.at h hx;exact ⟨g,P,V,H,U,rfl,rfl,hc,la 0 _ rfl,la 1 _ rfl,la 2 _ rfl,la 3 _ rfl,la 4 _ rfl,la 5 _ rfl,la 6 _ rfl,la 7 _ rfl,h1,h2,h3,h4,hf⟩
theorem TB.gD {w:World} (h:TB w v l):∃ p c,v=.S p l.length c:=by
 obtain ⟨⟨p,c,e,-⟩,-⟩:=h;exact ⟨p,c,e⟩
theorem bS.Td {w:World} (h:bS B0 B w v ns):kJ w v ns:=by
 obtain ⟨p,c,rfl,-,-,hp⟩:=RT.form h;refine ⟨p,c,rfl,?_⟩;by_cases h0:ns=[];{exact .inl h0};{obtain ⟨g,rfl⟩:=hp (List.length_pos_iff.2 h0);refine .inr ⟨g,0,rfl,fun i nd hi=>?_⟩;obtain ⟨g',P,V,H,U,e,-,-,c0,c1,c2,c3,c4,c5,c6,c7,tP,tV,tH,tU,-⟩:=bS.at h hi;obtain ⟨rfl,-⟩:=jf e;rw [Nat.zero_add];exact ⟨P,V,H,U,c0,c1,c2,c3,c4,c5,c6,c7,tP.1,tV.1,tH.1,tU.1,tP.2.2⟩}
theorem TU.gD {w:World} (h:TU B w v l):∃ p c,v=.S p l.length c:=by
 obtain ⟨⟨p,c,e,-⟩,-⟩:=h;exact ⟨p,c,e⟩
theorem Jc (ss:List aY) (id:Int) (ev:Ev):(jG ss id ev).length=ss.length:=by simp [jG]
theorem l8 (ids:List Int) (ev:Ev):∀ ss:List aY,(fN ss ids ev).length=ss.length:=by
 unfold fN
 induction ids with
 | nil=>intro ss;rfl
 | cons a r ih=>intro ss;rw [List.foldl_cons,ih,Jc]
theorem vX {ids:List Int} {ev:Ev} {id:Int} (h:ids[k]?=some id):fN ss (ids.take (k+1)) ev=jG (fN ss (ids.take k) ev) id ev:=by
 rw [fN,List.take_add_one,h,List.foldl_append]
 rfl
theorem xD (e g x t:Int) (p:Option Addr) (n c:Nat) (q:Option Addr) (m d:Nat) (ss:List aY) (Qs:List Value) (ns:List aD) (en:Hid (ss.length=n)) (k:Nat) (kd:Int) (nd:aD) (hk:Hid (ns[k]?=some nd)) (B:Nat) (w:World) (hS:Hid (SpS B w (.S p n c) ss Qs)) (hN:Hid (SpN B w (.S q m d) ns)) (hB:B<=w.heap.size) (hn:n<=1048576) (hm:m<=1048576) (hp:nd.path.length<=1048576) (hw:nd.watchers.length<=1048576) :
  Calls prog 150 #[cY e g x t (.S p n c) (.S q m d),.I k,.I kd] w fun r w'=>r=.returned (cY e g x t (.S p n c) (.S q m d))/\(∃ vP,SpS B w' (.S p n c) (fN ss nd.watchers (kd,nd.path)) vP)/\SpN B w' (.S q m d) (ns.set k { nd with watchers:=[] })/\Fr [49,35,38] w w'/\Below B w w':=by
 obtain ⟨gn,Pv,Vv,Hv,Uv,rfl,em,hmd,c0,-,-,-,-,-,-,c7,tP,-,-,tU,yj⟩:=bS.at hN hk;have hkm:k<m:=by rw [em];exact (aN.1 (aa hk)).1
 have Rb:=aT k m;clear em;obtain ⟨pe,ce,rfl⟩:=tP.gD;obtain ⟨pu,cu,rfl⟩:=tU.gD;obtain ⟨ne,eP⟩:=aL nd.path.length;obtain ⟨nu,eU⟩:=aL nd.watchers.length;rw [aa eP] at hp tP c0;rw [aa eU] at hw tU c7;have xw:gn<w.heap.size:=(hN.lt gn rfl).2;obtain ⟨W0,dh,b0,z0,C0,T0⟩:=aj w #[.U e,.U g,.U x,.I t,.S p n c,.S (some ⟨gn,0,none⟩) m d] 27;obtain ⟨W1,iM,b1,z1,C1,T1⟩:=aj W0 #[.U 0,.U 0,.U 0,.I 0,.S none 0 0,.S none 0 0] 27;obtain ⟨W2,iL,b2,z2,C2,T2⟩:=aj W1 #[.I kd,.S pe ne ce] 49;rw [z0] at C1 T1 z1;rw [z1] at C2 T2 z2;have bW:=ah (ah b0 b1) b2;have k0:=fun (ob o2:Obj)=>af (af c0 ((Below.refl _ w).alloc aA ob)) (aJ.alloc aA o2);have k7:=fun (ob o2 o3:Obj)=>af (af (af c7 ((Below.refl _ w).alloc aA ob)) (aJ.alloc aA o2)) (aJ.alloc aA o3);have kz:=fun (ob o2 o3:Obj)=>((((((Below.refl w.heap.size w).alloc aA ob).alloc aU o2).alloc dx o3)).frozen (p:=⟨gn,k*8+7,none⟩) xw).trans (yj _);have NW:=hN.fr (al bW);obtain ⟨NX,FX⟩:=bS.put NW hk (j:=7) ab (.S none 0 0) { nd with watchers:=[] } (fun w' P V H U h1 h2 h3 h4 _=>⟨P,V,H,.S none 0 0,rfl,h1,h2,h3,TU.nil _⟩);obtain ⟨X,hX⟩:=ax (W2.setCell ⟨gn,k*8+7,none⟩ (.S none 0 0));rw [<-hX] at NX FX;have SX:=(hS.fr (al bW)).fr FX;have gd:∀ b,w.heap.size<=b->X.heap[b]?=W2.heap[b]?:=fun b hb=>by rw [hX];exact dF _ _ _ _ (by show b≠gn;omega)
 have HX:=ae (ag NX (ag SX (ag (tU.fr (al bW) bl |>.fr FX) (tP.fr (al bW) bl |>.fr FX))));have HC:=ae (ag (((C0.below ab b1).below ab b2).aS (gd _ aA)) (ag ((C1.below ab b2).aS (gd _ ab)) (C2.aS (gd _ ab))));have HT:=ae (ag ((gd _ aA).trans ((b2.block _ ab).trans ((b1.block _ ab).trans T0))) (ag ((gd _ ab).trans ((b2.block _ ab).trans T1)) ((gd _ ab).trans T2)));have BX:Below B w X:=by rw [hX];exact (bW.mono hB).setCell (hN.lt gn rfl).1 _
 have FW:Fr [49,35,38] w X:=(Fr.below bW).trans (FX.sub aU);have zX:X.heap.size=w.heap.size+3:=by rw [hX];simp;omega
 have HQ0:Hid (∀ (i:Nat) (Q:Value),Qs[i]?=some Q->∀ b,Q.ownBlock=some b->b<w.heap.size):=fun i Q hq b hb=>by obtain ⟨s,hs⟩:∃ s,ss[i]?=some s:=⟨_,aK (by rw [<-hS.len];exact (aN.1 hq).1)⟩;exact ((hS.za i s Q hs hq).lt b hb).2
 have HP0:Hid (∀ b,(Value.slice p n c).ownBlock=some b->b<w.heap.size):=fun b hb=>(hS.row.lt b hb).2;clear b0 b1 b2 C0 C1 C2 T0 T1 T2 NX SX NW gd c0 c7 yj tP tU;go_enter func150,ntmps150;go_wp2;rw [<-dh,<-iM,<-iL,<-hX];clear dh iM iL hX k0 k7 kz;have ve:∀ (vs:Array Value) (w:World),(callFunc 174 vs).run prog w=.ok (.enter 174 vs) w:=fun vs w=>cW;have Ck:=ae ve;clear ve
 go_loopw [9] (fun iv wr=>∃ (i:Nat) (Qk:List Value),i<=nu/\iv=.I i/\X.heap.size<=wr.heap.size/\Hid (SpS B wr (.S p n c) (fN ss (nd.watchers.take i) (kd,nd.path)) Qk)/\Hid (SpN B wr (.S (some ⟨gn,0,none⟩) m d) (ns.set k { nd with watchers:=[] }))/\Hid (TU B wr (.S pu nu cu) nd.watchers/\TB wr (.S pe ne ce) nd.path)/\Hid (XB Qs Qk X.heap.size) ∧
  Hid (aq wr w.heap.size [.U e,.U g,.U x,.I t,.S p n c,.S (some ⟨gn,0,none⟩) m d]/\aq wr (w.heap.size+1) [.U 0,.U 0,.U 0,.I 0,.S none 0 0,.S none 0 0]/\aq wr (w.heap.size+2) [.I kd,.S pe ne ce]) ∧
  Hid ((∃ cur,wr.heap[w.heap.size]?=some (.cells cur 27))/\(∃ cur,wr.heap[w.heap.size+1]?=some (.cells cur 27)))/\Hid (Fr [49,35,38] w wr)/\Hid (Below B w wr)) (fun iv _=>nu-(intOf iv).toNat)
 case atStart=>exact ⟨0,Qs,Nat.zero_le _,rfl,Nat.le_refl _,(by show SpS _ _ _ _ _;exact HX.2.1),HX.1,HX.2.2,(fun i Q b hq hb=>.inl ⟨i,Q,hq,hb⟩),HC,⟨⟨_,HT.1⟩,⟨_,HT.2.1⟩⟩,FW,BX⟩
 case round =>(
 obtain ⟨i,Qk,hi,rfl,zr,ri,Es,hU,hQO,uC,hTk,sY,js⟩:=hrel;have wi:IntKind.i64.wrap ((i:Int)+1)=((i+1:Nat):Int):=by rw [IntWalk.i64_in _ ab];omega
 by_cases pK:i<nu;{
 have Mu:=aT i nu;obtain ⟨id,hid⟩:∃ id,nd.watchers[i]?=some id:=⟨_,aK (by rw [aa eU];exact pK)⟩;obtain ⟨bw,ow,rfl,Wj⟩:=hU.1.1.at hid;have E1:=ae (vX (ss:=ss) (ev:=(kd,nd.path)) hid);clear hid;obtain ⟨vA,aX⟩:=ax wr.drew;have cI:=dG aX;have zA:=cI.size;have CA:=ae (ag (uC.1.below ab cI) (ag (uC.2.1.below ab cI) (uC.2.2.below ab cI)));have UA:=ae (ag (hU.1.fr (al cI)) (hU.2.fr (al cI)));have SA:=ae (ri.fr (al cI));have NA:=ae (Es.fr (al cI));have TA:=ae (ag (hTk.1.imp fun cur h=>(cI.block _ ab).trans h) (hTk.2.imp fun cur h=>(cI.block _ ab).trans h));have FA:=ae (sY.trans (Fr.below cI));have BA:=ae (js.trans (cI.mono (by have:=js.size;omega)));have hwA:=af Wj cI;have HG:=ae (MX e g x t p n c (some ⟨gn,0,none⟩) m d _ Qk (ae (by rw [l8,aa en])) id kd pe ne ce nd.path eP B vA SA (ae UA.2) (by have:=BA.size;omega) hn hp);go_wp2_with fail;refine bO (fun w'=>w'.cell? ⟨w.heap.size,0,none⟩=some (.U e)/\w'.cell? ⟨w.heap.size,1,none⟩=some (.U g)/\w'.cell? ⟨w.heap.size,2,none⟩=some (.U x)/\w'.cell? ⟨w.heap.size,3,none⟩=some (.I t)/\w'.cell? ⟨w.heap.size,4,none⟩=some (.S p n c)/\w'.cell? ⟨w.heap.size,5,none⟩=some (.S (some ⟨gn,0,none⟩) m d)/\w'.cell? ⟨w.heap.size+2,0,none⟩=some (.I kd)/\w'.cell? ⟨w.heap.size+2,1,none⟩=some (.S pe ne ce)/\w'.cell? ⟨bw,ow+i,none⟩=some (.U id)) (by rw [<-aX];exact ⟨CA.1.1 0 _ rfl,CA.1.1 1 _ rfl,CA.1.1 2 _ rfl,CA.1.1 3 _ rfl,CA.1.1 4 _ rfl,CA.1.1 5 _ rfl,CA.2.2.1 0 _ rfl,CA.2.2.1 1 _ rfl,hwA⟩) fun hS=>?_;rw [<-aX] at hS ⊢;clear aX cI Wj hwA;refine gC 0 1 2 3 hS ?_;refine fe 4 5 hS ?_;refine bH 6 fun KK hK=>?_;refine Iu bU 174 _ _ _ _ bU (cY e g x t (.S p n c) (.S (some ⟨gn,0,none⟩) m d)) (.U id) (.agg #[.I kd,.S pe ne ce]) bU bU bU (fun _=>aa Ck _ _) HG ?_;rintro r v1 ⟨rfl,⟨Q1,MM,L8⟩,MB,yF,bq⟩;refine ⟨_,rfl,?_⟩;have kb:v1.heap[w.heap.size+2]?=vA.heap[w.heap.size+2]?:=MB _ ab (fun j Q hq e=>by rcases aa hQO j Q _ hq e with ⟨j',Q',hj,e'⟩ | h;{have:=aa HQ0 j' Q' hj _ e';omega};{omega}) (fun e=>by have:=aa HP0 _ e;omega)
 obtain ⟨⟨cu0,t0⟩,⟨cu1,t1⟩⟩:=aa TA;have t0':=yF.2 _ _ _ _ bl t0;have t1':=yF.2 _ _ _ _ bl t1;have C1:=ae (ag (CA.1.aS (t0'.trans t0.symm)) (ag (CA.2.1.aS (t1'.trans t1.symm)) (CA.2.2.aS kb)));have U1:=ae (ag (UA.1.fr yF) (UA.2.fr yF));have N1:=ae (NA.fr yF);have S1:=ae MM;have T1:=ae (ag t0' t1');have Q1':=ae (hQO.trans L8 ab);have F1:=ae (FA.trans (yF.sub aU));have B1:=ae (BA.trans bq);have z1:=bq.size;have Wj:v1.cell? ⟨bw,ow+i,none⟩=some (.U id):=by obtain ⟨-,h2⟩:=U1.1;exact (ai (by obtain ⟨cur,hc⟩:=UA.1.2.1 bw rfl;exact (yF.2 _ _ _ _ bl hc).trans hc.symm) _).trans hS.2.2.2.2.2.2.2.2
 refine cg hK (by exact ⟨C1.1.1 0 _ rfl,C1.1.1 1 _ rfl,C1.1.1 2 _ rfl,C1.1.1 3 _ rfl,C1.1.1 4 _ rfl,C1.1.1 5 _ rfl,C1.2.2.1 0 _ rfl,C1.2.2.1 1 _ rfl,Wj⟩) fun hS=>?_;clear hK KK MM L8 MB yF bq kb t0 t1 t0' t1' Wj;refine bH 7 fun KK hK=>?_;have yj:=C1.1.2;go_simp;obtain ⟨v2,pG⟩:=ax (bg v1 w.heap.size (.U e) (.U g) (.U x) (.I t) (.S p n c) (.S (some ⟨gn,0,none⟩) m d));have F2:Fr [27] v1 v2:=by rw [pG];exact dT T1.1
 have B2:Below w.heap.size v1 v2:=by rw [pG];exact bt _ _ _ _ _ _ _ _
 have C2:aq v2 w.heap.size [.U e,.U g,.U x,.I t,.S p n c,.S (some ⟨gn,0,none⟩) m d]:=by rw [pG];exact GY C1.1 _ _ _ _ _ _
 have C3:aq v2 (w.heap.size+1) [.U 0,.U 0,.U 0,.I 0,.S none 0 0,.S none 0 0]:=by rw [pG];exact rN C1.2.1 ab _ _ _ _ _ _
 have C4:aq v2 (w.heap.size+2) [.I kd,.S pe ne ce]:=by rw [pG];exact rN C1.2.2 ab _ _ _ _ _ _
 have z2:v2.heap.size=v1.heap.size:=by rw [pG];exact uE _ _ _ _ _ _ _ _
 have T2:(∃ cur,v2.heap[w.heap.size]?=some (.cells cur 27))/\∃ cur,v2.heap[w.heap.size+1]?=some (.cells cur 27):=by rw [pG];exact ⟨rM ⟨_,T1.1⟩,_,(fS ab).trans T1.2⟩
 have ad3:v2.cell? ⟨bw,ow+i,none⟩=some (.U id):=by
  have hb:bw≠w.heap.size:=fun e2=>by obtain ⟨cur,hc⟩:=U1.1.2.1 bw rfl;rw [e2,T1.1] at hc;simp at hc
  rw [pG];exact (ai (fS hb) _).trans hS.2.2.2.2.2.2.2.2
 have R2:=ae (ag C2 (ag C3 (ag C4 (ag T2 (ag F2 B2)))));unfold bg at pG;rw [<-pG];refine cg hK (by exact ⟨C2.1 0 _ rfl,C2.1 1 _ rfl,C2.1 2 _ rfl,C2.1 3 _ rfl,C2.1 4 _ rfl,C2.1 5 _ rfl,C4.1 0 _ rfl,C4.1 1 _ rfl,ad3⟩) fun hS=>?_;clear hK KK pG C2 C3 C4 T2 F2 B2 yj ad3;refine bu ?_;clear hS;go_wp2;go_roundw
 case rel=>exact ⟨i+1,Q1,ab,by go_num,ab,(by show SpS _ _ _ _ _;rw [aa E1];exact S1.fr R2.2.2.2.2.1),N1.fr R2.2.2.2.2.1,⟨U1.1.fr R2.2.2.2.2.1,U1.2.fr R2.2.2.2.2.1⟩,Q1',⟨R2.1,R2.2.1,R2.2.2.1⟩,R2.2.2.2.1,⟨Nat.le_trans F1.1 R2.2.2.2.2.1.1,fun b cur ty mm ht hb=>(R2.2.2.2.2.2.block b (gN hb)).trans (F1.2 b cur ty mm ht hb)⟩,B1.trans (R2.2.2.2.2.2.mono hB)⟩
 exact dC};{have Mu:=dy i nu;have SF:=aa ri;rw [List.take_of_length_le (by rw [aa eU];omega)] at SF;have HSF:=ae SF;clear SF;obtain ⟨K0,kf⟩:=uC.1;obtain ⟨R0,rf⟩:=uC.2.1;have k0:=K0 0 _ rfl;have k1:=K0 1 _ rfl;have k2:=K0 2 _ rfl;have k3:=K0 3 _ rfl;have k4:=K0 4 _ rfl;have k5:=K0 5 _ rfl;have q0:=R0 0 _ rfl;have q1:=R0 1 _ rfl;have q2:=R0 2 _ rfl;have q3:=R0 3 _ rfl;have q4:=R0 4 _ rfl;have q5:=R0 5 _ rfl;clear K0 R0;go_wp2;obtain ⟨cu,tq⟩:=hTk.2;have hF:=dT (v0:=.U e) (v1:=.U g) (v2:=.U x) (v3:=.I t) (v4:=.S p n c) (v5:=.S (some ⟨gn,0,none⟩) m d) tq;have yG:Below (w.heap.size+1) wr (bg wr (w.heap.size+1) (.U e) (.U g) (.U x) (.I t) (.S p n c) (.S (some ⟨gn,0,none⟩) m d)):=bt _ _ _ _ _ _ _ _;refine bodyPost_ret (v:=cY e g x t (.S p n c) (.S (some ⟨gn,0,none⟩) m d)) (by simp [results,results150,go_sem,q0,q1,q2,q3,q4,q5]) rfl ?_;exact ⟨rfl,⟨_,HSF.fr hF⟩,Es.fr hF,⟨Nat.le_trans sY.1 yG.size,fun b cur ty mm ht hb=>(yG.block b (by have:=gN hb;omega)).trans (sY.2 b cur ty mm ht hb)⟩,js.trans (yG.mono ab)⟩})
theorem eG {w:World} {ops:Array Oper} {rest:List Oper} {o:Oper} {a:Act} {Q:Exit->Act->World->Prop} (jK:o.guard=none) (s x:Operand)
  (ho:o.op=.call { callee:=.builtin .append,args:=#[s,x],argTypes:=#[25,25] })
 (B:Nat) (v:Value) (ns:List aD) (nd:aD) (k:Nat) (ek:Hid (ns.length=k)) (hs:a.eval s=v) (br:bS B0 B w v ns) (g:Nat) (cs:List Value) (hx:a.eval x=.S (some ⟨g,0,none⟩) 1 1) (pL:jg B0 w nd cs) (eh:∀ j u,cs[j]?=some u->w.cell? ⟨g,j,none⟩=some u)
  (hk:k<4194304) (hB:B<=w.heap.size)
  (h:∀ p' c' w',bS B0 B w' (.S p' (k+1) c') (ns++[nd])->w.grownBy w' v.ownBlock->Fr [38] w w'->wpList prog ops Q rest (a.put o.dst (.S p' (k+1) c')) w'):wpList prog ops Q (o::rest) a w:=by
 obtain ⟨i,hi,mw,iT,jW⟩:=info_parts Tryz.infoNod;have ht:=br.nJ;obtain ⟨rs,h1,h2,h3,h4⟩:=br;have Bo:cs.length=8/\∀ u∈cs,u.oneCell'=true:=by obtain ⟨P,V,H,U,rfl,a1,a2,a3,a4⟩:=pL;obtain ⟨_,_,rfl⟩:=a1.gD;obtain ⟨_,_,rfl⟩:=a2.gD;obtain ⟨_,_,rfl⟩:=a3.gD;obtain ⟨_,_,rfl⟩:=a4.gD;exact ⟨rfl,fun u hu=>by simp at hu;rcases hu with rfl | rfl | rfl | rfl | rfl | rfl | rfl | rfl<;>rfl⟩
 rw [aa ek] at h3;refine e8 jK s x 25 ho B 38 i _ 8 128 underlying25 hi mw iT jW rfl bl v _ _ hs h3 g 1 1 cs hx Bo.1 eh Bo.2 jC ab hB ?_;intro v' w' dW hg _;have hf:Fr [38] w w':=Fr.grown hg fun b hb=>by obtain ⟨cur,hc⟩:=ht b hb;exact ⟨cur,_,hc,aU⟩
 have sn:bS B0 B w' v' (ns++[nd]):=RT.snoc h1 h2 h4 (jg.fr hf bl bl) pL Bo.1 (by rw [aa ek];exact dW);obtain ⟨p',c',rfl,-⟩:=RT.form sn;rw [List.length_append,aa ek] at sn ⊢;exact h p' c' w' sn hg hf
theorem Qj (h:ns[j]?=some nd):(ns.take (j+1)).eraseIdx k=if j=k then (ns.take j).eraseIdx k else (ns.take j).eraseIdx k++[nd]:=by
 have hj:=(aN.1 h).1;have hl:(ns.take j).length=j:=by rw [List.length_take];omega
 rw [List.take_add_one,h,Option.toList_some];by_cases e:j=k;{subst e;rw [if_pos rfl,List.eraseIdx_append_of_length_le ab,hl,Nat.sub_self,List.eraseIdx_of_length_le (l:=ns.take j) ab];simp};{rw [if_neg e];by_cases e2:k<j;{rw [List.eraseIdx_append_of_lt_length ab]};{rw [List.eraseIdx_append_of_length_le ab,hl,List.eraseIdx_of_length_le (l:=ns.take j) ab,List.eraseIdx_of_length_le dx]}}
theorem qD (e g x t:Int) (p:Option Addr) (n c:Nat) (q:Option Addr) (m d:Nat) (ns:List aD) (em:Hid (ns.length=m)) (k:Nat) (B:Nat) (w:World) (hN:Hid (SpN B w (.S q m d) ns)) (hm:m<=1048576) :
  Calls prog 137 #[cY e g x t (.S p n c) (.S q m d),.I k] w fun r w'=>∃ p' c',r=.returned (cY e g x t (.S p n c) (.S p' (ns.eraseIdx k).length c'))/\bS B w.heap.size w' (.S p' (ns.eraseIdx k).length c') (ns.eraseIdx k)/\Bw w w':=by
 obtain ⟨W0,dh,b0,z0,C0,T0⟩:=aj w #[.U e,.U g,.U x,.I t,.S p n c,.S q m d] 27;obtain ⟨W1,iM,b1,z1,C1,T1⟩:=aj W0 #[.U 0,.U 0,.U 0,.I 0,.S none 0 0,.S none 0 0] 27;rw [z0] at C1 T1 z1;have bW:=ae (ah b0 b1);have HC:=ae (ag (C0.below ab b1) C1);have HT:=ae (ag ((b1.block _ ab).trans T0) T1);go_enter func137,ntmps137;go_wp2;rw [<-dh,<-iM]
 go_loopw [5,6] (fun ov iv wr=>∃ (j:Nat) (L:List aD) (nl:Nat) (po:Option Addr) (co:Nat),j<=m/\iv=.I j/\ov=.S po nl co/\Hid (L.length=nl)/\Hid ((ns.take j).eraseIdx k=L)/\Hid (bS B (w.heap.size+2) wr (.S po nl co) L)/\Hid (Below (w.heap.size+2) W1 wr)) (fun _ iv _=>m-(intOf iv).toNat)
 case atStart=>exact ⟨0,[],0,none,0,Nat.zero_le _,rfl,rfl,ae rfl,(by show _=_;simp),RT.nil _ _ _ _ _,Below.refl _ _⟩
 case round =>(
 obtain ⟨j,L,nl,po,co,hj,rfl,rfl,je,hL,ho,aR⟩:=hrel;have zr:=aR.size;have Q8:nl<4194304:=by have h1:=(List.eraseIdx_sublist (ns.take j) k).length_le;have h2:=List.length_take_le j ns;rw [aa hL,aa je] at h1;omega
 have HCr:=ae (ag (HC.1.below ab (aR.mono ab:Bw W1 wr)) (HC.2.below ab (aR.mono ab:Bw W1 wr)));have s5:=HCr.1.1 5 _ rfl;by_cases bj:j<m;{
 have da:=aT j m;obtain ⟨nd,aV⟩:∃ nd,ns[j]?=some nd:=⟨_,aK (by rw [aa em];exact bj)⟩;have dz:=Qj (k:=k) aV;rw [aa hL] at dz;have lr:=ae dz;by_cases he:j=k;{
 have E1:Hid ((ns.take (j+1)).eraseIdx k=L):=by have:=aa lr;rwa [if_pos he] at this
 have Ho:((j:Int) != (k:Int))=false:=by simp;omega
 go_wp2;go_roundw
 case rel=>exact ⟨j+1,L,nl,po,co,ab,by go_num,rfl,je,E1,ho,aR⟩
 exact dC};{
 have E1:Hid ((ns.take (j+1)).eraseIdx k=L++[nd]):=by have:=aa lr;rwa [if_neg he] at this
 have Ho:((j:Int) != (k:Int))=true:=by simp;omega
 have bwr:Bw w wr:=bW.trans (aR.mono ab);obtain ⟨gn,P,V,H,U,rfl,-,-,c0,c1,c2,c3,c4,c5,c6,c7,tP,tV,tH,tU,-⟩:=bS.at (hN.fr (al bwr)) aV;obtain ⟨pP,cP,rfl⟩:=tP.gD;obtain ⟨pV,cV,rfl⟩:=tV.gD;obtain ⟨pH,cH,rfl⟩:=tH.gD;obtain ⟨pU,cU,rfl⟩:=tU.gD;obtain ⟨v3,JW⟩:=ax (wr.alloc (.cells #[.S pP nd.path.length cP,.S pV nd.value.length cV,.U nd.owner,.I nd.mode,.S pH nd.holders.length cH,.U nd.aB,.U nd.gen,.S pU nd.watchers.length cU] 38));have b3:=ju JW;have HX:=ae (ag (ho.fr (al b3)) (ag (show jg B v3 nd [.S pP nd.path.length cP,.S pV nd.value.length cV,.U nd.owner,.I nd.mode,.S pH nd.holders.length cH,.U nd.aB,.U nd.gen,.S pU nd.watchers.length cU] from ⟨_,_,_,_,rfl,tP.fr (al b3),tV.fr (al b3),tH.fr (al b3),tU.fr (al b3)⟩) (show aq v3 wr.heap.size _ by rw [JW];exact aq.alloc wr _ _)));have yB:=ae fun b e=>(ho.lt b e).1;have b3':=ae b3;have z3:=b3.size;go_wp2_with (at_builtin;rw [<-JW];refine eG rfl _ _ rfl (w.heap.size+2) (.S po nl co) L nd nl je rfl HX.1 wr.heap.size _ rfl HX.2.1 HX.2.2.1 Q8 ab ?_);intro p' c' w' o2 fU _;rw [<-JW] at fU;have b4:=ae ((aR.trans (b3'.mono ab)).grown fU ab yB);have O2:=ae o2;go_wp2;go_roundw
 case rel=>exact ⟨j+1,L++[nd],nl+1,p',c',ab,by go_num,rfl,ae (by rw [List.length_append,aa je];rfl),E1,O2,b4⟩
 exact dC}};{have da:=dy j m;have iw:=aa hL;rw [List.take_of_length_le (by rw [aa em];omega)] at iw;obtain ⟨K0,kf⟩:=HCr.1;obtain ⟨R0,rf⟩:=HCr.2;have k0:=K0 0 _ rfl;have k1:=K0 1 _ rfl;have k2:=K0 2 _ rfl;have k3:=K0 3 _ rfl;have k4:=K0 4 _ rfl;have q0:=R0 0 _ rfl;have q1:=R0 1 _ rfl;have q2:=R0 2 _ rfl;have q3:=R0 3 _ rfl;have q4:=R0 4 _ rfl;have q5:=R0 5 _ rfl;have Kh:=ae (ag ((aR.block _ ab).trans HT.1) ((aR.block _ ab).trans HT.2));go_wp2;subst iw;have en:=aa je;subst en;have f1:=bf (j:=5) (u:=.S po (ns.eraseIdx k).length co) ⟨_,Kh.1⟩;have t1:(wr.setCell ⟨w.heap.size,5,none⟩ (.S po (ns.eraseIdx k).length co)).heap[w.heap.size+1]?=_:=(dF _ _ _ _ (by show w.heap.size+1≠w.heap.size;omega)).trans Kh.2;have f2:=dT (v0:=.U e) (v1:=.U g) (v2:=.U x) (v3:=.I t) (v4:=.S p n c) (v5:=.S po (ns.eraseIdx k).length co) t1;have yG:=((bW.trans (aR.mono ab)).setCell (p:=⟨w.heap.size,5,none⟩) aA (.S po (ns.eraseIdx k).length co)).trans ((bt _ (w.heap.size+1) (.U e) (.U g) (.U x) (.I t) (.S p n c) (.S po (ns.eraseIdx k).length co)).mono ab);refine bodyPost_ret (v:=cY e g x t (.S p n c) (.S po (ns.eraseIdx k).length co)) (by simp [results,results137,go_sem,q0,q1,q2,q3,q4,q5]) rfl ?_;exact ⟨po,co,rfl,((ho.fr f1.2).fr f2).mono ab,yG⟩})
theorem SpS.at {w:World} {n c:Nat} (h:SpS B w (.S p n c) ss Qs) (hx:ss[i]?=some s) :
  ∃ g Q,p=some ⟨g,0,none⟩/\n=ss.length/\n<=c/\Qs[i]?=some Q/\w.cell? ⟨g,i*3,none⟩=some (.U s.1)/\w.cell? ⟨g,i*3+1,none⟩=some (.I s.2.1)/\w.cell? ⟨g,i*3+2,none⟩=some Q/\mu B w Q s.2.2/\∀ o,w.frozen? ⟨g,o,none⟩=false:=by
 have hi:=(aN.1 hx).1;obtain ⟨Q,hQ⟩:∃ Q,Qs[i]?=some Q:=⟨_,aK (by rw [h.len];exact hi)⟩;have hz:(ss.zip Qs)[i]?=some (s,Q):=by rw [List.getElem?_zip_eq_some];exact ⟨hx,hQ⟩
 have hl:(ss.zip Qs).length=ss.length:=by rw [List.length_zip,h.len];simp
 obtain ⟨p',c',e,hc,-,hp⟩:=h.row.form;rw [hl] at e hc hp;simp only [Value.slice.injEq] at e;obtain ⟨rfl,rfl,rfl⟩:=e;obtain ⟨g,rfl⟩:=hp ab;obtain ⟨cs,-,he,la,hf⟩:=RT.at h.row hz;unfold r8 at he;subst he;exact ⟨g,Q,rfl,rfl,hc,hQ,la 0 _ rfl,la 1 _ rfl,la 2 _ rfl,h.za i s Q hx hQ,hf⟩
def lT (ss:List aY) (id:Int):Int:=match ss.findIdx? (fun s=>s.1==id) with
 | some i=>i
 | none=>-1
theorem GR {id:Int} (h:ss[j]?=some s) (hs:s.1=id) (jS:∀ (i:Nat) (s':aY),i<j->ss[i]?=some s'->¬ s'.1=id):lT ss id=j:=by
 have hj:=(aN.1 h);have:ss.findIdx? (fun s=>s.1==id)=some j:=by rw [List.findIdx?_eq_some_iff_getElem];refine ⟨hj.1,by rw [hj.2];simp [hs],fun i hi=>?_⟩;have:=jS i _ hi (aK (by have:=hj.1;omega));simpa using this
 rw [lT,this]
theorem KO {id:Int} (jS:∀ (i:Nat) (s':aY),ss[i]?=some s'->¬ s'.1=id):lT ss id=-1:=by
 have:ss.findIdx? (fun s=>s.1==id)=none:=by rw [List.findIdx?_eq_none_iff];intro x hx;obtain ⟨i,hi⟩:=List.mem_iff_getElem?.1 hx;simpa using jS i x hi
 rw [lT,this]
theorem EW (e g x t:Int) (p:Option Addr) (n c:Nat) (q:Option Addr) (m d:Nat) (ss:List aY) (Qs:List Value) (en:Hid (ss.length=n)) (id:Int) (B:Nat) (w:World) (hS:Hid (SpS B w (.S p n c) ss Qs)) (hn:n<=1048576) :
  Calls prog 104 #[cY e g x t (.S p n c) (.S q m d),.U id] w fun r w'=>r=.returned (.I (lT ss id))/\Bw w w':=by
 obtain ⟨W0,dh,b0,z0,C0,T0⟩:=aj w #[.U e,.U g,.U x,.I t,.S p n c,.S q m d] 27;have bW:=ae b0;have HC:=ae C0;clear b0 C0 T0;go_enter func104,ntmps104;go_wp2;rw [<-dh];clear dh
 go_loopw [5] (fun iv wr=>∃ j:Nat,j<=n/\iv=.I j/\Hid (∀ (i:Nat) (s':aY),i<j->ss[i]?=some s'->¬ s'.1=id)/\Hid (Bw W0 wr)) (fun iv _=>n-(intOf iv).toNat)
 case atStart=>exact ⟨0,Nat.zero_le _,rfl,(fun i s' h=>absurd h ab),Below.refl _ _⟩
 case round =>(
 obtain ⟨j,hj,rfl,jS,aR⟩:=hrel;have s4:=(HC.below ab aR).1 4 _ rfl;by_cases bj:j<n;{
 have da:=aT j n;obtain ⟨s,hs⟩:∃ s,ss[j]?=some s:=⟨_,aK (by rw [aa en];exact bj)⟩;have bwr:Bw w wr:=ah bW aR;obtain ⟨gs,Q,rfl,-,-,-,c0,-⟩:=SpS.at (hS.fr (al bwr)) hs;have HB:=ae bwr;have HS:=ae hs;clear hs bwr;obtain ⟨I,J,K⟩:=s;by_cases he:I=id;{
 subst he;have Ho:(I==I)=true:=aU;go_wp2;go_ret;refine ⟨?_,HB⟩;rw [GR (aa HS) rfl (aa jS)]
 rfl}
 {
 have Mf:Hid (∀ (i:Nat) (s':aY),i<j+1->ss[i]?=some s'->¬ s'.1=id):=fun i s' hi h=>by by_cases e2:i=j;{subst e2;rw [aa HS] at h;cases h;exact he};{exact jS i s' ab h}
 go_wp2;go_roundw
 case rel=>exact ⟨j+1,ab,by go_num,Mf,aR⟩
 exact dC}};{have da:=dy j n;have HE:=ae (KO (fun i s' h=>aa jS i s' (by have:=(aN.1 h).1;rw [aa en] at this;omega) h));have HB:Hid (Bw w wr):=ah bW aR;go_wp2;go_ret;exact ⟨by rw [aa HE];rfl,aa HB⟩})
end Go.Proofs.YtcfcafeciggjeaaGreatDoor
