import Derived.Test.YtmfjiolopcbcmaaGreatDoorAS1
namespace Go.Proofs.YtmfjiolopcbcmaaGreatDoor
set_option maxHeartbeats 6400000
set_option linter.unusedVariables false
set_option linter.unusedSimpArgs false
set_option maxRecDepth 100000
open Go.ChangeShapes Go.WideShapes Go.ChangeAt Go.RowKit Go.Proofs.Tryz
variable {B b b' i j k:Nat} {Qs:List Value} {id:Int} {l:List Int} {nd:aA} {ns:List aA} {p:Option Addr} {s:aR} {ss:List aR} {v v0 v1 v2 v3 v4 v5:Value} {w:World}
theorem Gm {o0 o1 o2 o3 o4 o5:Value} (h:ah w b [o0,o1,o2,o3,o4,o5]) (v0 v1 v2 v3 v4 v5:Value):ah (db w b v0 v1 v2 v3 v4 v5) b [v0,v1,v2,v3,v4,v5]:=
 (((((h.dC 0 (by simp) v0).dC 1 (by simp) v1).dC 2 (by simp) v2).dC 3 (by simp) v3).dC 4 (by simp) v4).dC 5 (by simp) v5
theorem qR {vs:List Value} (h:ah w b' vs) (bm:b'≠b) (v0 v1 v2 v3 v4 v5:Value):ah (db w b v0 v1 v2 v3 v4 v5) b' vs:=
 (((((h.kO (a:=⟨b,0,none⟩) bm v0).kO (a:=⟨b,1,none⟩) bm v1).kO (a:=⟨b,2,none⟩) bm v2).kO (a:=⟨b,3,none⟩) bm v3).kO (a:=⟨b,4,none⟩) bm v4).kO (a:=⟨b,5,none⟩) bm v5
theorem oe (w:World) (b:Nat) (v0 v1 v2 v3 v4 v5:Value):(db w b v0 v1 v2 v3 v4 v5).heap.size=w.heap.size:=by simp [db]
theorem jS (bm:b'≠b) :(db w b v0 v1 v2 v3 v4 v5).heap[b']?=w.heap[b']?:=by
 unfold db
 iterate 6 rw [dr _ _ _ _ (show b'≠_ from bm)]
theorem qQ {ty:TypeId} (h:∃ cur,w.heap[b]?=some (.cells cur ty)) :∃ cur,(db w b v0 v1 v2 v3 v4 v5).heap[b]?=some (.cells cur ty):=
 (bO (bO (bO (bO (bO (bO h).1).1).1).1).1).1
theorem Wk.trans {vT Q2:List Value} {N M:Nat} (h:Wk Qs vT N) (h2:Wk vT Q2 M) (hM:N<=M):Wk Qs Q2 N:=fun i Q b hq hb=>by
 rcases h2 i Q b hq hb with ⟨j,Q',hj,bu⟩ | h3;{exact h j Q' b hj bu};{exact .inr (by omega)}
theorem dA.at {n c:Nat} (h:dA B w (.slice p n c) ns) (hx:ns[i]?=some nd) :
  ∃ g P V H U,p=some ⟨g,0,none⟩/\n=ns.length/\n<=c/\w.cell? ⟨g,i*8,none⟩=some P/\w.cell? ⟨g,i*8+1,none⟩=some V/\w.cell? ⟨g,i*8+2,none⟩=some (.int .u64 nd.owner)/\w.cell? ⟨g,i*8+3,none⟩=some (.int .i64 nd.mode)/\w.cell? ⟨g,i*8+4,none⟩=some H/\w.cell? ⟨g,i*8+5,none⟩=some (.int .u64 nd.aC)/\w.cell? ⟨g,i*8+6,none⟩=some (.int .u64 nd.gen)/\w.cell? ⟨g,i*8+7,none⟩=some U/\TB w P nd.path/\TB w V nd.value/\TU w H nd.holders/\TU w U nd.watchers/\∀ o,w.frozen? ⟨g,o,none⟩=false:=by
 obtain ⟨p',c',e,hc,-,hp⟩:=h.form;simp only [Value.slice.injEq] at e;obtain ⟨rfl,rfl,rfl⟩:=e;obtain ⟨g,rfl⟩:=hp (by have:=(aM.1 hx).1;omega);obtain ⟨cs,-,⟨P,V,H,U,rfl,h1,h2,h3,h4⟩,jA,hf⟩:=RT.at h hx;exact ⟨g,P,V,H,U,rfl,rfl,hc,jA 0 _ rfl,jA 1 _ rfl,jA 2 _ rfl,jA 3 _ rfl,jA 4 _ rfl,jA 5 _ rfl,jA 6 _ rfl,jA 7 _ rfl,h1,h2,h3,h4,hf⟩
theorem TB.ed (h:TB w v l):∃ p c,v=.slice p l.length c:=by
 obtain ⟨⟨p,c,e,-⟩,-⟩:=h;exact ⟨p,c,e⟩
theorem dA.WO (h:dA B w v ns):jB w v ns:=by
 obtain ⟨p,c,rfl,-,-,hp⟩:=RT.form h;refine ⟨p,c,rfl,?_⟩;by_cases h0:ns=[];{exact .inl h0};{obtain ⟨g,rfl⟩:=hp (List.length_pos_iff.2 h0);refine .inr ⟨g,0,rfl,fun i nd hi=>?_⟩;obtain ⟨g',P,V,H,U,e,-,-,c0,c1,c2,c3,c4,c5,c6,c7,tP,tV,tH,tU,-⟩:=dA.at h hi;simp only [Option.some.injEq,Addr.mk.injEq,and_true] at e;subst e;rw [Nat.zero_add];exact ⟨P,V,H,U,c0,c1,c2,c3,c4,c5,c6,c7,tP.1,tV.1,tH.1,tU.1,tP.2.2⟩}
theorem TU.ed (h:TU w v l):∃ p c,v=.slice p l.length c:=by
 obtain ⟨⟨p,c,e,-⟩,-⟩:=h;exact ⟨p,c,e⟩
theorem Ii (ss:List aR) (id:Int) (ev:Ev):(lx ss id ev).length=ss.length:=by simp [lx]
theorem kT (ids:List Int) (ev:Ev):∀ ss:List aR,(jD ss ids ev).length=ss.length:=by
 unfold jD
 induction ids with
 | nil=>intro ss;rfl
 | cons a r ih=>intro ss;rw [List.foldl_cons,ih,Ii]
theorem ux {ids:List Int} {ev:Ev} (h:ids[k]?=some id):jD ss (ids.take (k+1)) ev=lx (jD ss (ids.take k) ev) id ev:=by
 rw [jD,List.take_add_one,h,List.foldl_append]
 rfl
theorem qN (e g x t:Int) (p:Option Addr) (n c:Nat) (q:Option Addr) (m d:Nat) (ss:List aR) (Qs:List Value) (ns:List aA) (en:Hid (ss.length=n)) (k:Nat) (kd:Int) (nd:aA) (hk:Hid (ns[k]?=some nd)) (B:Nat) (w:World) (hS:Hid (fK B w (.slice p n c) ss Qs)) (hN:Hid (dA B w (.slice q m d) ns)) (hB:B<=w.heap.size) (hn:n<=1048576) (hm:m<=1048576) (hp:nd.path.length<=1048576) (hw:nd.watchers.length<=1048576) :
  Calls prog 100 #[cL e g x t (.slice p n c) (.slice q m d),.int .i64 k,.int .i64 kd] w fun r w'=>r=.returned (cL e g x t (.slice p n c) (.slice q m d))/\(∃ vT,fK B w' (.slice p n c) (jD ss nd.watchers (kd,nd.path)) vT)/\dA B w' (.slice q m d) (ns.set k { nd with watchers:=[] })/\Fr [147,95,103] w w'/\Below B w w':=by
 obtain ⟨gn,Pv,Vv,Hv,Uv,rfl,em,hmd,c0,-,-,-,-,-,-,c7,tP,-,-,tU,wS⟩:=dA.at hN hk;have YL:k<m:=by rw [em];exact (aM.1 (aa hk)).1
 have PJ:(k:Int)<(m:Int):=by omega
 clear em;obtain ⟨pe,ce,rfl⟩:=tP.ed;obtain ⟨pu,cu,rfl⟩:=tU.ed;obtain ⟨ne,eP⟩:∃ ne,Hid (nd.path.length=ne):=⟨_,ae rfl⟩;obtain ⟨nu,eU⟩:∃ nu,Hid (nd.watchers.length=nu):=⟨_,ae rfl⟩;rw [aa eP] at hp tP c0;rw [aa eU] at hw tU c7;have Jj:gn<w.heap.size:=(hN.lt gn rfl).2;obtain ⟨W0,dT,b0,z0,C0,T0⟩:=au w #[.int .u64 e,.int .u64 g,.int .u64 x,.int .i64 t,.slice p n c,.slice (some ⟨gn,0,none⟩) m d] 35;obtain ⟨W1,fN,b1,z1,C1,T1⟩:=au W0 #[.int .u64 0,.int .u64 0,.int .u64 0,.int .i64 0,.slice none 0 0,.slice none 0 0] 35;obtain ⟨W2,gr,b2,z2,C2,T2⟩:=au W1 #[.int .i64 kd,.slice pe ne ce] 147;rw [z0] at C1 T1 z1;rw [z1] at C2 T2 z2;have bW:=ai (ai b0 b1) b2;have k0:=fun (ob o2:Obj)=>af (af c0 ((Below.refl _ w).alloc ay ob)) (ar.alloc ay o2);have k7:=fun (ob o2 o3:Obj)=>af (af (af c7 ((Below.refl _ w).alloc ay ob)) (ar.alloc ay o2)) (ar.alloc ay o3);have kz:=fun (ob o2 o3:Obj)=>((((((Below.refl w.heap.size w).alloc ay ob).alloc (by simp) o2).alloc (by simp;omega) o3)).frozen (p:=⟨gn,k*8+7,none⟩) Jj).trans (wS _);have NW:=hN.fr (Fr.below (T:=[]) bW) (by decide);obtain ⟨NX,FX⟩:=dA.put NW hk (j:=7) (by omega) (.slice none 0 0) { nd with watchers:=[] } (fun w' P V H U h1 h2 h3 h4 _=>⟨P,V,H,.slice none 0 0,rfl,h1,h2,h3,TU.nil _⟩);obtain ⟨X,hX⟩:=ax (W2.setCell ⟨gn,k*8+7,none⟩ (.slice none 0 0));rw [<-hX] at NX FX;have SX:=(hS.fr (Fr.below (T:=[]) bW) (by decide)).fr FX (by decide);have bm:∀ b,w.heap.size<=b->X.heap[b]?=W2.heap[b]?:=fun b hb=>by rw [hX];exact dr _ _ _ _ (by show b≠gn;omega)
 have HX:=ae (ag NX (ag SX (ag (tU.fr (Fr.below (T:=[]) bW) (by decide) |>.fr FX (by decide)) (tP.fr (Fr.below (T:=[]) bW) (by decide) |>.fr FX (by decide)))));have HC:=ae (ag (((C0.below (by omega) b1).below (by omega) b2).bg (bm _ ay)) (ag ((C1.below (by omega) b2).bg (bm _ (by omega))) (C2.bg (bm _ (by omega)))));have HT:=ae (ag ((bm _ ay).trans ((b2.block _ (by omega)).trans ((b1.block _ (by omega)).trans T0))) (ag ((bm _ (by omega)).trans ((b2.block _ (by omega)).trans T1)) ((bm _ (by omega)).trans T2)));have BX:Below B w X:=by rw [hX];exact (bW.mono hB).setCell (hN.lt gn rfl).1 _
 have FW:Fr [147,95,103] w X:=(Fr.below bW).trans (FX.sub (by simp));have zX:X.heap.size=w.heap.size+3:=by rw [hX];simp;omega
 have HQ0:Hid (∀ (i:Nat) (Q:Value),Qs[i]?=some Q->∀ b,Q.ownBlock=some b->b<w.heap.size):=fun i Q hq b hb=>by obtain ⟨s,hs⟩:∃ s,ss[i]?=some s:=⟨_,aH (by rw [<-hS.len];exact (aM.1 hq).1)⟩;exact ((hS.DR i s Q hs hq).lt b hb).2
 have HP0:Hid (∀ b,(Value.slice p n c).ownBlock=some b->b<w.heap.size):=fun b hb=>(hS.row.lt b hb).2;clear b0 b1 b2 C0 C1 C2 T0 T1 T2 NX SX NW bm c0 c7 wS tP tU;go_enter func100,ntmps100;go_wp2;rw [<-dT,<-fN,<-gr,<-hX];clear dT fN gr hX k0 k7 kz;have rQ:∀ (vs:Array Value) (w:World),(callFunc 136 vs).run prog w=.ok (.enter 136 vs) w:=fun vs w=>by kernel_rfl
 have te:=ae rQ;clear rQ
 go_loopw [9] (fun iv wr=>∃ (i:Nat) (Qk:List Value),i<=nu/\iv=.int .i64 i/\X.heap.size<=wr.heap.size/\Hid (fK B wr (.slice p n c) (jD ss (nd.watchers.take i) (kd,nd.path)) Qk)/\Hid (dA B wr (.slice (some ⟨gn,0,none⟩) m d) (ns.set k { nd with watchers:=[] }))/\Hid (TU wr (.slice pu nu cu) nd.watchers/\TB wr (.slice pe ne ce) nd.path)/\Hid (Wk Qs Qk X.heap.size) ∧
  Hid (ah wr w.heap.size [.int .u64 e,.int .u64 g,.int .u64 x,.int .i64 t,.slice p n c,.slice (some ⟨gn,0,none⟩) m d]/\ah wr (w.heap.size+1) [.int .u64 0,.int .u64 0,.int .u64 0,.int .i64 0,.slice none 0 0,.slice none 0 0]/\ah wr (w.heap.size+2) [.int .i64 kd,.slice pe ne ce]) ∧
  Hid ((∃ cur,wr.heap[w.heap.size]?=some (.cells cur 35))/\(∃ cur,wr.heap[w.heap.size+1]?=some (.cells cur 35)))/\Hid (Fr [147,95,103] w wr)/\Hid (Below B w wr)) (fun iv _=>nu-(intOf iv).toNat)
 case atStart=>exact ⟨0,Qs,Nat.zero_le _,rfl,Nat.le_refl _,(by show fK _ _ _ _ _;exact HX.2.1),HX.1,HX.2.2,(fun i Q b hq hb=>.inl ⟨i,Q,hq,hb⟩),HC,⟨⟨_,HT.1⟩,⟨_,HT.2.1⟩⟩,FW,BX⟩
 case round =>(
 obtain ⟨i,Qk,hi,rfl,zr,qE,DV,hU,hQO,sT,hTk,rR,iS⟩:=hrel;have wi:IntKind.i64.wrap ((i:Int)+1)=((i+1:Nat):Int):=by rw [IntWalk.i64_in _ (by omega)];omega
 by_cases fP:i<nu;{
 have KS:(i:Int)<(nu:Int):=by omega
 obtain ⟨id,hid⟩:∃ id,nd.watchers[i]?=some id:=⟨_,aH (by rw [aa eU];exact fP)⟩;obtain ⟨bw,ow,rfl,Y4⟩:=hU.1.1.at hid;have E1:=ae (ux (ss:=ss) (ev:=(kd,nd.path)) hid);clear hid;obtain ⟨vA,bt⟩:=ax wr.drew;have bG:Below wr.heap.size wr vA:=by rw [bt];exact ar.drew
 have zA:=bG.size;have CA:=ae (ag (sT.1.below (by omega) bG) (ag (sT.2.1.below (by omega) bG) (sT.2.2.below (by omega) bG)));have UA:=ae (ag (hU.1.fr (Fr.below (T:=[]) bG) (by decide)) (hU.2.fr (Fr.below (T:=[]) bG) (by decide)));have SA:=ae (qE.fr (Fr.below (T:=[]) bG) (by decide));have NA:=ae (DV.fr (Fr.below (T:=[]) bG) (by decide));have TA:=ae (ag (hTk.1.imp fun cur h=>(bG.block _ (by omega)).trans h) (hTk.2.imp fun cur h=>(bG.block _ (by omega)).trans h));have FA:=ae (rR.trans (Fr.below bG));have BA:=ae (iS.trans (bG.mono (by have:=iS.size;omega)));have hwA:=af Y4 bG;have HG:=ae (Lr e g x t p n c (some ⟨gn,0,none⟩) m d _ Qk (ae (by rw [kT,aa en])) id kd pe ne ce nd.path eP B vA SA (ae UA.2) (by have:=BA.size;omega) hn hp);go_wp2_with fail;refine wp_region_noPanic ?_;refine wp_region_held_drew (S:=fun w'=>w'.cell? ⟨w.heap.size,0,none⟩=some (.int .u64 e)/\w'.cell? ⟨w.heap.size,1,none⟩=some (.int .u64 g)/\w'.cell? ⟨w.heap.size,2,none⟩=some (.int .u64 x)/\w'.cell? ⟨w.heap.size,3,none⟩=some (.int .i64 t)/\w'.cell? ⟨w.heap.size,4,none⟩=some (.slice p n c)/\w'.cell? ⟨w.heap.size,5,none⟩=some (.slice (some ⟨gn,0,none⟩) m d)/\w'.cell? ⟨w.heap.size+2,0,none⟩=some (.int .i64 kd)/\w'.cell? ⟨w.heap.size+2,1,none⟩=some (.slice pe ne ce)/\w'.cell? ⟨bw,ow+i,none⟩=some (.int .u64 id)) (by kernel_rfl) (by rw [<-bt];exact ⟨CA.1.1 0 _ rfl,CA.1.1 1 _ rfl,CA.1.1 2 _ rfl,CA.1.1 3 _ rfl,CA.1.1 4 _ rfl,CA.1.1 5 _ rfl,CA.2.2.1 0 _ rfl,CA.2.2.1 1 _ rfl,hwA⟩) (fun hS=>?_);rw [<-bt] at hS ⊢;clear bt bG Y4 hwA;refine gD 0 1 2 3 hS ?_;refine fq 4 5 hS ?_;refine bR 6 fun KK hK=>?_;refine He (by rfl) 136 _ _ _ _ (by rfl) (cL e g x t (.slice p n c) (.slice (some ⟨gn,0,none⟩) m d)) (.int .u64 id) (.agg #[.int .i64 kd,.slice pe ne ce]) (by rfl) (by rfl) (by rfl) (fun _=>aa te _ _) HG ?_;rintro r v1 ⟨rfl,⟨Q1,Qm,Kw⟩,KY,vt,aK⟩;refine ⟨_,rfl,?_⟩;have kb:v1.heap[w.heap.size+2]?=vA.heap[w.heap.size+2]?:=KY _ (by omega) (fun j Q hq e=>by rcases aa hQO j Q _ hq e with ⟨j',Q',hj,e'⟩ | h;{have:=aa HQ0 j' Q' hj _ e';omega};{omega}) (fun e=>by have:=aa HP0 _ e;omega)
 obtain ⟨⟨cu0,t0⟩,⟨cu1,t1⟩⟩:=aa TA;have t0':=vt.2 _ _ _ _ (by decide) t0;have t1':=vt.2 _ _ _ _ (by decide) t1;have C1:=ae (ag (CA.1.bg (t0'.trans t0.symm)) (ag (CA.2.1.bg (t1'.trans t1.symm)) (CA.2.2.bg kb)));have U1:=ae (ag (UA.1.fr vt (by decide)) (UA.2.fr vt (by decide)));have N1:=ae (NA.fr vt (by decide));have S1:=ae Qm;have T1:=ae (ag t0' t1');have Q1':=ae (hQO.trans Kw (by omega));have F1:=ae (FA.trans (vt.sub (by simp)));have B1:=ae (BA.trans aK);have z1:=aK.size;have Y4:v1.cell? ⟨bw,ow+i,none⟩=some (.int .u64 id):=by obtain ⟨-,h2⟩:=U1.1;exact (aj (by rcases UA.1.2 bw rfl with e | ⟨cur,mm,hc⟩;{have:=aa eU;rw [e] at this;simp at this;omega};{exact (vt.2 _ _ _ _ (by decide) hc).trans hc.symm}) _).trans hS.2.2.2.2.2.2.2.2
 refine bM hK (by exact ⟨C1.1.1 0 _ rfl,C1.1.1 1 _ rfl,C1.1.1 2 _ rfl,C1.1.1 3 _ rfl,C1.1.1 4 _ rfl,C1.1.1 5 _ rfl,C1.2.2.1 0 _ rfl,C1.2.2.1 1 _ rfl,Y4⟩) fun hS=>?_;clear hK KK Qm Kw KY vt aK kb t0 t1 t0' t1' Y4;refine bR 7 fun KK hK=>?_;have wS:=C1.1.2;go_simp;obtain ⟨v2,tT⟩:=ax (db v1 w.heap.size (.int .u64 e) (.int .u64 g) (.int .u64 x) (.int .i64 t) (.slice p n c) (.slice (some ⟨gn,0,none⟩) m d));have F2:Fr [35] v1 v2:=by rw [tT];exact gH T1.1
 have B2:Below w.heap.size v1 v2:=by rw [tT];exact cE _ _ _ _ _ _ _ _
 have C2:ah v2 w.heap.size [.int .u64 e,.int .u64 g,.int .u64 x,.int .i64 t,.slice p n c,.slice (some ⟨gn,0,none⟩) m d]:=by rw [tT];exact Gm C1.1 _ _ _ _ _ _
 have C3:ah v2 (w.heap.size+1) [.int .u64 0,.int .u64 0,.int .u64 0,.int .i64 0,.slice none 0 0,.slice none 0 0]:=by rw [tT];exact qR C1.2.1 (by omega) _ _ _ _ _ _
 have C4:ah v2 (w.heap.size+2) [.int .i64 kd,.slice pe ne ce]:=by rw [tT];exact qR C1.2.2 (by omega) _ _ _ _ _ _
 have z2:v2.heap.size=v1.heap.size:=by rw [tT];exact oe _ _ _ _ _ _ _ _
 have T2:(∃ cur,v2.heap[w.heap.size]?=some (.cells cur 35))/\∃ cur,v2.heap[w.heap.size+1]?=some (.cells cur 35):=by rw [tT];exact ⟨qQ ⟨_,T1.1⟩,_,(jS (by omega)).trans T1.2⟩
 have YY:v2.cell? ⟨bw,ow+i,none⟩=some (.int .u64 id):=by
  have hb:bw≠w.heap.size:=fun e2=>by rcases U1.1.2 bw rfl with e | ⟨cur,mm,hc⟩;{have:=aa eU;rw [e] at this;simp at this;omega};{rw [e2,T1.1] at hc;simp at hc}
  rw [tT];exact (aj (jS hb) _).trans hS.2.2.2.2.2.2.2.2
 have R2:=ae (ag C2 (ag C3 (ag C4 (ag T2 (ag F2 B2)))));unfold db at tT;rw [<-tT];refine bM hK (by exact ⟨C2.1 0 _ rfl,C2.1 1 _ rfl,C2.1 2 _ rfl,C2.1 3 _ rfl,C2.1 4 _ rfl,C2.1 5 _ rfl,C4.1 0 _ rfl,C4.1 1 _ rfl,YY⟩) fun hS=>?_;clear hK KK tT C2 C3 C4 T2 F2 B2 wS YY;refine wpAnyH_done (by kernel_rfl) ?_ _;refine bc ?_;clear hS;go_wp2;go_roundw
 case rel=>exact ⟨i+1,Q1,by omega,by go_num,by omega,(by show fK _ _ _ _ _;rw [aa E1];exact S1.fr R2.2.2.2.2.1 (by decide)),N1.fr R2.2.2.2.2.1 (by decide),⟨U1.1.fr R2.2.2.2.2.1 (by decide),U1.2.fr R2.2.2.2.2.1 (by decide)⟩,Q1',⟨R2.1,R2.2.1,R2.2.2.1⟩,R2.2.2.2.1,⟨Nat.le_trans F1.1 R2.2.2.2.2.1.1,fun b cur ty mm ht hb=>(R2.2.2.2.2.2.block b (dX hb)).trans (F1.2 b cur ty mm ht hb)⟩,B1.trans (R2.2.2.2.2.2.mono hB)⟩
 case measure=>simp [intOf];omega}
 {
 have KS:¬ (i:Int)<(nu:Int):=by omega
 have SF:=aa qE;rw [List.take_of_length_le (by rw [aa eU];omega)] at SF;have HSF:=ae SF;clear SF;obtain ⟨K0,kf⟩:=sT.1;obtain ⟨R0,rf⟩:=sT.2.1;have k0:=K0 0 _ rfl;have k1:=K0 1 _ rfl;have k2:=K0 2 _ rfl;have k3:=K0 3 _ rfl;have k4:=K0 4 _ rfl;have k5:=K0 5 _ rfl;have q0:=R0 0 _ rfl;have q1:=R0 1 _ rfl;have q2:=R0 2 _ rfl;have q3:=R0 3 _ rfl;have q4:=R0 4 _ rfl;have q5:=R0 5 _ rfl;clear K0 R0;go_wp2;obtain ⟨cu,tq⟩:=hTk.2;have hF:=gH (v0:=.int .u64 e) (v1:=.int .u64 g) (v2:=.int .u64 x) (v3:=.int .i64 t) (v4:=.slice p n c) (v5:=.slice (some ⟨gn,0,none⟩) m d) tq;have xo:Below (w.heap.size+1) wr (db wr (w.heap.size+1) (.int .u64 e) (.int .u64 g) (.int .u64 x) (.int .i64 t) (.slice p n c) (.slice (some ⟨gn,0,none⟩) m d)):=cE _ _ _ _ _ _ _ _;refine bodyPost_ret (v:=cL e g x t (.slice p n c) (.slice (some ⟨gn,0,none⟩) m d)) (by simp [results,results100,go_sem,q0,q1,q2,q3,q4,q5]) rfl ?_;exact ⟨rfl,⟨_,HSF.fr hF (by decide)⟩,DV.fr hF (by decide),⟨Nat.le_trans rR.1 xo.size,fun b cur ty mm ht hb=>(xo.block b (by have:=dX hb;omega)).trans (rR.2 b cur ty mm ht hb)⟩,iS.trans (xo.mono (by omega))⟩})
theorem ew {ops:Array Oper} {rest:List Oper} {o:Oper} {a:Act} {Q:Exit->Act->World->Prop} (kM:o.guard=none) (s x:Operand)
  (ho:o.op=.call { callee:=.builtin .append,args:=#[s,x],argTypes:=#[33,33] })
  (B:Nat) (v:Value) (ns:List aA) (nd:aA) (k:Nat) (ek:Hid (ns.length=k)) (hs:a.eval s=v) (aS:dA B w v ns) (g:Nat) (cs:List Value) (hx:a.eval x=.slice (some ⟨g,0,none⟩) 1 1) (ij:jH w nd cs) (gK:∀ j u,cs[j]?=some u->w.cell? ⟨g,j,none⟩=some u)
  (hk:k<4194304) (hB:B<=w.heap.size)
  (h:∀ p' c' w',dA B w' (.slice p' (k+1) c') (ns++[nd])->w.grownBy w' v.ownBlock->Fr [103] w w'->wpList prog ops Q rest (a.put o.dst (.slice p' (k+1) c')) w'):wpList prog ops Q (o::rest) a w:=by
 obtain ⟨i,hi,jG,gi,gP⟩:=info_parts Tryz.infoNod;have ht:=aS.yE;obtain ⟨rs,h1,h2,h3,h4⟩:=aS;have xZ:cs.length=8/\∀ u∈cs,u.oneCell'=true:=by obtain ⟨P,V,H,U,rfl,a1,a2,a3,a4⟩:=ij;obtain ⟨_,_,rfl⟩:=a1.ed;obtain ⟨_,_,rfl⟩:=a2.ed;obtain ⟨_,_,rfl⟩:=a3.ed;obtain ⟨_,_,rfl⟩:=a4.ed;exact ⟨rfl,fun u hu=>by simp at hu;rcases hu with rfl | rfl | rfl | rfl | rfl | rfl | rfl | rfl<;>rfl⟩
 rw [aa ek] at h3;refine dO kM s x 33 ho B 103 i _ 8 128 underlying33 hi jG gi gP rfl (by decide) v _ _ hs h3 g 1 1 cs hx xZ.1 gK xZ.2 (by unfold maxLen;omega) (by omega) hB ?_;intro v' w' dN hg _;have hf:Fr [103] w w':=Fr.grown hg fun b hb=>by obtain ⟨cur,hc⟩:=ht b hb;exact ⟨cur,_,hc,by simp⟩
 have sn:dA B w' v' (ns++[nd]):=RT.snoc h1 h2 h4 (jH.fr hf (by decide) (by decide)) ij xZ.1 (by rw [aa ek];exact dN);obtain ⟨p',c',rfl,-⟩:=RT.form sn;rw [List.length_append,aa ek] at sn ⊢;exact h p' c' w' sn hg hf
theorem OP (h:ns[j]?=some nd):(ns.take (j+1)).eraseIdx k=if j=k then (ns.take j).eraseIdx k else (ns.take j).eraseIdx k++[nd]:=by
 have hj:=(aM.1 h).1;have hl:(ns.take j).length=j:=by rw [List.length_take];omega
 rw [List.take_add_one,h,Option.toList_some];by_cases e:j=k;{subst e;rw [if_pos rfl,List.eraseIdx_append_of_length_le (by omega),hl,Nat.sub_self,List.eraseIdx_of_length_le (l:=ns.take j) (by omega)];simp};{rw [if_neg e];by_cases e2:k<j;{rw [List.eraseIdx_append_of_lt_length (by omega)]};{rw [List.eraseIdx_append_of_length_le (by omega),hl,List.eraseIdx_of_length_le (l:=ns.take j) (by omega),List.eraseIdx_of_length_le (by simp;omega)]}}
theorem uL (e g x t:Int) (p:Option Addr) (n c:Nat) (q:Option Addr) (m d:Nat) (ns:List aA) (em:Hid (ns.length=m)) (k:Nat) (B:Nat) (w:World) (hN:Hid (dA B w (.slice q m d) ns)) (hm:m<=1048576) :
  Calls prog 101 #[cL e g x t (.slice p n c) (.slice q m d),.int .i64 k] w fun r w'=>∃ p' c',r=.returned (cL e g x t (.slice p n c) (.slice p' (ns.eraseIdx k).length c'))/\dA w.heap.size w' (.slice p' (ns.eraseIdx k).length c') (ns.eraseIdx k)/\Below w.heap.size w w':=by
 obtain ⟨W0,dT,b0,z0,C0,T0⟩:=au w #[.int .u64 e,.int .u64 g,.int .u64 x,.int .i64 t,.slice p n c,.slice q m d] 35;obtain ⟨W1,fN,b1,z1,C1,T1⟩:=au W0 #[.int .u64 0,.int .u64 0,.int .u64 0,.int .i64 0,.slice none 0 0,.slice none 0 0] 35;rw [z0] at C1 T1 z1;have bW:=ae (ai b0 b1);have HC:=ae (ag (C0.below (by omega) b1) C1);have HT:=ae (ag ((b1.block _ (by omega)).trans T0) T1);go_enter func101,ntmps101;go_wp2;rw [<-dT,<-fN]
 go_loopw [5,6] (fun ov iv wr=>∃ (j:Nat) (L:List aA) (nl:Nat) (po:Option Addr) (co:Nat),j<=m/\iv=.int .i64 j/\ov=.slice po nl co/\Hid (L.length=nl)/\Hid ((ns.take j).eraseIdx k=L)/\Hid (dA (w.heap.size+2) wr (.slice po nl co) L)/\Hid (Below (w.heap.size+2) W1 wr)) (fun _ iv _=>m-(intOf iv).toNat)
 case atStart=>exact ⟨0,[],0,none,0,Nat.zero_le _,rfl,rfl,ae rfl,(by show _=_;simp),RT.nil _ _ _ _ _,Below.refl _ _⟩
 case round =>(
 obtain ⟨j,L,nl,po,co,hj,rfl,rfl,iw,hL,ho,aE⟩:=hrel;have zr:=aE.size;have KP:nl<4194304:=by have h1:=(List.eraseIdx_sublist (ns.take j) k).length_le;have h2:=List.length_take_le j ns;rw [aa hL,aa iw] at h1;omega
 have HCr:=ae (ag (HC.1.below (by omega) (aE.mono (by omega):Below W1.heap.size W1 wr)) (HC.2.below (by omega) (aE.mono (by omega):Below W1.heap.size W1 wr)));have s5:=HCr.1.1 5 _ rfl;by_cases aU:j<m;{
 have aV:(j:Int)<(m:Int):=by omega
 obtain ⟨nd,bf⟩:∃ nd,ns[j]?=some nd:=⟨_,aH (by rw [aa em];exact aU)⟩;have cF:=OP (k:=k) bf;rw [aa hL] at cF;have jl:=ae cF;by_cases he:j=k;{
 have E1:Hid ((ns.take (j+1)).eraseIdx k=L):=by have:=aa jl;rwa [if_pos he] at this
 have GF:((j:Int) != (k:Int))=false:=by simp;omega
 go_wp2;go_roundw
 case rel=>exact ⟨j+1,L,nl,po,co,by omega,by go_num,rfl,iw,E1,ho,aE⟩
 case measure=>simp [intOf];omega}
 {
 have E1:Hid ((ns.take (j+1)).eraseIdx k=L++[nd]):=by have:=aa jl;rwa [if_neg he] at this
 have GF:((j:Int) != (k:Int))=true:=by simp;omega
 have Xk:Below w.heap.size w wr:=bW.trans (aE.mono (by omega));obtain ⟨gn,P,V,H,U,rfl,-,-,c0,c1,c2,c3,c4,c5,c6,c7,tP,tV,tH,tU,-⟩:=dA.at (hN.fr (Fr.below (T:=[]) Xk) (by decide)) bf;obtain ⟨pP,cP,rfl⟩:=tP.ed;obtain ⟨pV,cV,rfl⟩:=tV.ed;obtain ⟨pH,cH,rfl⟩:=tH.ed;obtain ⟨pU,cU,rfl⟩:=tU.ed;obtain ⟨v3,Hz⟩:=ax (wr.alloc (.cells #[.slice pP nd.path.length cP,.slice pV nd.value.length cV,.int .u64 nd.owner,.int .i64 nd.mode,.slice pH nd.holders.length cH,.int .u64 nd.aC,.int .u64 nd.gen,.slice pU nd.watchers.length cU] 103));have b3:Below wr.heap.size wr v3:=by rw [Hz];exact ar.alloc ay _
 have HX:=ae (ag (ho.fr (Fr.below (T:=[]) b3) (by decide)) (ag (show jH v3 nd [.slice pP nd.path.length cP,.slice pV nd.value.length cV,.int .u64 nd.owner,.int .i64 nd.mode,.slice pH nd.holders.length cH,.int .u64 nd.aC,.int .u64 nd.gen,.slice pU nd.watchers.length cU] from ⟨_,_,_,_,rfl,tP.fr (Fr.below (T:=[]) b3) (by decide),tV.fr (Fr.below (T:=[]) b3) (by decide),tH.fr (Fr.below (T:=[]) b3) (by decide),tU.fr (Fr.below (T:=[]) b3) (by decide)⟩) (show ah v3 wr.heap.size _ by rw [Hz];exact ah.alloc wr _ _)));have KL:=ae fun b e=>(ho.lt b e).1;have b3':=ae b3;have z3:=b3.size;go_wp2_with (at_builtin;rw [<-Hz];refine ew rfl _ _ rfl (w.heap.size+2) (.slice po nl co) L nd nl iw rfl HX.1 wr.heap.size _ rfl HX.2.1 HX.2.2.1 KP (by omega) ?_);intro p' c' w' o2 dY _;rw [<-Hz] at dY;have b4:=ae ((aE.trans (b3'.mono (by omega))).grown dY (by omega) KL);have O2:=ae o2;go_wp2;go_roundw
 case rel=>exact ⟨j+1,L++[nd],nl+1,p',c',by omega,by go_num,rfl,ae (by rw [List.length_append,aa iw];rfl),E1,O2,b4⟩
 case measure=>simp [intOf];omega}}
 {
 have aV:¬ (j:Int)<(m:Int):=by omega
 have gq:=aa hL;rw [List.take_of_length_le (by rw [aa em];omega)] at gq;obtain ⟨K0,kf⟩:=HCr.1;obtain ⟨R0,rf⟩:=HCr.2;have k0:=K0 0 _ rfl;have k1:=K0 1 _ rfl;have k2:=K0 2 _ rfl;have k3:=K0 3 _ rfl;have k4:=K0 4 _ rfl;have q0:=R0 0 _ rfl;have q1:=R0 1 _ rfl;have q2:=R0 2 _ rfl;have q3:=R0 3 _ rfl;have q4:=R0 4 _ rfl;have q5:=R0 5 _ rfl;have Xt:=ae (ag ((aE.block _ (by omega)).trans HT.1) ((aE.block _ (by omega)).trans HT.2));go_wp2;subst gq;have en:=aa iw;subst en;have f1:=bO (j:=5) (u:=.slice po (ns.eraseIdx k).length co) ⟨_,Xt.1⟩;have t1:(wr.setCell ⟨w.heap.size,5,none⟩ (.slice po (ns.eraseIdx k).length co)).heap[w.heap.size+1]?=_:=(dr _ _ _ _ (by show w.heap.size+1≠w.heap.size;omega)).trans Xt.2;have f2:=gH (v0:=.int .u64 e) (v1:=.int .u64 g) (v2:=.int .u64 x) (v3:=.int .i64 t) (v4:=.slice p n c) (v5:=.slice po (ns.eraseIdx k).length co) t1;have xo:=((bW.trans (aE.mono (by omega))).setCell (p:=⟨w.heap.size,5,none⟩) ay (.slice po (ns.eraseIdx k).length co)).trans ((cE _ (w.heap.size+1) (.int .u64 e) (.int .u64 g) (.int .u64 x) (.int .i64 t) (.slice p n c) (.slice po (ns.eraseIdx k).length co)).mono (by omega));refine bodyPost_ret (v:=cL e g x t (.slice p n c) (.slice po (ns.eraseIdx k).length co)) (by simp [results,results101,go_sem,q0,q1,q2,q3,q4,q5]) rfl ?_;exact ⟨po,co,rfl,((ho.fr f1.2 (by decide)).fr f2 (by decide)).mono (by omega),xo⟩})
theorem fK.at {n c:Nat} (h:fK B w (.slice p n c) ss Qs) (hx:ss[i]?=some s) :
  ∃ g Q,p=some ⟨g,0,none⟩/\n=ss.length/\n<=c/\Qs[i]?=some Q/\w.cell? ⟨g,i*3,none⟩=some (.int .u64 s.1)/\w.cell? ⟨g,i*3+1,none⟩=some (.int .i64 s.2.1)/\w.cell? ⟨g,i*3+2,none⟩=some Q/\qn B w Q s.2.2/\∀ o,w.frozen? ⟨g,o,none⟩=false:=by
 have hi:=(aM.1 hx).1;obtain ⟨Q,hQ⟩:∃ Q,Qs[i]?=some Q:=⟨_,aH (by rw [h.len];exact hi)⟩;have hz:(ss.zip Qs)[i]?=some (s,Q):=by rw [List.getElem?_zip_eq_some];exact ⟨hx,hQ⟩
 have hl:(ss.zip Qs).length=ss.length:=by rw [List.length_zip,h.len];simp
 obtain ⟨p',c',e,hc,-,hp⟩:=h.row.form;rw [hl] at e hc hp;simp only [Value.slice.injEq] at e;obtain ⟨rfl,rfl,rfl⟩:=e;obtain ⟨g,rfl⟩:=hp (by omega);obtain ⟨cs,-,he,jA,hf⟩:=RT.at h.row hz;unfold ly at he;subst he;exact ⟨g,Q,rfl,rfl,hc,hQ,jA 0 _ rfl,jA 1 _ rfl,jA 2 _ rfl,h.DR i s Q hx hQ,hf⟩
def ni (ss:List aR) (id:Int):Int:=match ss.findIdx? (fun s=>s.1==id) with
 | some i=>i
 | none=>-1
theorem OO (h:ss[j]?=some s) (hs:s.1=id) (kc:∀ (i:Nat) (s':aR),i<j->ss[i]?=some s'->¬ s'.1=id):ni ss id=j:=by
 have hj:=(aM.1 h);have:ss.findIdx? (fun s=>s.1==id)=some j:=by rw [List.findIdx?_eq_some_iff_getElem];refine ⟨hj.1,by rw [hj.2];simp [hs],fun i hi=>?_⟩;have:=kc i _ hi (aH (by have:=hj.1;omega));simpa using this
 rw [ni,this]
theorem JM (kc:∀ (i:Nat) (s':aR),ss[i]?=some s'->¬ s'.1=id):ni ss id=-1:=by
 have:ss.findIdx? (fun s=>s.1==id)=none:=by rw [List.findIdx?_eq_none_iff];intro x hx;obtain ⟨i,hi⟩:=List.mem_iff_getElem?.1 hx;simpa using kc i x hi
 rw [ni,this]
theorem Ek (e g x t:Int) (p:Option Addr) (n c:Nat) (q:Option Addr) (m d:Nat) (ss:List aR) (Qs:List Value) (en:Hid (ss.length=n)) (id:Int) (B:Nat) (w:World) (hS:Hid (fK B w (.slice p n c) ss Qs)) (hn:n<=1048576) :
  Calls prog 54 #[cL e g x t (.slice p n c) (.slice q m d),.int .u64 id] w fun r w'=>r=.returned (.int .i64 (ni ss id))/\Below w.heap.size w w':=by
 obtain ⟨W0,dT,b0,z0,C0,T0⟩:=au w #[.int .u64 e,.int .u64 g,.int .u64 x,.int .i64 t,.slice p n c,.slice q m d] 35;have bW:=ae b0;have HC:=ae C0;clear b0 C0 T0;go_enter func54,ntmps54;go_wp2;rw [<-dT];clear dT
 go_loopw [5] (fun iv wr=>∃ j:Nat,j<=n/\iv=.int .i64 j/\Hid (∀ (i:Nat) (s':aR),i<j->ss[i]?=some s'->¬ s'.1=id)/\Hid (Below W0.heap.size W0 wr)) (fun iv _=>n-(intOf iv).toNat)
 case atStart=>exact ⟨0,Nat.zero_le _,rfl,(fun i s' h=>absurd h (by omega)),Below.refl _ _⟩
 case round =>(
 obtain ⟨j,hj,rfl,kc,aE⟩:=hrel;have s4:=(HC.below (by omega) aE).1 4 _ rfl;by_cases aU:j<n;{
 have aV:(j:Int)<(n:Int):=by omega
 obtain ⟨s,hs⟩:∃ s,ss[j]?=some s:=⟨_,aH (by rw [aa en];exact aU)⟩;have Xk:Below w.heap.size w wr:=ai bW aE;obtain ⟨gs,Q,rfl,-,-,-,c0,-⟩:=fK.at (hS.fr (Fr.below (T:=[]) Xk) (by decide)) hs;have HB:=ae Xk;have HS:=ae hs;clear hs Xk;obtain ⟨I,J,K⟩:=s;by_cases he:I=id;{
 subst he;have GF:(I==I)=true:=by simp
 go_wp2;go_ret;refine ⟨?_,HB⟩;rw [OO (aa HS) rfl (aa kc)]
 rfl}
 {
 have KF:Hid (∀ (i:Nat) (s':aR),i<j+1->ss[i]?=some s'->¬ s'.1=id):=fun i s' hi h=>by by_cases e2:i=j;{subst e2;rw [aa HS] at h;cases h;exact he};{exact kc i s' (by omega) h}
 go_wp2;go_roundw
 case rel=>exact ⟨j+1,by omega,by go_num,KF,aE⟩
 case measure=>simp [intOf];omega}}
 {
 have aV:¬ (j:Int)<(n:Int):=by omega
 have HE:=ae (JM (fun i s' h=>aa kc i s' (by have:=(aM.1 h).1;rw [aa en] at this;omega) h));have HB:Hid (Below w.heap.size w wr):=ai bW aE;go_wp2;go_ret;exact ⟨by rw [aa HE];rfl,aa HB⟩})
end Go.Proofs.YtmfjiolopcbcmaaGreatDoor
