import Derived.Test.YtjjnidignljppaaGreatDoorAP3
import Derived.StillTailTactics
namespace Go.Proofs.YtjjnidignljppaaGreatDoor
set_option maxHeartbeats 3200000
set_option linter.all false
set_option maxRecDepth 100000
open Go.ChangeShapes Go.WideShapes Go.ChangeAt Go.RowKit Go.Maps Go.Proofs.Tryz
variable {C:Int}{D:SD}{a:Act}{b bn bs cv k nv z:Nat}{cs:Array Value}{fn:Func}{l:List Oper}{nd:aB}{o0 o1 o2 o3 o4 o5 o6 o7 v0 v1 v2 v3 v4 v5 v6 v7:Value}{pv:OA}{w0:World}
def Gd(k:Int):Value:=if k=0 then .nilIface else .iface 221 (.agg #[.I k])
def XI{v:Value}(hv:v=.agg #[]){pt:Value}{w:World}:Cp 271 #[v,pt] w fun r w'=>r=.returned (Gd 0)/\Bw w w':=by
 subst hv;go_enter func271,ntmps271;go_wp2;go_ret;exact⟨rfl,ay.alloc ao _⟩
def x9(D:SD):Int:=if 50<=D.ss.length then 11 else if 4611686018427387904<=D.x then 12 else 0
def ap6{w:World}{SB NB HB UB:List Nat}(h:Hid (PS w0 w b bs bn D SB NB HB UB))(eC:Hid (x9 D=C)):Cp 270 #[.agg #[],.pointer (some ⟨b,0,none⟩)] w fun r w'=>r=.returned (Gd C)/\Bw w w':=by
 obtain⟨-,-,h2,-,h4,-,-⟩:=h.fh;obtain⟨M,n,o,hn,m,hz⟩:=h.rZ;have k2:=fun(ob:Obj)=>ag h2 ((cW w.heap.size w).alloc ao ob);have k4:=fun(ob:Obj)=>ag h4 ((cW w.heap.size w).alloc ao ob);have hlen:=fun(ob:Obj)=>(o.alloc ob).len underlying111 3;rw[hz]at hlen;have e:=aa eC;unfold x9 at e;obtain⟨nl,jH⟩:=aI D.ss.length;rw[jH]at hlen e;clear o m hz jH;by_cases h50:50<=nl;{have aU6:=dw 50 nl;rw[bN h50]at e;subst e;go_enter func270,ntmps270;go_wp2;go_ret;exact⟨rfl,ay.alloc ao _⟩};{
 have aU6:¬(50:Int)<=(nl:Int):=ae;rw[bH h50]at e;by_cases hx:4611686018427387904<=D.x;{
 have VR:decide (4611686018427387904<=D.x)=true:=by simpa using hx
 rw[bN hx]at e;subst e;go_enter func270,ntmps270;go_wp2;go_ret;exact⟨rfl,ay.alloc ao _⟩};{
 have VR:decide (4611686018427387904<=D.x)=false:=by simpa using hx
 rw[bH hx]at e;subst e;go_enter func270,ntmps270;go_wp2;go_ret;exact⟨rfl,ay.alloc ao _⟩}}
def PS.rest{w0 w w':World}{SB NB HB UB:List Nat}(h:PS w0 w b bs bn D SB NB HB UB){ty:TypeId}(hb:Below w0.heap.size w w')(hk:∀y,y<w.heap.size->y≠z->w'.heap[y]?=w.heap[y]?)(hz:∃m,w.heap[z]?=some (.cells cs ty m))(ht:ty∉[86,121,114,5,165]):PS w0 w' b bs bn D SB NB HB UB:=by
 obtain⟨mz,hz⟩:=hz;simp only[jA,I9,Bv,Ey]at ht;obtain⟨t1,t2,t3,t4,t5⟩:=ht;have hf:Fr [ty] w w':=⟨hb.size,fun y cur ty' m' hn hy=>by by_cases e:y=z;{subst e;rw[hz]at hy;simp at hy;exact absurd (by rw[hy.2.1];simp) hn};{exact(hk y (kH hy) e).trans hy}⟩
 have nc:∀{y:Nat}{cs':Array Value}{ty':TypeId},w.heap[y]?=some (.cells cs' ty')->ty≠ty'->w'.heap[y]?=some (.cells cs' ty'):=fun{y cs' ty'}hy ht'=>(hk y (aL hy) (fun e=>by rw[e,hz]at hy;simp at hy;exact ht' hy.2.1)).trans hy
 have nm:∀{k:TypeId}{R:Value->Option (DataW Unit×List MemPlace)}{y n:Nat}{M:DataW Unit},w.ownsMap prog k R y n M->w'.ownsMap prog k R y n M:=fun o=>cY o (fun es c hh=>(hk _ (aL hh) (fun e=>by rw[e,hz]at hh;cases hh)).trans hh)
 have ab:∀{v:Value}{l:LI},AB w0 w v l->AB w0 w' v l:=fun q=>q.fr hf (by simp;exact fun e=>t4 e.symm);have sm:∀{y:Nat}{s:LI},SM w y s->SM w' y s:=fun⟨M,n,o,r⟩=>⟨M,n,nm o,r⟩;refine⟨h.be.trans hb,nc h.hd t3,h.tc,?_,fun j s1 g1 ik fU=>?_,h.snd,h.te,h.hlen,h.tR,?_,fun j nd gb hh uu ik fU h1 h2=>?_,h.YI,h.lo,h.yQ⟩;{obtain⟨M,n,o,r⟩:=h.rZ;exact⟨M,n,nm o,r⟩};{obtain⟨q0,u,q1,q2⟩:=h.ve j s1 g1 ik fU;exact⟨q0,u,nc q1 t1,q2.fr hb hf (by simp;exact⟨fun e=>t4 e.symm,fun e=>t5 e.symm⟩)⟩};{obtain⟨M,n,o,r⟩:=h.lr;exact⟨M,n,nm o,r⟩};{obtain⟨q0,⟨V,q1,q2⟩,q3,q4⟩:=h.my j nd gb hh uu ik fU h1 h2;exact⟨q0,⟨V,nc q1 t2,ab q2⟩,sm q3,sm q4⟩}
def jN{id:Nat}{Q:Exit->Act->World->Prop}{w:World}(hB:Region.lexB .any l.toArray=true)(h:∀W,W=w.drew->wpStill prog l.toArray W (fun a'=>Q .normal a' W) l a):(Code.region id l.toArray true).wp prog Q a w:=wp_region_still_lit (by kernel_rfl) hB (h _ rfl)
def dT{id:Nat}{Q:Exit->Act->World->Prop}{w:World}(n:Nat)(hB:Region.lexTailB .any l.toArray n=true)(h:∀W,W=w.drew->wpStill prog l.toArray W (fun a'=>wpList prog l.toArray Q (l.drop n) a' W) (l.take n) a):(Code.region id l.toArray true).wp prog Q a w:=wp_region_still_tail n (by kernel_rfl) hB (h _ rfl)
def PS.rep{w0 w:World}{SB NB HB UB:List Nat}(h:PS w0 w b bs bn D SB NB HB UB){vs:List Value}(hz:RX w z vs)(UC:w0.heap.size<=z)(v0 v1 v2 v3 v4 v5 v6 v7:Value):PS w0 (kS w z v0 v1 v2 v3 v4 v5 v6 v7) b bs bn D SB NB HB UB:=by
 obtain⟨-,cur,hc⟩:=hz;exact h.rest ((de v0 v1 v2 v3 v4 v5 v6 v7).mono UC) (fun y _ cg=>IQ cg) ⟨_,hc⟩ aU
def LY(w:World)(ty:TypeId):∃X Y,X=w.alloc (.cells cs ty)/\Y=X.alloc (.cells #[.I 0,.U 0,.U 0,.U 0,.I 0,.S none 0 0,.S none 0 0,.S none 0 0] 62)/\Bw w Y/\X.heap.size=w.heap.size+1/\Y.heap.size=w.heap.size+2/\al Y w.heap.size cs.toList/\RX Y (w.heap.size+1) [.I 0,.U 0,.U 0,.U 0,.I 0,.S none 0 0,.S none 0 0,.S none 0 0]:=by
 obtain⟨X,hX,bX,zX,CX,gX⟩:=aC w cs ty;obtain⟨Y,hY,bY,zY,RY⟩:=qQ X (.I 0) (.U 0) (.U 0) (.U 0) (.I 0) (.S none 0 0) (.S none 0 0) (.S none 0 0);rw[zX]at RY;exact⟨X,Y,hX,hY,aj bX bY,zX,ae,CX.dM (bY.block _ ae),RY⟩
def xW{R:Ending->World->Prop}{Z:World}(hR:Hid (RX Z z [o0,o1,o2,o3,o4,o5,o6,o7]))(hf:fn.results=#[.cell 4 62])(ha:a.tmps.getD 4 undef=.pointer (some ⟨z,0,none⟩))(hd:a.defers=[])(hQ:R (.returned (.agg #[v0,v1,v2,v3,v4,v5,v6,v7])) (kS Z z v0 v1 v2 v3 v4 v5 v6 v7)):bodyPost prog fn R .ret a (kS Z z v0 v1 v2 v3 v4 v5 v6 v7):=by
 obtain⟨q0,q1,q2,q3,q4,q5,q6,q7,-⟩:=(hR.put v0 v1 v2 v3 v4 v5 v6 v7).1.cells;generalize kS Z z v0 v1 v2 v3 v4 v5 v6 v7=W at*;refine fL (v:=.agg #[v0,v1,v2,v3,v4,v5,v6,v7]) ?_ hd hQ;have Qm:=ha;simp only[aC9]at Qm;simp[results,hf,go_sem,Qm,q0,q1,q2,q3,q4,q5,q6,q7]
def rpn(R:RP):Value:=xw R.k R.i R.e R.g R.n (.S none 0 0) (.S none 0 0) (.S none 0 0)
def sP(w0 w:World)(b bs bn:Nat)(D:SD)(SB NB HB UB:List Nat)(R:RP)(r:Ending)(w':World):Prop:=PS w0 w' b bs bn D SB NB HB UB/\Fr T3 w w'/\r=.returned (rpn R)
def xX{w0 w Z:World}{SB NB HB UB:List Nat}{R:RP}(PZ:Hid (PS w0 Z b bs bn D SB NB HB UB))(FZ:Hid (Fr T3 w Z))(RZ:Hid (RX Z (w.heap.size+1) [o0,o1,o2,o3,o4,o5,o6,o7]))(QC:w0.heap.size<=w.heap.size)(hf:fn.results=#[.cell 4 62])(ha:a.tmps.getD 4 undef=.pointer (some ⟨w.heap.size+1,0,none⟩))(hd:a.defers=[])(eR:rpn R=.agg #[v0,v1,v2,v3,v4,v5,v6,v7]):bodyPost prog fn (sP w0 w b bs bn D SB NB HB UB R) .ret a (kS Z (w.heap.size+1) v0 v1 v2 v3 v4 v5 v6 v7):=
 xW RZ hf ha hd ⟨PS.rep (aa PZ) (aa RZ) ae _ _ _ _ _ _ _ _,FZ.low ((de (w:=Z) (b:=w.heap.size+1) v0 v1 v2 v3 v4 v5 v6 v7).mono ae),by rw[eR]⟩
def Ve{w:World}{SB NB HB UB:List Nat}(h:Hid (PS w0 w b bs bn D SB NB HB UB))(hk:Hid (D.ns[k]?=some nd))(hS:Hid (DE D.ss))(hT:Hid (NT D.ss nd)){id:Int}(hid:0<=id/\id<18446744073709551616)(hhp:Hid (nd.holders.Pairwise (·<·)))(hhl:nd.holders.length<=1048576)(BQ:Hid (nd.holders.contains id=true)):Cp 291 #[.agg #[.U id,.string (aN nd.path)],.pointer (some ⟨b,0,none⟩)] w (sP w0 w b bs bn (dN D k id) SB NB HB UB rB):=by
 obtain⟨X,Y,hX,hY,bY,zX,zY,CY,RY⟩:=LY w (cs:=#[.U id,.string (aN nd.path)]) 240;go_enter func291,ntmps291;go_wp2_with fail;rw[<-hX,<-hY];refine(Vp (af (h.below bY)) hk hS hT hid hhp hhl BQ).mono ?_;rintro r Z⟨PZ,hF,v,rfl⟩;have RZ0:=RY.fr hF;obtain⟨r0,r1,r2,r3,r4,r5,r6,r7,rf⟩:=RZ0.cells;replace PZ:=af PZ;have FZ:=af ((Fr.below (T:=T3) bY).trans hF);have RZ:=af RZ0;have QC:=h.be.size;go_wp2;exact xX PZ FZ RZ QC bg rfl rfl rfl
def WA{w:World}{SB NB HB UB:List Nat}(h:Hid (PS w0 w b bs bn D SB NB HB UB))(hk:Hid (D.ns[k]?=some nd))(hS:Hid (DE D.ss))(hT:Hid (NT D.ss nd))(hD:Hid (KD D.ns)){id:Int}:Cp 283 #[.agg #[.U id,.string (aN nd.path)],.pointer (some ⟨b,0,none⟩)] w (sP w0 w b bs bn (Qa (dR D k 2) k) SB (NB.eraseIdx k) (HB.eraseIdx k) (UB.eraseIdx k) rB):=by
 obtain⟨X,Y,hX,hY,bY,zX,zY,CY,RY⟩:=LY w (cs:=#[.U id,.string (aN nd.path)]) 233;go_enter func283,ntmps283;go_wp2_with fail;rw[<-hX,<-hY];refine(Yo (af (h.below bY)) hk hS hT hD).mono ?_;rintro r Z⟨PZ,hF,v,rfl⟩;have RZ0:=RY.fr hF;obtain⟨r0,r1,r2,r3,r4,r5,r6,r7,rf⟩:=RZ0.cells;replace PZ:=af PZ;have FZ:=af ((Fr.below (T:=T3) bY).trans hF);have RZ:=af RZ0;have QC:=h.be.size;go_wp2;exact xX PZ FZ RZ QC bg rfl rfl rfl
def PS.Rj{w0 w:World}{SB NB HB UB:List Nat}(h:PS w0 w b bs bn D SB NB HB UB){i:Nat}(hi:D.ns[i]?=some nd)(hl:nd.path.length<=1048576):∃g hh uu V,NB[i]?=some g/\HB[i]?=some hh/\UB[i]?=some uu/\g<w.heap.size/\hh<w.heap.size/\uu<w.heap.size/\w0.heap.size<=g/\∀W,Bw w W->W.cell? ⟨b,5,none⟩=some (.map (some bn))/\(Instr.lookup 112 (.map (some bn)) (.string (aN nd.path)) false).run prog W=.ok (.pointer (some ⟨g,0,none⟩)) W/\PN w0 W g hh uu nd/\W.heap[g]?=some (.cells #[V,.U nd.owner,.I nd.mode,.map (some hh),.U nd.aJ,.U nd.gen,.map (some uu)] 121):=by
 obtain⟨g,hh,uu,hg,mQ,nj,hN,-⟩:=h.Oe hi hl;obtain⟨V,h1,-⟩:=hN.blk;obtain⟨es,c,m3⟩:=hN.UD.at;obtain⟨es',c',m4⟩:=hN.Vc.at;refine⟨g,hh,uu,V,hg,mQ,nj,aL h1,aL m3,aL m4,hN.lo.1,fun W hW=>?_⟩;have hP:=h.below hW;obtain⟨-,-,-,-,-,k5,-⟩:=hP.fh;obtain⟨g',hh',uu',sU,bq3,bn2,Ln,Dx⟩:=hP.Oe hi hl;rw[hg]at sU;rw[mQ]at bq3;rw[nj]at bn2;cases sU;cases bq3;cases bn2;exact⟨k5,Dx,Ln,(hW.block g (aL h1)).trans h1⟩
def aM5{w:World}{SB NB HB UB:List Nat}(h:Hid (PS w0 w b bs bn D SB NB HB UB))(hk:Hid (D.ns[k]?=some nd))(hS:Hid (DE D.ss))(hT:Hid (NT D.ss nd)){id:Int}{V:LI}(hV:Hid (AB w0 w (.S pv nv cv) V)):Cp 287 #[.agg #[.U id,.string (aN nd.path),.S pv nv cv],.pointer (some ⟨b,0,none⟩)] w (sP w0 w b bs bn (dR {D with ns:=D.ns.set k {nd with value:=V}} k 1) SB NB HB UB rB):=by
 obtain⟨g,hh,uu,V0,hg,mQ,nj,gl,-,-,g0,hW⟩:=h.Rj hk hT.pl;obtain⟨X,Y,hX,hY,bY,zX,zY,CY,RY⟩:=LY w (cs:=#[.U id,.string (aN nd.path),.S pv nv cv]) 237;have HW:=af hW;clear hW;go_enter func287,ntmps287;go_wp2_with fail;rw[<-hX,<-hY];refine dT 12 bg (fun W eW=>?_);have bW:Bw w W:=by rw[eW];exact bY.drew
 obtain⟨k5,kl,kN,kb⟩:=aa HW W bW;have c1:W.cell? ⟨w.heap.size,1,none⟩=some (.string (aN nd.path)):=by rw[eW];exact CY.1 1 _ rfl
 have c2:W.cell? ⟨w.heap.size,2,none⟩=some (.S pv nv cv):=by rw[eW];exact CY.1 2 _ rfl
 have RW:=RY.below (w':=W) (by rw[eW];exact ay.drew);have CW:=CY.dM (w':=W) (by rw[eW];rfl);have QC:=h.be.size;have PW:=af (h.below bW);have g0c:=aq kb 0;have gf:∀o,W.frozen? ⟨g,o,none⟩=false:=fun o=>by simp[World.frozen?,kb]
 have KB:=af kb;have KN:=af kN;clear hX hY eW kb CY RY kN;simp only[yj,rJ,yt,tf]
 repeat still_step
 refine wpStill_nil ?_;obtain⟨Z,hZ⟩:=au (W.setCell ⟨g,0,none⟩ (.S pv nv cv));have KQ:Z.heap[g]?=some (.cells #[.S pv nv cv,.U nd.owner,.I nd.mode,.map (some hh),.U nd.aJ,.U nd.gen,.map (some uu)] 121):=by rw[hZ];simp[World.setCell,we,aa KB]
 have bZ:Below g W Z:=by rw[hZ];exact ay.setCell (p:=⟨g,0,none⟩) ao _
 have kZ:∀z,z<W.heap.size->z≠g->Z.heap[z]?=W.heap[z]?:=fun z _ cg=>by rw[hZ];exact fy _ _ _ _ (show z≠_ from cg)
 have O:=One.ofC PW.be bZ (aa KB) g0 ai kZ;have PZ:=af (PW.YH (aa hk) hg mQ nj O _ V nd.owner nd.mode nd.aJ nd.gen KQ ((hV.fr (aK bW) ai).fr O.fr));have RZ:=RW.fr O.fr;have zz:w.heap.size<W.heap.size:=by have:=kH RW.2.choose_spec;omega
 have d1:Z.cell? ⟨w.heap.size,1,none⟩=some (.string (aN nd.path)):=(CW.dM (kZ _ zz ae)).1 1 _ rfl;have FZ:=af ((Fr.below (T:=T3) bW).trans O.fr);have Xj:=af (bM hk {nd with value:=V});clear KQ bZ kZ O RW CW KB KN;go_wp2_with fail;rw[<-hZ];refine(aL3 PZ (k:=k) {nd with value:=V} Xj 1 hS (af ⟨hT.by',hT.pl,hT.wpw,hT.QF,hT.Mx⟩)).mono ?_;rintro r U⟨PU,hF,v,rfl⟩;have RU0:=RZ.fr hF;obtain⟨r0,r1,r2,r3,r4,r5,r6,r7,rf⟩:=RU0.cells;replace PU:=af PU;have FU:=af (FZ.trans hF);have RU:=af RU0;clear RU0 hF RZ d1 hZ;go_wp2;exact xX PU FU RU QC bg rfl rfl rfl
def Vd{w:World}{SB NB HB UB:List Nat}(h:Hid (PS w0 w b bs bn D SB NB HB UB))(hk:Hid (D.ns[k]?=some nd))(qY:nd.path.length<=1048576){id:Int}(hid:0<=id/\id<18446744073709551616)(eC:Hid ((if nd.holders.contains id=true then 0 else 10)=C)):Cp 292 #[.agg #[.U id,.string (aN nd.path)],.pointer (some ⟨b,0,none⟩)] w fun r w'=>r=.returned (Gd C)/\Bw w w':=by
 obtain⟨g,hh,uu,V0,hg,mQ,nj,gl,-,ul,g0,hW⟩:=h.Rj hk qY;obtain⟨X,hX,bX,zX,CX,-⟩:=aC w #[.U id,.string (aN nd.path)] 240;have HW:=af hW;clear hW;go_enter func292,ntmps292;go_wp2_with fail;rw[<-hX];refine dT 11 bg (fun W eW=>?_);have bW:Bw w W:=by rw[eW];exact bX.drew
 obtain⟨k5,kl,kN,kb⟩:=aa HW W bW;have c0:W.cell? ⟨w.heap.size,0,none⟩=some (.U id):=by rw[eW];exact CX.1 0 _ rfl
 have c1:W.cell? ⟨w.heap.size,1,none⟩=some (.string (aN nd.path)):=by rw[eW];exact CX.1 1 _ rfl
 have KN:=af kN;clear hX eW kb CX kN;simp only[yj,rJ,yt,tf]
 repeat still_step
 refine wpStill_nil ?_;obtain⟨B,eB⟩:=cK (nd.holders.contains id);go_wp2_with fail;refine(kG KN hid eB).mono ?_;rintro r w1⟨rfl,aA⟩;have mK:=af (aj bW aA);have e:=aa eC;rw[aa eB]at e;clear aA c0 c1 k5 kl;cases B;{
 have e':C=10:=by rw[<-e];rfl
 subst e';go_wp2;go_ret;exact⟨rfl,mK⟩};{
 have e':C=0:=by rw[<-e];rfl
 subst e';go_wp2;go_ret;exact⟨rfl,mK⟩}
def ax9(D:SD)(nd:aB)(id:Int):Int:=if jB D.ns nd.path≠[]then 8 else if mh nd id=false then 9 else 0
def Wz{w:World}{SB NB HB UB:List Nat}(h:Hid (PS w0 w b bs bn D SB NB HB UB))(Hx:Hid ((D.ns.map fun nd=>qw nd.path).Pairwise (·<·)))(fS:Hid (∀nd∈D.ns,aM nd.path/\nd.path.length<=1048576))(hk:Hid (D.ns[k]?=some nd)){id:Int}(hid:0<=id/\id<18446744073709551616)(eC:Hid (ax9 D nd id=C)):Cp 284 #[.agg #[.U id,.string (aN nd.path)],.pointer (some ⟨b,0,none⟩)] w fun r w'=>r=.returned (Gd C)/\Bw w w':=by
 obtain⟨Pa,qY⟩:=aa fS nd (aS (aa hk));obtain⟨g,hh,uu,V0,hg,mQ,nj,gl,-,ul,g0,hW⟩:=h.Rj hk qY;obtain⟨X,hX,bX,zX,CX,-⟩:=aC w #[.U id,.string (aN nd.path)] 233;have HW:=af hW;have HBY:=af Pa;have e:=aa eC;unfold ax9 at e;rw[VM]at e;obtain⟨L,eL⟩:=cK (wR D.ns nd.path);rw[aa eL]at e;obtain⟨m,em⟩:=aI L.length;have E:=af e;have EM:=af em;clear hW Pa e em;go_enter func284,ntmps284;go_wp2_with fail;rw[<-hX];refine(LU (af (h.below bX)) Hx fS HBY eL).mono ?_;rintro r w1⟨p,c,rfl,-,aA⟩;rw[aa EM];have CW:=CX.dM (w':=w1) (aA.block _ ae);have B1:=af (aj bX aA);clear CX hX aA;by_cases h0:m=0;{
 subst h0;have hL:L=[]:=tp.1 EM;have e2:(if mh nd id=false then 9 else 0)=C:=by have:=aa E;rw[hL]at this;simpa using this
 have E2:=af e2;clear e2 hL;go_wp2_with fail;refine dT 11 bg (fun W eW=>?_);have bW:Bw w W:=by rw[eW];exact B1.drew
 obtain⟨k5,kl,kN,kb⟩:=aa HW W bW;have c0:W.cell? ⟨w.heap.size,0,none⟩=some (.U id):=by rw[eW];exact CW.1 0 _ rfl
 have c1:W.cell? ⟨w.heap.size,1,none⟩=some (.string (aN nd.path)):=by rw[eW];exact CW.1 1 _ rfl
 have KN:=af kN;clear eW kb CW kN;simp only[yj,rJ,yt,tf]
 repeat still_step
 refine wpStill_nil ?_;obtain⟨B,eB⟩:=cK (mh nd id);go_wp2_with fail;refine(Wk KN hid eB).mono ?_;rintro r w5⟨rfl,dS⟩;have zJ:=af (aj bW dS);have e:=aa E2;rw[aa eB]at e;clear dS c0 c1 k5 kl;cases B;{
 have e':C=9:=by rw[<-e];rfl
 subst e';go_wp2;go_ret;exact⟨rfl,zJ⟩};{
 have e':C=0:=by rw[<-e];rfl
 subst e';go_wp2;go_ret;exact⟨rfl,zJ⟩}};{
 have h0':=pW 0 m;have e':C=8:=by have:=aa E;rw[bN (fun e=>h0 (by rw[<-aa EM];simpa using e))]at this;exact this.symm
 subst e';go_wp2;go_ret;exact⟨rfl,B1⟩}
def Yc(nd:aB)(id:Int):Int:=if nd.mode=1/\nd.holders.contains id=false then 9 else 0
def aM4{w:World}{SB NB HB UB:List Nat}(h:Hid (PS w0 w b bs bn D SB NB HB UB))(hk:Hid (D.ns[k]?=some nd))(qY:nd.path.length<=1048576){id:Int}(hid:0<=id/\id<18446744073709551616){V:Value}(eC:Hid (Yc nd id=C)):Cp 288 #[.agg #[.U id,.string (aN nd.path),.S pv nv cv],.pointer (some ⟨b,0,none⟩)] w fun r w'=>r=.returned (Gd C)/\Bw w w':=by
 obtain⟨g,hh,uu,V0,hg,mQ,nj,gl,-,ul,g0,hW⟩:=h.Rj hk qY;obtain⟨X,hX,bX,zX,CX,-⟩:=aC w #[.U id,.string (aN nd.path),.S pv nv cv] 237;have HW:=af hW;clear hW;go_enter func288,ntmps288;go_wp2_with fail;rw[<-hX];refine jN bg (fun W eW=>?_);have bW:Bw w W:=by rw[eW];exact bX.drew
 obtain⟨k5,kl,kN,kb⟩:=aa HW W bW;have c0:W.cell? ⟨w.heap.size,0,none⟩=some (.U id):=by rw[eW];exact CX.1 0 _ rfl
 have c1:W.cell? ⟨w.heap.size,1,none⟩=some (.string (aN nd.path)):=by rw[eW];exact CX.1 1 _ rfl
 have KN:=af kN;have g2:=aq kb 2;clear hX eW kb CX kN
 repeat still_step
 refine wpStill_nil ?_;have e:=aa eC;unfold Yc at e;by_cases hm:nd.mode=1;{
 have hm':(nd.mode==1)=true:=by simp[hm]
 obtain⟨B,eB⟩:=cK (nd.holders.contains id);rw[aa eB]at e;have E:=af (by simpa[hm]using e:(if B=false then 9 else 0)=C);clear hm e;go_wp2_with fail;refine(kG KN hid eB).mono ?_;rintro r w5⟨rfl,dS⟩;have zJ:=af (aj bW dS);clear dS c0 c1 k5 kl g2;have e:=aa E;cases B;{
 have e':C=9:=by rw[<-e];rfl
 subst e';go_wp2;go_ret;exact⟨rfl,zJ⟩};{
 have e':C=0:=by rw[<-e];rfl
 subst e';go_wp2;go_ret;exact⟨rfl,zJ⟩}};{
 have hm':(nd.mode==1)=false:=by simp[hm]
 have e':C=0:=by rw[<-e];simp[hm]
 subst e';clear hm e;go_wp2;go_ret;exact⟨rfl,bW⟩}
def mO(D:SD)(nd:aB)(id F:Int):Int:=if nd.holders.contains id then 9 else if F=2 then(if nd.mode=1 then 9 else 0)else if nd.mode≠0 then 9 else if 4611686018427387904<=D.g then 12 else 0
def ar2{w:World}{SB NB HB UB:List Nat}(h:Hid (PS w0 w b bs bn D SB NB HB UB))(hk:Hid (D.ns[k]?=some nd))(qY:nd.path.length<=1048576){id:Int}(hid:0<=id/\id<18446744073709551616){F:Int}(hF:F=1\/F=2)(eC:Hid (mO D nd id F=C)):Cp 290 #[.agg #[.U id,.string (aN nd.path),.I F],.pointer (some ⟨b,0,none⟩)] w fun r w'=>r=.returned (Gd C)/\Bw w w':=by
 obtain⟨g,hh,uu,V0,hg,mQ,nj,gl,-,ul,g0,hW⟩:=h.Rj hk qY;obtain⟨X,hX,bX,zX,CX,-⟩:=aC w #[.U id,.string (aN nd.path),.I F] 239;have HW:=af hW;clear hW;have HF:=af hF;clear hF;go_enter func290,ntmps290;go_wp2_with fail;rw[<-hX];refine jN bg (fun W eW=>?_);have bW:Bw w W:=by rw[eW];exact bX.drew
 obtain⟨k5,kl,kN,kb⟩:=aa HW W bW;obtain⟨-,kg,-⟩:=(h.below bW).fh;have c0:W.cell? ⟨w.heap.size,0,none⟩=some (.U id):=by rw[eW];exact CX.1 0 _ rfl
 have c1:W.cell? ⟨w.heap.size,1,none⟩=some (.string (aN nd.path)):=by rw[eW];exact CX.1 1 _ rfl
 have c2:W.cell? ⟨w.heap.size,2,none⟩=some (.I F):=by rw[eW];exact CX.1 2 _ rfl
 have KN:=af kN;have g2:=aq kb 2;clear hX eW kb CX kN
 repeat still_step
 refine wpStill_nil ?_;rcases aa HF with e1|e1;{
 subst e1;by_cases hm:nd.mode=0;{
 have HM:=af hm;have m1:(nd.mode==1)=false:=by simp[hm]
 have m0:(nd.mode != 0)=false:=by simp[hm]
 clear hm;obtain⟨B,eB⟩:=cK (nd.holders.contains id);go_wp2_with fail;refine(kG KN hid eB).mono ?_;rintro r w5⟨rfl,dS⟩;have d2:=ag c2 dS;have d1:=ag kg dS;have zJ:=af (aj bW dS);have e:=aa eC;unfold mO at e;rw[aa eB]at e;clear dS c0 c1 c2 k5 kl g2 kg;cases B;{
 by_cases hx:4611686018427387904<=D.g;{
 have VR:decide (4611686018427387904<=D.g)=true:=by simpa using hx
 have e':C=12:=by rw[<-e];simp[aa HM,hx]
 subst e';clear e hx;go_wp2;go_ret;exact⟨rfl,zJ⟩};{
 have VR:decide (4611686018427387904<=D.g)=false:=by simpa using hx
 have e':C=0:=by rw[<-e];simp[aa HM,hx]
 subst e';clear e hx;go_wp2;go_ret;exact⟨rfl,zJ⟩}};{
 have e':C=9:=by rw[<-e];simp
 subst e';clear e;go_wp2;go_ret;exact⟨rfl,zJ⟩}};{
 have HM:=af hm;by_cases xx:nd.mode=1;{
 have m1:(nd.mode==1)=true:=by simp[xx]
 clear hm xx;obtain⟨B,eB⟩:=cK (nd.holders.contains id);go_wp2_with fail;refine(kG KN hid eB).mono ?_;rintro r w5⟨rfl,dS⟩;have d2:=ag c2 dS;have d1:=ag kg dS;have zJ:=af (aj bW dS);have e:=aa eC;unfold mO at e;rw[aa eB]at e;clear dS c0 c1 c2 k5 kl g2 kg;cases B;{
 have e':C=9:=by rw[<-e];simp[aa HM]
 subst e';clear e;go_wp2;go_ret;exact⟨rfl,zJ⟩};{
 have e':C=9:=by rw[<-e];simp
 subst e';clear e;go_wp2;go_ret;exact⟨rfl,zJ⟩}};{
 have m1:(nd.mode==1)=false:=by simp[xx]
 have m0:(nd.mode != 0)=true:=by simp[hm]
 clear hm xx;obtain⟨B,eB⟩:=cK (nd.holders.contains id);go_wp2_with fail;refine(kG KN hid eB).mono ?_;rintro r w5⟨rfl,dS⟩;have d2:=ag c2 dS;have d1:=ag kg dS;have zJ:=af (aj bW dS);have e:=aa eC;unfold mO at e;rw[aa eB]at e;clear dS c0 c1 c2 k5 kl g2 kg;cases B;{
 have e':C=9:=by rw[<-e];simp[aa HM]
 subst e';clear e;go_wp2;go_ret;exact⟨rfl,zJ⟩};{
 have e':C=9:=by rw[<-e];simp
 subst e';clear e;go_wp2;go_ret;exact⟨rfl,zJ⟩}}}};{
 subst e1;by_cases hm:nd.mode=1;{
 have HM:=af hm;have m1:(nd.mode==1)=true:=by simp[hm]
 clear hm;obtain⟨B,eB⟩:=cK (nd.holders.contains id);go_wp2_with fail;refine(kG KN hid eB).mono ?_;rintro r w5⟨rfl,dS⟩;have d2:=ag c2 dS;have d1:=ag kg dS;have zJ:=af (aj bW dS);have e:=aa eC;unfold mO at e;rw[aa eB]at e;clear dS c0 c1 c2 k5 kl g2 kg;cases B;{
 have e':C=9:=by rw[<-e];simp[aa HM]
 subst e';clear e;go_wp2;go_ret;exact⟨rfl,zJ⟩};{
 have e':C=9:=by rw[<-e];simp
 subst e';clear e;go_wp2;go_ret;exact⟨rfl,zJ⟩}};{
 have HM:=af hm;have m1:(nd.mode==1)=false:=by simp[hm]
 clear hm;obtain⟨B,eB⟩:=cK (nd.holders.contains id);go_wp2_with fail;refine(kG KN hid eB).mono ?_;rintro r w5⟨rfl,dS⟩;have d2:=ag c2 dS;have d1:=ag kg dS;have zJ:=af (aj bW dS);have e:=aa eC;unfold mO at e;rw[aa eB]at e;clear dS c0 c1 c2 k5 kl g2 kg;cases B;{
 have e':C=0:=by rw[<-e];simp[aa HM]
 subst e';clear e;go_wp2;go_ret;exact⟨rfl,zJ⟩};{
 have e':C=9:=by rw[<-e];simp
 subst e';clear e;go_wp2;go_ret;exact⟨rfl,zJ⟩}}}
def uF(w:World)(cs:Array Value)(ty:TypeId):∃X Y,X=w.alloc (.cells cs ty)/\Y=X.alloc (.cells #[.I 0,.U 0,.U 0,.U 0,.I 0,.S none 0 0,.S none 0 0,.S none 0 0] 62)/\Bw w Y/\X.heap.size=w.heap.size+1/\Y.heap.size=w.heap.size+2/\Y.heap[w.heap.size]?=some (.cells cs ty)/\RX Y (w.heap.size+1) [.I 0,.U 0,.U 0,.U 0,.I 0,.S none 0 0,.S none 0 0,.S none 0 0]:=by
 obtain⟨X,hX,bX,zX,-,gX⟩:=aC w cs ty;obtain⟨Y,hY,bY,zY,RY⟩:=qQ X (.I 0) (.U 0) (.U 0) (.U 0) (.I 0) (.S none 0 0) (.S none 0 0) (.S none 0 0);rw[zX]at RY;exact⟨X,Y,hX,hY,aj bX bY,zX,ae,(bY.block _ ae).trans gX,RY⟩
def Zo{w:World}{SB NB HB UB:List Nat}(h:Hid (PS w0 w b bs bn D SB NB HB UB))(hk:Hid (D.ns[k]?=some nd))(qY:nd.path.length<=1048576)(Hx:Hid (nd.holders.Pairwise (·<·)))(OM:Hid (nd.holders.length<=1048576)){id:Int}(hid:0<=id/\id<18446744073709551616)(he:Hid (nd.aJ=0/\nd.gen=0)):Cp 289 #[.agg #[.U id,.string (aN nd.path),.I 2],.pointer (some ⟨b,0,none⟩)] w (sP w0 w b bs bn {D with ns:=D.ns.set k {nd with mode:=2,holders:=vR nd.holders id}} SB NB HB UB rB):=by
 obtain⟨g,hh,uu,V0,hg,mQ,nj,gl,-,-,g0,hW⟩:=h.Rj hk qY;obtain⟨X,Y,hX,hY,bY,zX,zY,BX,RY⟩:=uF w #[.U id,.string (aN nd.path),.I 2] 239;have HW:=af hW;have BXH:=af BX;have RYH:=af RY;have IX:=af (ah hg (ah mQ nj));have QC:=h.be.size;clear hW BX RY hg mQ nj;have cL:=keyOf_int_mk underlying28 (nT hid);go_enter func289,ntmps289;go_wp2_with fail;rw[<-hX,<-hY];refine jN bg (fun W eW=>?_);have L6:=mi eW;obtain⟨k5,kl,kN,kb⟩:=aa HW W (aj bY L6);have FW:=af (Fr.below (T:=T3) L6);have bx:=FW.2 _ _ _ _ aU BXH;have c1:=aq bx 1;have c2:=aq bx 2;have g2:=aq kb 2;have gf:∀o,W.frozen? ⟨g,o,none⟩=false:=fun o=>by simp[World.frozen?,kb]
 have PW:=af (h.below (aj bY L6));obtain⟨V',hV',bL,-⟩:=kN.cells;rw[kb]at bL;cases bL;have HV:=af hV';have KB:=af kb;clear hX hY eW kb kN bx hV' L6
 repeat still_step
 refine wpStill_nil ?_;obtain⟨Z,hZ⟩:=au (W.setCell ⟨g,2,none⟩ (.I 2));have KQ:Z.heap[g]?=some (.cells #[V0,.U nd.owner,.I 2,.map (some hh),.U nd.aJ,.U nd.gen,.map (some uu)] 121):=by rw[hZ];simp[World.setCell,we,aa KB]
 have bZ:Below g W Z:=by rw[hZ];exact ay.setCell (p:=⟨g,2,none⟩) ao _
 have kZ:∀z,z<W.heap.size->z≠g->Z.heap[z]?=W.heap[z]?:=fun z _ cg=>by rw[hZ];exact fy _ _ _ _ (show z≠_ from cg)
 have O:=One.ofC PW.be bZ (aa KB) g0 ai kZ;have PZ:=af (PW.YH hk IX.1 IX.2.1 IX.2.2 O V0 nd.value nd.owner 2 nd.aJ nd.gen KQ (HV.fr O.fr));have FZ:=af (FW.trans O.fr);clear bZ kZ O KQ;go_wp2_with fail;rw[<-hZ];clear hZ c1 c2 g2 gf k5 kl KB HV PW FW;refine dT 8 bg (fun W1 eW1=>?_);have bZW:=mi eW1;have PW1:=af (PZ.below bZW);have FW1:=af (FZ.trans (Fr.below (T:=T3) bZW));have bx:=FW1.2 _ _ _ _ aU BXH;have c0:=aq bx 0;have jQ:=bM hk {nd with mode:=2}
 have kN:=PW1.my k _ g hh uu jQ IX.1 IX.2.1 IX.2.2;obtain⟨V1,-,-,-,-,-,n3,-⟩:=kN.cells;obtain⟨M,n,o,hn,hs,hz⟩:=kN.UD;have o':=fq o;rw[hz]at o';obtain⟨Y2,dI,ho,sU⟩:=o'.update iI underlying118 (by have:=aa OM;show nd.holders.length<_;unfold maxLen;omega) (val:=.agg #[]) cL unitElem_mk;have O2:=One.YA PW1.be sU kN.lo.2.1 (ownsMap_at o');have SZ:=SM.put (w:=W1) hs o'.isMap Hx (by have:=aa OM;show nd.holders.length+1<=_;omega) ho;have U6:=PW1.UD jQ IX.1 IX.2.1 IX.2.2 O2 SZ;simp only[qn]at U6;replace U6:=af U6;have FY2:=af (FW1.trans O2.fr);have qK:=af (bM hk {nd with mode:=2,holders:=vR nd.holders id});have bx2:=FY2.2 _ _ _ _ aU BXH;have e2:=aq bx2 2;clear eW1 kN O2 SZ ho sU o o' hs hz bx bx2 jQ bZW;simp only[yj,rJ,yt,tf]
 repeat still_step
 refine wpStill_nil ?_;go_wp2_with fail;clear dI c0 n3 e2;refine dT 9 bg (fun W2 eW2=>?_);have bY2:=mi eW2;have Xv:=af (U6.below bY2);have FW2:=FY2.trans (Fr.below (T:=T3) bY2);have RW2:=RYH.fr FW2;have kN:=Xv.my k _ g hh uu qK IX.1 IX.2.1 IX.2.2;obtain⟨V1,-,-,-,-,-,-,n4,n5,-⟩:=kN.cells;simp only[he.1,he.2]at n4 n5;obtain⟨r0,r1,r2,r3,r4,r5,r6,r7,rf⟩:=RW2.cells;have FZ2:=af ((Fr.below (T:=T3) bY).trans FW2);have RZ2:=af RW2;clear eW2 kN FW2 RW2 bY2;simp only[yj,rJ,yt,tf]
 repeat still_step
 refine wpStill_nil ?_;go_wp2;exact xX Xv FZ2 RZ2 QC bg rfl rfl rfl
def Zp{w:World}{SB NB HB UB:List Nat}(h:Hid (PS w0 w b bs bn D SB NB HB UB))(hk:Hid (D.ns[k]?=some nd))(qY:nd.path.length<=1048576)(Hx:Hid (nd.holders.Pairwise (·<·)))(OM:Hid (nd.holders.length<=1048576)){id:Int}(hid:0<=id/\id<18446744073709551616)(hgg:0<=D.g/\D.g<4611686018427387904):Cp 289 #[.agg #[.U id,.string (aN nd.path),.I 1],.pointer (some ⟨b,0,none⟩)] w (sP w0 w b bs bn {D with g:=D.g+1,ns:=D.ns.set k {nd with mode:=1,holders:=vR nd.holders id,aJ:=D.e,gen:=D.g+1}} SB NB HB UB {rB with e:=D.e,g:=D.g+1}):=by
 obtain⟨g,hh,uu,V0,hg,mQ,nj,gl,-,-,g0,hW⟩:=h.Rj hk qY;obtain⟨X,Y,hX,hY,bY,zX,zY,BX,RY⟩:=uF w #[.U id,.string (aN nd.path),.I 1] 239;have HW:=af hW;have BXH:=af BX;have RYH:=af RY;have IX:=af (ah hg (ah mQ nj));have QC:=h.be.size;clear hW BX RY hg mQ nj;have cL:=keyOf_int_mk underlying28 (nT hid);go_enter func289,ntmps289;go_wp2_with fail;rw[<-hX,<-hY];refine jN bg (fun W eW=>?_);have L6:=mi eW;obtain⟨k5,kl,kN,kb⟩:=aa HW W (aj bY L6);have FW:=af (Fr.below (T:=T3) L6);have bx:=FW.2 _ _ _ _ aU BXH;have c1:=aq bx 1;have c2:=aq bx 2;have g2:=aq kb 2;have gf:∀o,W.frozen? ⟨g,o,none⟩=false:=fun o=>by simp[World.frozen?,kb]
 have PW:=af (h.below (aj bY L6));obtain⟨V',hV',bL,-⟩:=kN.cells;rw[kb]at bL;cases bL;have HV:=af hV';have KB:=af kb;clear hX hY eW kb kN bx hV' L6
 repeat still_step
 refine wpStill_nil ?_;obtain⟨Z,hZ⟩:=au (W.setCell ⟨g,2,none⟩ (.I 1));have KQ:Z.heap[g]?=some (.cells #[V0,.U nd.owner,.I 1,.map (some hh),.U nd.aJ,.U nd.gen,.map (some uu)] 121):=by rw[hZ];simp[World.setCell,we,aa KB]
 have bZ:Below g W Z:=by rw[hZ];exact ay.setCell (p:=⟨g,2,none⟩) ao _
 have kZ:∀z,z<W.heap.size->z≠g->Z.heap[z]?=W.heap[z]?:=fun z _ cg=>by rw[hZ];exact fy _ _ _ _ (show z≠_ from cg)
 have O:=One.ofC PW.be bZ (aa KB) g0 ai kZ;have PZ:=af (PW.YH hk IX.1 IX.2.1 IX.2.2 O V0 nd.value nd.owner 1 nd.aJ nd.gen KQ (HV.fr O.fr));have FZ:=af (FW.trans O.fr);clear bZ kZ O KQ;go_wp2_with fail;rw[<-hZ];clear hZ c1 c2 g2 gf k5 kl KB HV PW FW;refine dT 8 bg (fun W1 eW1=>?_);have bZW:=mi eW1;have PW1:=af (PZ.below bZW);have FW1:=af (FZ.trans (Fr.below (T:=T3) bZW));have bx:=FW1.2 _ _ _ _ aU BXH;have c0:=aq bx 0;have jQ:=bM hk {nd with mode:=1}
 have kN:=PW1.my k _ g hh uu jQ IX.1 IX.2.1 IX.2.2;obtain⟨V1,-,-,-,-,-,n3,-⟩:=kN.cells;obtain⟨M,n,o,hn,hs,hz⟩:=kN.UD;have o':=fq o;rw[hz]at o';obtain⟨Y2,dI,ho,sU⟩:=o'.update iI underlying118 (by have:=aa OM;show nd.holders.length<_;unfold maxLen;omega) (val:=.agg #[]) cL unitElem_mk;have O2:=One.YA PW1.be sU kN.lo.2.1 (ownsMap_at o');have SZ:=SM.put (w:=W1) hs o'.isMap Hx (by have:=aa OM;show nd.holders.length+1<=_;omega) ho;have U6:=PW1.UD jQ IX.1 IX.2.1 IX.2.2 O2 SZ;simp only[qn]at U6;replace U6:=af U6;have FY2:=af (FW1.trans O2.fr);have qK:=af (bM hk {nd with mode:=1,holders:=vR nd.holders id});have bx2:=FY2.2 _ _ _ _ aU BXH;have e2:=aq bx2 2;clear eW1 kN O2 SZ ho sU o o' hs hz bx bx2 jQ bZW;simp only[yj,rJ,yt,tf]
 repeat still_step
 refine wpStill_nil ?_;obtain⟨q0,q1,q2,q3,q4,q5,qf⟩:=U6.fh;obtain⟨Z3,hZ3⟩:=au (Y2.setCell ⟨b,1,none⟩ (.U (D.g+1)));have KQ:Z3.heap[b]?=some (.cells #[.U D.e,.U (D.g+1),.U D.x,.I D.t,.map (some bs),.map (some bn)] 114):=by rw[hZ3];simp[World.setCell,we,U6.hd]
 have O3:=One.ofC U6.be (by rw[hZ3];exact ay.setCell (p:=⟨b,1,none⟩) ao _:Below b Y2 Z3) U6.hd U6.lo.1 ai (fun z _ cg=>by rw[hZ3];exact fy _ _ _ _ (show z≠_ from cg));have P3:=af (U6.XL O3 D.e (D.g+1) D.x D.t KQ);have F3:=af (FY2.trans O3.fr);clear KQ O3;go_wp2_with fail;rw[<-hZ3];clear hZ3 dI c0 n3 e2 q0 q1 q2 q3 q4 q5 qf;obtain⟨vA,iw⟩:=au Z3.drew;have bA:=mi iw;have PA:=af (P3.below bA);have FA:=af (F3.trans (Fr.below (T:=T3) bA));obtain⟨q0,q1,-⟩:=PA.fh;have kN:=PA.my k _ g hh uu qK IX.1 IX.2.1 IX.2.2;obtain⟨V1,Wh,kb1,-,-,-,-,n4,n5,-,nf⟩:=kN.cells;have hbg:b≠g:=fun e=>by have:=PA.hd;rw[e,kb1]at this;simp at this
 have HKB:=af (ah Wh kb1);clear bA kN Wh kb1;refine dy (fun w'=>w'.cell? ⟨b,0,none⟩=some (.U D.e)/\w'.cell? ⟨b,1,none⟩=some (.U (D.g+1))) (by rw[<-iw];exact⟨q0,q1⟩) fun hS=>?_;rw[<-iw]at hS⊢;clear iw;refine mn 0 1 2 3 4 5 6 7 hS ?_;refine mu 8 9 10 11 hS ?_;refine ry [12] ?_;refine cn (fun KK hK=>?_) ?_;rotate_left;exact AllReadyH.nil
 rotate_right
 go_simp;obtain⟨Z4,hZ4⟩:=au (vA.setCell ⟨g,4,none⟩ (.U D.e));have k4:∀z,z≠g->Z4.heap[z]?=vA.heap[z]?:=fun z cg=>by rw[hZ4];exact fy _ _ _ _ (show z≠_ from cg)
 have b4:Below g vA Z4:=by rw[hZ4];exact ay.setCell (p:=⟨g,4,none⟩) ao _
 have Ox:Z4.heap[g]?=some (.cells #[V1,.U nd.owner,.I 1,.map (some hh),.U D.e,.U nd.gen,.map (some uu)] 121):=by rw[hZ4];simp[World.setCell,we,HKB.2]
 rw[<-hZ4];have p0:=(aE (k4 b hbg) 0).trans q0;have p1:=(aE (k4 b hbg) 1).trans q1;refine gr hK (by exact⟨p0,p1⟩) fun hS=>?_;clear hK KK n4 n5 nf hZ4 q0 q1;refine jZ 13 14 hS ?_;have m5:=aq Ox 5;have mf:∀o,Z4.frozen? ⟨g,o,none⟩=false:=fun o=>by simp[World.frozen?,Ox]
 have H4:=af (ah Ox (ah k4 b4));clear Ox k4 b4;refine ry [15] ?_;refine cn (fun KK hK=>?_) ?_;rotate_left;exact AllReadyH.nil
 rotate_right
 go_simp;obtain⟨Z5,hZ5⟩:=au (Z4.setCell ⟨g,5,none⟩ (.U (D.g+1)));have k5:∀z,z≠g->Z5.heap[z]?=Z4.heap[z]?:=fun z cg=>by rw[hZ5];exact fy _ _ _ _ (show z≠_ from cg)
 have b5:Below g Z4 Z5:=by rw[hZ5];exact ay.setCell (p:=⟨g,5,none⟩) ao _
 have hz5:Z5.heap[g]?=some (.cells #[V1,.U nd.owner,.I 1,.map (some hh),.U D.e,.U (D.g+1),.map (some uu)] 121):=by rw[hZ5];simp[World.setCell,we,H4.1]
 rw[<-hZ5];have s0:=(aE (k5 b hbg) 0).trans p0;have s1:=(aE (k5 b hbg) 1).trans p1;have O5:=One.ofC PA.be (H4.2.2.trans b5) HKB.2 g0 ai (fun z _ cg=>(k5 z cg).trans (H4.2.1 z cg));have P5:=PA.YH qK IX.1 IX.2.1 IX.2.2 O5 V1 nd.value nd.owner 1 D.e (D.g+1) hz5 (HKB.1.fr O5.fr);simp only[qn]at P5;have PY3:=af P5;have FY3:=af (FA.trans O5.fr);have qZ:=af (bM hk {nd with mode:=1,holders:=vR nd.holders id,aJ:=D.e,gen:=D.g+1});refine gr hK (by exact⟨s0,s1⟩) fun hS=>?_;clear hK KK hZ5 k5 b5 hz5 s0 s1 O5 P5 m5 mf p0 p1;refine di ?_;clear hS;go_wp2_with fail;refine dT 9 bg (fun W2 eW2=>?_);have bY2:=mi eW2;have Xv:=af (PY3.below bY2);have FW2:=FY3.trans (Fr.below (T:=T3) bY2);have RW2:=RYH.fr FW2;have kN:=Xv.my k _ g hh uu qZ IX.1 IX.2.1 IX.2.2;obtain⟨V2,-,-,-,-,-,-,n4,n5,-⟩:=kN.cells;obtain⟨r0,r1,r2,r3,r4,r5,r6,r7,rf⟩:=RW2.cells;have FZ2:=af ((Fr.below (T:=T3) bY).trans FW2);have RZ2:=af RW2;clear eW2 kN FW2 RW2 bY2;simp only[yj,rJ,yt,tf]
 repeat still_step
 refine wpStill_nil ?_;go_wp2;exact xX Xv FZ2 RZ2 QC bg rfl rfl rfl
end Go.Proofs.YtjjnidignljppaaGreatDoor
