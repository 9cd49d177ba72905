import Derived.Test.YtnhnbpkfpaondaaGreatDoorK11
import Derived.StillTailTactics
namespace Go.Proofs.YtnhnbpkfpaondaaGreatDoor
set_option maxHeartbeats 0
set_option linter.all false
set_option maxRecDepth 100000
open Go.ChangeShapes Go.WideShapes Go.ChangeAt Go.RowKit Go.Maps Go.Proofs.Tryz
def Ic(k:Int):Value:=if k=0 then .nilIface else .iface 288 (.agg #[.I k])
variable {v pt o0 o1 o2 o3 o4 o5 o6 o7 v0 v1 v2 v3 v4 v5 v6 v7:Value}{w w0 w' Z Y:World}{b bs bn z k i nv cv gN np j s:Nat}{D:SD}{C:Int}{cs:Array Value}{ty:TypeId}{a:Act}{l:List Oper}{vs:List Value}{fn:Func}{R:Ending->World->Prop}{nd:aD}{pv:OA}{V P VL:LI}{B F:Bool}
def ac1(hv:v=.agg #[]):Calls prog 321 #[v,pt] w (Rb (Ic 0) w):=by
 subst hv
 go_in
 go_wp2;go_ret;exact⟨rfl,aA.alloc ay _⟩
def zk(D:SD):Int:=if 50<=D.ss.length then 11 else if 4611686018427387904<=D.x then 12 else 0
def aI2{SB NB HB UB:List Nat}(h:Hid (PS w0 w b bs bn D SB NB HB UB))(eC:Hid (zk D=C)):Calls prog 320 #[.agg #[],.pointer (some (Ad b 0))] w (Rb (Ic C) w):=by
 obtain⟨-,-,h2,-,h4,-,-⟩:=h.fq
 let⟨M,n,o,hn,m,hz⟩:=h.sG
 have k2:=λ(ob:Obj)=>ah h2 ((cQ w.heap.size w).alloc ay ob);have k4:=λ(ob:Obj)=>ah h4 ((cQ w.heap.size w).alloc ay ob);have hlen:=λ(ob:Obj)=>(o.alloc ob).len underlying154 3;rw[hz]at hlen;have e:=ae eC;unfold zk at e
 let⟨nl,lK⟩:=aL D.ss.length
 rw[lK]at hlen e;clear o m hz lK;by_cases h50:50<=nl;{
 have bl9:=dC 50 nl;rw[bO h50]at e;subst e
 go_in
 go_wp2;go_ret;exact⟨rfl,aA.alloc ay _⟩};{
 have bl9:¬(50:Int)<=(nl:Int):=af;rw[bH h50]at e;by_cases hx:4611686018427387904<=D.x;{
 have YI:decide (4611686018427387904<=D.x)=true:=by simpa using hx
 rw[bO hx]at e;subst e
 go_in
 go_wp2;go_ret;exact⟨rfl,aA.alloc ay _⟩};{
 have YI:decide (4611686018427387904<=D.x)=false:=by simpa using hx
 rw[bH hx]at e;subst e
 go_in
 go_wp2;go_ret;exact⟨rfl,aA.alloc ay _⟩}}
def PS.rest{SB NB HB UB:List Nat}(h:PS w0 w b bs bn D SB NB HB UB)(hb:Below w0.heap.size w w')(hk:∀y,y<w.heap.size->y≠z->w'.heap[y]?=w.heap[y]?)(hz:∃m,w.heap[z]?=some (.cells cs ty m))(ht:ty∉[132,162,157,5,189]):PS w0 w' b bs bn D SB NB HB UB:=by
 obtain⟨mz,hz⟩:=hz;simp only[jv,GF,xl,Je]at ht;obtain⟨t1,t2,t3,t4,t5⟩:=ht;have hf:Fr [ty] w w':=⟨hb.size,λy cur ty' m' hn hy=>by by_cases e:y=z;{subst e;rw[hz]at hy;simp at hy;exact absurd (by rw[hy.2.1];simp) hn};{exact(hk y (iW hy) e).trans hy}⟩
 have nc:∀{y:Nat}{IN:Array Value}{ty':TypeId},w.heap[y]?=some (.cells IN ty')->ty≠ty'->w'.heap[y]?=some (.cells IN ty'):=λ{y IN ty'}hy ht'=>(hk y (aR hy) (λe=>by rw[e,hz]at hy;simp at hy;exact ht' hy.2.1)).trans hy
 have nm:∀{k:TypeId}{R:Value->Option (DataW Unit×List MemPlace)}{y n:Nat}{M:DataW Unit},w.ownsMap prog k R y n M->w'.ownsMap prog k R y n M:=λo=>uG o (λes c hh=>(hk _ (aR hh) (λe=>by rw[e,hz]at hh;cases hh)).trans hh)
 have ab:∀{v:Value}{l:LI},AB w0 w v l->AB w0 w' v l:=λq=>q.fr hf (by simp;exactλe=>t4 e.symm);have sm:∀{y:Nat}{s:LI},SM w y s->SM w' y s:=λ⟨M,n,o,r⟩=>⟨M,n,nm o,r⟩;refine⟨h.be.trans hb,nc h.hd t3,h.tR,?_,λj s1 g1 ik gp=>?_,h.snd,h.tT,h.hlen,h.uw,?_,λj nd gb hh uu ik gp h1 h2=>?_,h.nnd,h.lo,h.Ny⟩;{
 let⟨M,n,o,r⟩:=h.sG
 exact⟨M,n,nm o,r⟩};{
 let⟨q0,u,q1,q2⟩:=h.vT j s1 g1 ik gp
 exact⟨q0,u,nc q1 t1,q2.fr hb hf (by simp;exact⟨λe=>t4 e.symm,λe=>t5 e.symm⟩)⟩};{
 let⟨M,n,o,r⟩:=h.lY
 exact⟨M,n,nm o,r⟩};{
 let⟨q0,⟨V,q1,q2⟩,q3,q4⟩:=h.nw j nd gb hh uu ik gp h1 h2
 exact⟨q0,⟨V,nc q1 t2,ab q2⟩,sm q3,sm q4⟩}
def jW{id:Nat}{Q:Exit->Act->World->Prop}(hB:Region.lexB .any l.toArray=true)(h:∀W,W=w.drew->wpStill prog l.toArray W (λa'=>Q .normal a' W) l a):(Code.region id l.toArray true).wp prog Q a w:=wp_region_still_lit (by kernel_rfl) hB (h _ rfl)
def dN{id:Nat}{Q:Exit->Act->World->Prop}(n:Nat)(hB:Region.lexTailB .any l.toArray n=true)(h:∀W,W=w.drew->wpStill prog l.toArray W (λa'=>wpList prog l.toArray Q (l.drop n) a' W) (l.take n) a):(Code.region id l.toArray true).wp prog Q a w:=wp_region_still_tail n (by kernel_rfl) hB (h _ rfl)
def PS.rep{SB NB HB UB:List Nat}(h:PS w0 w b bs bn D SB NB HB UB)(hz:RX w z vs)(ZR:w0.heap.size<=z)(v0 v1 v2 v3 v4 v5 v6 v7:Value):PS w0 (lu w z v0 v1 v2 v3 v4 v5 v6 v7) b bs bn D SB NB HB UB:=by
 obtain⟨-,cur,hc⟩:=hz;exact h.rest ((dm).mono ZR) (λy _ bS=>Ka bS) ⟨_,hc⟩ bj
def Fk(w:World)(cs:Array Value)(ty:TypeId):∃X Y,X=w.alloc (.cells cs ty)/\Y=X.alloc (.cells #[.I 0,.U 0,.U 0,.U 0,.I 0,aq,aq,aq] 127)/\Bw w Y/\X.heap.size=w.heap.size+1/\Y.heap.size=w.heap.size+2/\ar Y w.heap.size cs.toList/\RX Y (w.heap.size+1) [.I 0,.U 0,.U 0,.U 0,.I 0,aq,aq,aq]:=by
 let⟨X,hX,bX,zX,CX,gX⟩:=au w cs ty
 let⟨Y,hY,bY,zY,RY⟩:=rE X (.I 0) (.U 0) (.U 0) (.U 0) (.I 0) aq aq aq
 rw[zX]at RY;exact⟨X,Y,hX,hY,aj bX bY,zX,af,CX.de (bY.block _ af),RY⟩
def yW(hR:Hid (RX Z z [o0,o1,o2,o3,o4,o5,o6,o7]))(hf:fn.results=#[.cell 4 127])(ha:a.tmps.getD 4 undef=.pointer (some (Ad z 0)))(hd:a.defers=[])(hQ:R (.returned (.agg #[v0,v1,v2,v3,v4,v5,v6,v7])) (lu Z z v0 v1 v2 v3 v4 v5 v6 v7)):bodyPost prog fn R .ret a (lu Z z v0 v1 v2 v3 v4 v5 v6 v7):=by
 obtain⟨q0,q1,q2,q3,q4,q5,q6,q7,-⟩:=(hR.put v0 v1 v2 v3 v4 v5 v6 v7).1.cells;generalize lu Z z v0 v1 v2 v3 v4 v5 v6 v7=W at*;refine dJ (v:=.agg #[v0,v1,v2,v3,v4,v5,v6,v7]) ?_ hd hQ;have Tr:=ha;simp only[aV0]at Tr;simp[results,hf,go_sem,Tr,q0,q1,q2,q3,q4,q5,q6,q7]
def rpn(R:RP):Value:=yC R.k R.i R.e R.g R.n aq aq aq
def sA(w0 w:World)(b bs bn:Nat)(D:SD)(SB NB HB UB:List Nat)(R:RP)(r:Ending)(w':World):Prop:=PS w0 w' b bs bn D SB NB HB UB/\Fr T3 w w'/\r=.returned (rpn R)
def vG{SB NB HB UB:List Nat}{R:RP}(PZ:Hid (PS w0 Z b bs bn D SB NB HB UB))(FZ:Hid (Fr T3 w Z))(RZ:Hid (RX Z (w.heap.size+1) [o0,o1,o2,o3,o4,o5,o6,o7]))(OE:w0.heap.size<=w.heap.size)(hf:fn.results=#[.cell 4 127])(ha:a.tmps.getD 4 undef=.pointer (some (Ad (w.heap.size+1) 0)))(hd:a.defers=[])(eR:rpn R=.agg #[v0,v1,v2,v3,v4,v5,v6,v7]):bodyPost prog fn (sA w0 w b bs bn D SB NB HB UB R) .ret a (lu Z (w.heap.size+1) v0 v1 v2 v3 v4 v5 v6 v7):=
 yW RZ hf ha hd ⟨PS.rep (ae PZ) (ae RZ) af _ _ _ _ _ _ _ _,FZ.low ((dm (w:=Z) (b:=w.heap.size+1) (v0:=v0) (v1:=v1) (v2:=v2) (v3:=v3) (v4:=v4) (v5:=v5) (v6:=v6) (v7:=v7)).mono af),by rw[eR]⟩
def XW{SB NB HB UB:List Nat}(h:Hid (PS w0 w b bs bn D SB NB HB UB))(hk:Hid (D.ns[k]?=some nd))(hS:Hid (Fm D.ss))(hT:Hid (NT D.ss nd)){id:Int}(hid:0<=id/\id<2^64)(hhp:Hid (nd.holders.Pairwise (·<·)))(hhl:nd.holders.length<=1048576)(Dy:Hid (nd.holders.contains id=true)):Calls prog 341 #[.agg #[.U id,.string (aP nd.path)],.pointer (some (Ad b 0))] w (sA w0 w b bs bn (dS D k id) SB NB HB UB rH):=by
 let⟨X,Y,hX,hY,bY,zX,zY,CY,RY⟩:=Fk w #[.U id,.string (aP nd.path)] 307
 go_in
 go_wp2_with fail;rw[<-hX,<-hY];refine(Yi (ag (h.below bY)) hk hS hT hid hhp hhl Dy).mono ?_;rintro r Z⟨PZ,hF,v,rfl⟩;have Zw:=RY.fr hF
 let⟨r0,r1,r2,r3,r4,r5,r6,r7,rf⟩:=Zw.cells
 replace PZ:=ag PZ;have FZ:=ag ((Fr.below (T:=T3) bY).trans hF);have RZ:=ag Zw;have OE:=h.be.size;go_wp2;exact vG PZ FZ RZ OE bg rfl rfl rfl
def Zg{SB NB HB UB:List Nat}(h:Hid (PS w0 w b bs bn D SB NB HB UB))(hk:Hid (D.ns[k]?=some nd))(hS:Hid (Fm D.ss))(hT:Hid (NT D.ss nd))(hD:Hid (KD D.ns)){id:Int}:Calls prog 333 #[.agg #[.U id,.string (aP nd.path)],.pointer (some (Ad b 0))] w (sA w0 w b bs bn (Tf (dW D k 2) k) SB (NB.eraseIdx k) (HB.eraseIdx k) (UB.eraseIdx k) rH):=by
 let⟨X,Y,hX,hY,bY,zX,zY,CY,RY⟩:=Fk w #[.U id,.string (aP nd.path)] 300
 go_in
 go_wp2_with fail;rw[<-hX,<-hY];refine(af7 (ag (h.below bY)) hk hS hT hD).mono ?_;rintro r Z⟨PZ,hF,v,rfl⟩;have Zw:=RY.fr hF
 let⟨r0,r1,r2,r3,r4,r5,r6,r7,rf⟩:=Zw.cells
 replace PZ:=ag PZ;have FZ:=ag ((Fr.below (T:=T3) bY).trans hF);have RZ:=ag Zw;have OE:=h.be.size;go_wp2;exact vG PZ FZ RZ OE bg rfl rfl rfl
def PS.Qe{SB NB HB UB:List Nat}(h:PS w0 w b bs bn D SB NB HB UB)(hi:D.ns[i]?=some nd)(hl:nd.path.length<=1048576):∃g hh uu V,NB[i]?=some g/\HB[i]?=some hh/\UB[i]?=some uu/\g<w.heap.size/\hh<w.heap.size/\uu<w.heap.size/\w0.heap.size<=g/\∀W,Bw w W->W.cell? (Ad b 5)=some (.map (some bn))/\(Instr.lookup 155 (.map (some bn)) (.string (aP nd.path)) false).run prog W=.ok (.pointer (some (Ad g 0))) W/\PN w0 W g hh uu nd/\W.heap[g]?=some (.cells #[V,.U nd.owner,.I nd.mode,.map (some hh),.U nd.aE,.U nd.gen,.map (some uu)] 162):=by
 obtain⟨g,hh,uu,hg,nH,nM,hN,-⟩:=h.QU hi hl;obtain⟨V,h1,-⟩:=hN.blk
 let⟨es,c,m3⟩:=hN.Xp.at
 let⟨es',c',m4⟩:=hN.TF.at
 refine⟨g,hh,uu,V,hg,nH,nM,aR h1,aR m3,aR m4,hN.lo.1,λW hW=>?_⟩;have hP:=h.below hW;obtain⟨-,-,-,-,-,k5,-⟩:=hP.fq
 let⟨g',hh',uu',Cj,bK6,bH2,Nh,Fb⟩:=hP.QU hi hl
 rw[hg]at Cj;rw[nH]at bK6;rw[nM]at bH2;cases Cj;cases bK6;cases bH2;exact⟨k5,Fb,Nh,(hW.block g (aR h1)).trans h1⟩
def bd8{SB NB HB UB:List Nat}(h:Hid (PS w0 w b bs bn D SB NB HB UB))(hk:Hid (D.ns[k]?=some nd))(hS:Hid (Fm D.ss))(hT:Hid (NT D.ss nd)){id:Int}(hV:Hid (AB w0 w (.S pv nv cv) V)):Calls prog 337 #[.agg #[.U id,.string (aP nd.path),.S pv nv cv],.pointer (some (Ad b 0))] w (sA w0 w b bs bn (dW {D with ns:=D.ns.set k {nd with value:=V}} k 1) SB NB HB UB rH):=by
 obtain⟨g,hh,uu,V0,hg,nH,nM,gl,-,-,g0,hW⟩:=h.Qe hk hT.pl
 let⟨X,Y,hX,hY,bY,zX,zY,CY,RY⟩:=Fk w #[.U id,.string (aP nd.path),.S pv nv cv] 304
 have HW:=ag hW;clear hW
 go_in
 go_wp2_with fail;rw[<-hX,<-hY];refine dN 12 bg (λW eW=>?_);have bW:Bw w W:=eW▸bY.drew
 let⟨k5,kl,kN,kb⟩:=ae HW W bW
 have c1:W.cell? (Ad w.heap.size 1)=some (.string (aP nd.path)):=eW▸CY.1 1 _ rfl;have c2:W.cell? (Ad w.heap.size 2)=some (.S pv nv cv):=eW▸CY.1 2 _ rfl;have RW:=RY.below (w':=W) (eW▸aA.drew);have CW:=CY.de (w':=W) (by rw[eW];rfl);have OE:=h.be.size;have PW:=ag (h.below bW);have g0c:=ao kb 0;have gf:∀o,W.frozen? (Ad g o)=false:=λo=>by simp[World.frozen?,kb]
 have KB:=ag kb;have KN:=ag kN;clear hX hY eW kb CY RY kN;simp only[xT,rj,vW,sU]
 repeat still_step
 refine iy ?_
 let⟨Z,hZ⟩:=aB (W.setCell (Ad g 0) (.S pv nv cv))
 have Oj:Z.heap[g]?=some (.cells #[.S pv nv cv,.U nd.owner,.I nd.mode,.map (some hh),.U nd.aE,.U nd.gen,.map (some uu)] 162):=by rw[hZ];simp[World.setCell,BS,ae KB]
 have bZ:Below g W Z:=by rw[hZ];exact aA.setCell (p:=(Ad g 0)) ay _
 have kZ:∀z,z<W.heap.size->z≠g->Z.heap[z]?=W.heap[z]?:=λz _ bS=>by rw[hZ];exact ga _ _ _ _ (show z≠_ from bS)
 have O:=One.ofC PW.be bZ (ae KB) g0 al kZ;have PZ:=ag (PW.ah6 (ae hk) hg nH nM O _ V nd.owner nd.mode nd.aE nd.gen Oj ((hV.fr (aO bW) al).fr O.fr));have RZ:=RW.fr O.fr;have zz:w.heap.size<W.heap.size:=aI (iW RW.2.choose_spec);have d1:Z.cell? (Ad w.heap.size 1)=some (.string (aP nd.path)):=(CW.de (kZ _ zz af)).1 1 _ rfl;have FZ:=ag ((Fr.below (T:=T3) bW).trans O.fr);have hkz:=ag (bM hk {nd with value:=V});clear Oj bZ kZ O RW CW KB KN;go_wp2_with fail;rw[<-hZ];refine(bc6 PZ (k:=k) {nd with value:=V} hkz 1 hS (ag ⟨hT.by',hT.pl,hT.wpw,hT.TD,hT.OM⟩)).mono ?_;rintro r U⟨PU,hF,v,rfl⟩;have RU0:=RZ.fr hF
 let⟨r0,r1,r2,r3,r4,r5,r6,r7,rf⟩:=RU0.cells
 replace PU:=ag PU;have FU:=ag (FZ.trans hF);have RU:=ag RU0;clear RU0 hF RZ d1 hZ;go_wp2;exact vG PU FU RU OE bg rfl rfl rfl
def bB5(w:World)(b bs bn:Nat)(D:SD)(SB NB HB UB:List Nat)(h:Hid (PS w0 w b bs bn D SB NB HB UB))(k:Nat)(nd:aD)(hk:Hid (D.ns[k]?=some nd))(rz:nd.path.length<=1048576)(KM:Hid (nd.watchers.Pairwise (·<·)))(Tl:Hid (nd.watchers.length<=1048576))(id:Int)(hid:0<=id/\id<2^64):Calls prog 344 #[.agg #[.U id,.string (aP nd.path)],.pointer (some (Ad b 0))] w (sA w0 w b bs bn {D with ns:=D.ns.set k {nd with watchers:=wG nd.watchers id}} SB NB HB UB rH):=by
 obtain⟨g,hh,uu,V0,hg,nH,nM,gl,-,ul,g0,hW⟩:=h.Qe hk rz
 let⟨X,Y,hX,hY,bY,zX,zY,CY,RY⟩:=Fk w #[.U id,.string (aP nd.path)] 311
 have HW:=ag hW;clear hW;have cW:=keyOf_int_mk underlying27 (ni hid)
 go_in
 go_wp2_with fail;rw[<-hX,<-hY];refine dN 15 bg (λW eW=>?_);have bW:Bw w W:=eW▸bY.drew
 let⟨k5,kl,kN,kb⟩:=ae HW W bW
 have c0:W.cell? (Ad w.heap.size 0)=some (.U id):=eW▸CY.1 0 _ rfl;have c1:W.cell? (Ad w.heap.size 1)=some (.string (aP nd.path)):=eW▸CY.1 1 _ rfl;have RW:=RY.below (w':=W) (eW▸aA.drew);have OE:=h.be.size;have PW:=ag (h.below bW);have g6:=ao kb 6
 let⟨M,n,o,hn,hs,hz⟩:=kN.TF
 have o':=dY o;rw[hz]at o'
 let⟨Z,dK,ho,Cj⟩:=o'.update jI underlying141 (by have:=ae Tl;unfold maxLen;omega) (val:=.agg #[]) cW unitElem_mk
 have O:=One.ZJ PW.be Cj kN.lo.2.2 (ownsMap_at o');have SZ:=SM.put (w:=W) hs o'.isMap KM (aI (ae Tl)) ho;have PZ:=ag (PW.TF hk hg nH nM O SZ);have Zw:=RW.fr O.fr
 let⟨r0,r1,r2,r3,r4,r5,r6,r7,rf⟩:=Zw.cells
 have FZ:=ag ((Fr.below (T:=T3) bW).trans O.fr);have RZ:=ag Zw;clear hX hY eW kb CY RY kN O SZ ho Cj o o' hs hz Zw RW;simp only[xT,rj,vW,sU]
 repeat still_step
 refine iy ?_;go_wp2;exact vG PZ FZ RZ OE bg rfl rfl rfl
def XV{SB NB HB UB:List Nat}(h:Hid (PS w0 w b bs bn D SB NB HB UB))(hk:Hid (D.ns[k]?=some nd))(rz:nd.path.length<=1048576){id:Int}(hid:0<=id/\id<2^64)(eC:Hid ((if nd.holders.contains id=true then 0 else 10)=C)):Calls prog 342 #[.agg #[.U id,.string (aP nd.path)],.pointer (some (Ad b 0))] w (Rb (Ic C) w):=by
 obtain⟨g,hh,uu,V0,hg,nH,nM,gl,-,ul,g0,hW⟩:=h.Qe hk rz;obtain⟨X,hX,bX,zX,CX,-⟩:=au w #[.U id,.string (aP nd.path)] 307;have HW:=ag hW;clear hW
 go_in
 go_wp2_with fail;rw[<-hX];refine dN 11 bg (λW eW=>?_);have bW:Bw w W:=eW▸bX.drew
 let⟨k5,kl,kN,kb⟩:=ae HW W bW
 have c0:W.cell? (Ad w.heap.size 0)=some (.U id):=eW▸CX.1 0 _ rfl;have c1:W.cell? (Ad w.heap.size 1)=some (.string (aP nd.path)):=eW▸CX.1 1 _ rfl;have KN:=ag kN;clear hX eW kb CX kN;simp only[xT,rj,vW,sU]
 repeat still_step
 refine iy ?_
 let⟨B,eB⟩:=bG (nd.holders.contains id)
 go_wp2_with fail;refine(lg KN hid eB).mono ?_;rintro r w1⟨rfl,aG⟩;have qW:=ag (aj bW aG);have e:=ae eC;rw[ae eB]at e;clear aG c0 c1 k5 kl;cases B;{
 have e':C=10:=by rw[<-e];rfl
 subst e';go_wp2;go_ret;exact⟨rfl,qW⟩};{
 have e':C=0:=by rw[<-e];rfl
 subst e';go_wp2;go_ret;exact⟨rfl,qW⟩}
def aP7(D:SD)(nd:aD)(id:Int):Int:=if jH D.ns nd.path≠[]then 8 else if mV nd id=false then 9 else 0
def Zf{SB NB HB UB:List Nat}(h:Hid (PS w0 w b bs bn D SB NB HB UB))(KM:Hid ((D.ns.map λnd=>rD nd.path).Pairwise (·<·)))(gh:Hid (∀nd∈D.ns,aN nd.path/\nd.path.length<=1048576))(hk:Hid (D.ns[k]?=some nd)){id:Int}(hid:0<=id/\id<2^64)(eC:Hid (aP7 D nd id=C)):Calls prog 334 #[.agg #[.U id,.string (aP nd.path)],.pointer (some (Ad b 0))] w (Rb (Ic C) w):=by
 let⟨aN0,rz⟩:=ae gh nd (aT (ae hk))
 obtain⟨g,hh,uu,V0,hg,nH,nM,gl,-,ul,g0,hW⟩:=h.Qe hk rz;obtain⟨X,hX,bX,zX,CX,-⟩:=au w #[.U id,.string (aP nd.path)] 300;have HW:=ag hW;have HBY:=ag aN0;have e:=ae eC;unfold aP7 at e;rw[YD]at e
 let⟨L,eL⟩:=bG (ya D.ns nd.path)
 rw[ae eL]at e
 let⟨m,em⟩:=aL L.length
 have E:=ag e;have EM:=ag em
 go_in
 go_wp2_with fail;rw[<-hX];refine(NJ (ag (h.below bX)) KM gh HBY eL).mono ?_;rintro r w1⟨p,c,rfl,-,aG⟩;rw[ae EM];have CW:=CX.de (w':=w1) (aG.block _ af);have B1:=ag (aj bX aG);by_cases h0:m=0;{
 subst h0;have hL:L=[]:=r8.1 EM;have e2:(if mV nd id=false then 9 else 0)=C:=by have:=ae E;rw[hL]at this;simpa using this
 have E2:=ag e2;go_wp2_with fail;refine dN 11 bg (λW eW=>?_);have bW:Bw w W:=eW▸B1.drew
 let⟨k5,kl,kN,kb⟩:=ae HW W bW
 have c0:W.cell? (Ad w.heap.size 0)=some (.U id):=eW▸CW.1 0 _ rfl;have c1:W.cell? (Ad w.heap.size 1)=some (.string (aP nd.path)):=eW▸CW.1 1 _ rfl;have KN:=ag kN;clear eW kb CW kN;simp only[xT,rj,vW,sU]
 repeat still_step
 refine iy ?_
 let⟨B,eB⟩:=bG (mV nd id)
 go_wp2_with fail;refine(YT KN hid eB).mono ?_;rintro r w5⟨rfl,fT⟩;have xG:=ag (aj bW fT);have e:=ae E2;rw[ae eB]at e;cases B;{
 have e':C=9:=by rw[<-e];rfl
 subst e';go_wp2;go_ret;exact⟨rfl,xG⟩};{
 have e':C=0:=by rw[<-e];rfl
 subst e';go_wp2;go_ret;exact⟨rfl,xG⟩}};{
 have h0':=mW 0 m;have e':C=8:=by have:=ae E;rw[bO (λe=>h0 (by rw[<-ae EM];simpa using e))]at this;exact this.symm
 subst e';go_wp2;go_ret;exact⟨rfl,B1⟩}
def ae4(nd:aD)(id:Int):Int:=if nd.mode=1/\nd.holders.contains id=false then 9 else 0
def bd7{SB NB HB UB:List Nat}(h:Hid (PS w0 w b bs bn D SB NB HB UB))(hk:Hid (D.ns[k]?=some nd))(rz:nd.path.length<=1048576){id:Int}(hid:0<=id/\id<2^64){V:Value}(eC:Hid (ae4 nd id=C)):Calls prog 338 #[.agg #[.U id,.string (aP nd.path),.S pv nv cv],.pointer (some (Ad b 0))] w (Rb (Ic C) w):=by
 obtain⟨g,hh,uu,V0,hg,nH,nM,gl,-,ul,g0,hW⟩:=h.Qe hk rz;obtain⟨X,hX,bX,zX,CX,-⟩:=au w #[.U id,.string (aP nd.path),.S pv nv cv] 304;have HW:=ag hW
 go_in
 go_wp2_with fail;rw[<-hX];refine jW bg (λW eW=>?_);have bW:Bw w W:=eW▸bX.drew
 let⟨k5,kl,kN,kb⟩:=ae HW W bW
 have c0:W.cell? (Ad w.heap.size 0)=some (.U id):=eW▸CX.1 0 _ rfl;have c1:W.cell? (Ad w.heap.size 1)=some (.string (aP nd.path)):=eW▸CX.1 1 _ rfl;have KN:=ag kN;have g2:=ao kb 2;clear hX eW kb CX kN
 repeat still_step
 refine iy ?_;have e:=ae eC;unfold ae4 at e;by_cases hm:nd.mode=1;{
 have hm':(nd.mode==1)=true:=by simp[hm]
 let⟨B,eB⟩:=bG (nd.holders.contains id)
 rw[ae eB]at e;have E:=ag (by simpa[hm]using e:(if B=false then 9 else 0)=C);go_wp2_with fail;refine(lg KN hid eB).mono ?_;rintro r w5⟨rfl,fT⟩;have xG:=ag (aj bW fT);have e:=ae E;cases B;{
 have e':C=9:=by rw[<-e];rfl
 subst e';go_wp2;go_ret;exact⟨rfl,xG⟩};{
 have e':C=0:=by rw[<-e];rfl
 subst e';go_wp2;go_ret;exact⟨rfl,xG⟩}};{
 have hm':(nd.mode==1)=false:=by simp[hm]
 have e':C=0:=by rw[<-e];simp[hm]
 subst e';go_wp2;go_ret;exact⟨rfl,bW⟩}
def nL(D:SD)(nd:aD)(id F:Int):Int:=if nd.holders.contains id then 9 else if F=2 then(if nd.mode=1 then 9 else 0)else if nd.mode≠0 then 9 else if 4611686018427387904<=D.g then 12 else 0
def aJ6{SB NB HB UB:List Nat}(h:Hid (PS w0 w b bs bn D SB NB HB UB))(hk:Hid (D.ns[k]?=some nd))(rz:nd.path.length<=1048576){id:Int}(hid:0<=id/\id<2^64){F:Int}(hF:F=1\/F=2)(eC:Hid (nL D nd id F=C)):Calls prog 340 #[.agg #[.U id,.string (aP nd.path),.I F],.pointer (some (Ad b 0))] w (Rb (Ic C) w):=by
 obtain⟨g,hh,uu,V0,hg,nH,nM,gl,-,ul,g0,hW⟩:=h.Qe hk rz;obtain⟨X,hX,bX,zX,CX,-⟩:=au w #[.U id,.string (aP nd.path),.I F] 306;have HW:=ag hW;have HF:=ag hF
 go_in
 go_wp2_with fail;rw[<-hX];refine jW bg (λW eW=>?_);have bW:Bw w W:=eW▸bX.drew
 let⟨k5,kl,kN,kb⟩:=ae HW W bW
 obtain⟨-,kg,-⟩:=(h.below bW).fq;have c0:W.cell? (Ad w.heap.size 0)=some (.U id):=eW▸CX.1 0 _ rfl;have c1:W.cell? (Ad w.heap.size 1)=some (.string (aP nd.path)):=eW▸CX.1 1 _ rfl;have c2:W.cell? (Ad w.heap.size 2)=some (.I F):=eW▸CX.1 2 _ rfl;have KN:=ag kN;have g2:=ao kb 2;clear hX eW kb CX kN
 repeat still_step
 refine iy ?_;rcases ae HF with e1|e1;{
 subst e1;by_cases hm:nd.mode=0;{
 have HM:=ag hm;have m1:(nd.mode==1)=false:=by simp[hm]
 have m0:(nd.mode != 0)=false:=by simp[hm]
 let⟨B,eB⟩:=bG (nd.holders.contains id)
 go_wp2_with fail;refine(lg KN hid eB).mono ?_;rintro r w5⟨rfl,fT⟩;have d2:=ah c2 fT;have d1:=ah kg fT;have xG:=ag (aj bW fT);have e:=ae eC;unfold nL at e;rw[ae eB]at e;cases B;{
 by_cases hx:4611686018427387904<=D.g;{
 have YI:decide (4611686018427387904<=D.g)=true:=by simpa using hx
 have e':C=12:=by rw[<-e];simp[ae HM,hx]
 subst e';go_wp2;go_ret;exact⟨rfl,xG⟩};{
 have YI:decide (4611686018427387904<=D.g)=false:=by simpa using hx
 have e':C=0:=by rw[<-e];simp[ae HM,hx]
 subst e';go_wp2;go_ret;exact⟨rfl,xG⟩}};{
 have e':C=9:=by rw[<-e];simp
 subst e';go_wp2;go_ret;exact⟨rfl,xG⟩}};{
 have HM:=ag hm;by_cases EW:nd.mode=1;{
 have m1:(nd.mode==1)=true:=by simp[EW]
 let⟨B,eB⟩:=bG (nd.holders.contains id)
 go_wp2_with fail;refine(lg KN hid eB).mono ?_;rintro r w5⟨rfl,fT⟩;have d2:=ah c2 fT;have d1:=ah kg fT;have xG:=ag (aj bW fT);have e:=ae eC;unfold nL at e;rw[ae eB]at e;cases B;{
 have e':C=9:=by rw[<-e];simp[ae HM]
 subst e';go_wp2;go_ret;exact⟨rfl,xG⟩};{
 have e':C=9:=by rw[<-e];simp
 subst e';go_wp2;go_ret;exact⟨rfl,xG⟩}};{
 have m1:(nd.mode==1)=false:=by simp[EW]
 have m0:(nd.mode != 0)=true:=by simp[hm]
 let⟨B,eB⟩:=bG (nd.holders.contains id)
 go_wp2_with fail;refine(lg KN hid eB).mono ?_;rintro r w5⟨rfl,fT⟩;have d2:=ah c2 fT;have d1:=ah kg fT;have xG:=ag (aj bW fT);have e:=ae eC;unfold nL at e;rw[ae eB]at e;cases B;{
 have e':C=9:=by rw[<-e];simp[ae HM]
 subst e';go_wp2;go_ret;exact⟨rfl,xG⟩};{
 have e':C=9:=by rw[<-e];simp
 subst e';go_wp2;go_ret;exact⟨rfl,xG⟩}}}};{
 subst e1;by_cases hm:nd.mode=1;{
 have HM:=ag hm;have m1:(nd.mode==1)=true:=by simp[hm]
 let⟨B,eB⟩:=bG (nd.holders.contains id)
 go_wp2_with fail;refine(lg KN hid eB).mono ?_;rintro r w5⟨rfl,fT⟩;have d2:=ah c2 fT;have d1:=ah kg fT;have xG:=ag (aj bW fT);have e:=ae eC;unfold nL at e;rw[ae eB]at e;cases B;{
 have e':C=9:=by rw[<-e];simp[ae HM]
 subst e';go_wp2;go_ret;exact⟨rfl,xG⟩};{
 have e':C=9:=by rw[<-e];simp
 subst e';go_wp2;go_ret;exact⟨rfl,xG⟩}};{
 have HM:=ag hm;have m1:(nd.mode==1)=false:=by simp[hm]
 let⟨B,eB⟩:=bG (nd.holders.contains id)
 go_wp2_with fail;refine(lg KN hid eB).mono ?_;rintro r w5⟨rfl,fT⟩;have d2:=ah c2 fT;have d1:=ah kg fT;have xG:=ag (aj bW fT);have e:=ae eC;unfold nL at e;rw[ae eB]at e;cases B;{
 have e':C=0:=by rw[<-e];simp[ae HM]
 subst e';go_wp2;go_ret;exact⟨rfl,xG⟩};{
 have e':C=9:=by rw[<-e];simp
 subst e';go_wp2;go_ret;exact⟨rfl,xG⟩}}}
def vh(w:World)(cs:Array Value)(ty:TypeId):∃X Y,X=w.alloc (.cells cs ty)/\Y=X.alloc (.cells #[.I 0,.U 0,.U 0,.U 0,.I 0,aq,aq,aq] 127)/\Bw w Y/\X.heap.size=w.heap.size+1/\Y.heap.size=w.heap.size+2/\Y.heap[w.heap.size]?=some (.cells cs ty)/\RX Y (w.heap.size+1) [.I 0,.U 0,.U 0,.U 0,.I 0,aq,aq,aq]:=by
 obtain⟨X,hX,bX,zX,-,gX⟩:=au w cs ty
 let⟨Y,hY,bY,zY,RY⟩:=rE X (.I 0) (.U 0) (.U 0) (.U 0) (.I 0) aq aq aq
 rw[zX]at RY;exact⟨X,Y,hX,hY,aj bX bY,zX,af,(bY.block _ af).trans gX,RY⟩
def am6{SB NB HB UB:List Nat}(h:Hid (PS w0 w b bs bn D SB NB HB UB))(hk:Hid (D.ns[k]?=some nd))(rz:nd.path.length<=1048576)(KM:Hid (nd.holders.Pairwise (·<·)))(Tl:Hid (nd.holders.length<=1048576)){id:Int}(hid:0<=id/\id<2^64)(he:Hid (nd.aE=0/\nd.gen=0)):Calls prog 339 #[.agg #[.U id,.string (aP nd.path),.I 2],.pointer (some (Ad b 0))] w (sA w0 w b bs bn {D with ns:=D.ns.set k {nd with mode:=2,holders:=wG nd.holders id}} SB NB HB UB rH):=by
 obtain⟨g,hh,uu,V0,hg,nH,nM,gl,-,-,g0,hW⟩:=h.Qe hk rz
 let⟨X,Y,hX,hY,bY,zX,zY,BX,RY⟩:=vh w #[.U id,.string (aP nd.path),.I 2] 306
 have HW:=ag hW;have BXH:=ag BX;have RYH:=ag RY;have IX:=ag (ai hg (ai nH nM));have OE:=h.be.size;have cW:=keyOf_int_mk underlying27 (ni hid)
 go_in
 go_wp2_with fail;rw[<-hX,<-hY];refine jW bg (λW eW=>?_);have NS:=mX eW
 let⟨k5,kl,kN,kb⟩:=ae HW W (aj bY NS)
 have FW:=ag (Fr.below (T:=T3) NS);have bx:=FW.2 _ _ _ _ bj BXH;have c1:=ao bx 1;have c2:=ao bx 2;have g2:=ao kb 2;have gf:∀o,W.frozen? (Ad g o)=false:=λo=>by simp[World.frozen?,kb]
 have PW:=ag (h.below (aj bY NS));obtain⟨V',hV',bN,-⟩:=kN.cells;rw[kb]at bN;cases bN;have HV:=ag hV';have KB:=ag kb;clear hX hY eW kb kN bx hV' NS
 repeat still_step
 refine iy ?_
 let⟨Z,hZ⟩:=aB (W.setCell (Ad g 2) (.I 2))
 have Oj:Z.heap[g]?=some (.cells #[V0,.U nd.owner,.I 2,.map (some hh),.U nd.aE,.U nd.gen,.map (some uu)] 162):=by rw[hZ];simp[World.setCell,BS,ae KB]
 have bZ:Below g W Z:=by rw[hZ];exact aA.setCell (p:=(Ad g 2)) ay _
 have kZ:∀z,z<W.heap.size->z≠g->Z.heap[z]?=W.heap[z]?:=λz _ bS=>by rw[hZ];exact ga _ _ _ _ (show z≠_ from bS)
 have O:=One.ofC PW.be bZ (ae KB) g0 al kZ;have PZ:=ag (PW.ah6 hk IX.1 IX.2.1 IX.2.2 O V0 nd.value nd.owner 2 nd.aE nd.gen Oj (HV.fr O.fr));have FZ:=ag (FW.trans O.fr);clear bZ kZ O Oj;go_wp2_with fail;rw[<-hZ];clear hZ c1 c2 g2 gf k5 kl KB HV PW FW;refine dN 8 bg (λW1 eW1=>?_);have bZW:=mX eW1;have PW1:=ag (PZ.below bZW);have FW1:=ag (FZ.trans (Fr.below (T:=T3) bZW));have bx:=FW1.2 _ _ _ _ bj BXH;have c0:=ao bx 0;have mT:=bM hk {nd with mode:=2}
 have kN:=PW1.nw k _ g hh uu mT IX.1 IX.2.1 IX.2.2;obtain⟨V1,-,-,-,-,-,n3,-⟩:=kN.cells
 let⟨M,n,o,hn,hs,hz⟩:=kN.Xp
 have o':=dY o;rw[hz]at o'
 let⟨Y2,dK,ho,Cj⟩:=o'.update jI underlying141 (by have:=ae Tl;show nd.holders.length<_;unfold maxLen;omega) (val:=.agg #[]) cW unitElem_mk
 have O2:=One.ZJ PW1.be Cj kN.lo.2.1 (ownsMap_at o');have SZ:=SM.put (w:=W1) hs o'.isMap KM (by have:=ae Tl;show nd.holders.length+1<=_;omega) ho;have XO:=PW1.Xp mT IX.1 IX.2.1 IX.2.2 O2 SZ;simp only[qR]at XO;replace XO:=ag XO;have FY2:=ag (FW1.trans O2.fr);have uW:=ag (bM hk {nd with mode:=2,holders:=wG nd.holders id});have bx2:=FY2.2 _ _ _ _ bj BXH;have e2:=ao bx2 2;clear eW1 kN O2 SZ ho Cj o o' hs hz bx bx2 mT bZW;simp only[xT,rj,vW,sU]
 repeat still_step
 refine iy ?_;go_wp2_with fail;clear dK c0 n3 e2;refine dN 9 bg (λW2 eW2=>?_);have bY2:=mX eW2;have PW2:=ag (XO.below bY2);have FW2:=FY2.trans (Fr.below (T:=T3) bY2);have RW2:=RYH.fr FW2;have kN:=PW2.nw k _ g hh uu uW IX.1 IX.2.1 IX.2.2;obtain⟨V1,-,-,-,-,-,-,n4,n5,-⟩:=kN.cells;simp only[he.1,he.2]at n4 n5
 let⟨r0,r1,r2,r3,r4,r5,r6,r7,rf⟩:=RW2.cells
 have FZ2:=ag ((Fr.below (T:=T3) bY).trans FW2);have RZ2:=ag RW2;clear eW2 kN FW2 RW2 bY2;simp only[xT,rj,vW,sU]
 repeat still_step
 refine iy ?_;go_wp2;exact vG PW2 FZ2 RZ2 OE bg rfl rfl rfl
def am7{SB NB HB UB:List Nat}(h:Hid (PS w0 w b bs bn D SB NB HB UB))(hk:Hid (D.ns[k]?=some nd))(rz:nd.path.length<=1048576)(KM:Hid (nd.holders.Pairwise (·<·)))(Tl:Hid (nd.holders.length<=1048576)){id:Int}(hid:0<=id/\id<2^64)(hgg:0<=D.g/\D.g<2^62):Calls prog 339 #[.agg #[.U id,.string (aP nd.path),.I 1],.pointer (some (Ad b 0))] w (sA w0 w b bs bn {D with g:=D.g+1,ns:=D.ns.set k {nd with mode:=1,holders:=wG nd.holders id,aE:=D.e,gen:=D.g+1}} SB NB HB UB {rH with e:=D.e,g:=D.g+1}):=by
 obtain⟨g,hh,uu,V0,hg,nH,nM,gl,-,-,g0,hW⟩:=h.Qe hk rz
 let⟨X,Y,hX,hY,bY,zX,zY,BX,RY⟩:=vh w #[.U id,.string (aP nd.path),.I 1] 306
 have HW:=ag hW;have BXH:=ag BX;have RYH:=ag RY;have IX:=ag (ai hg (ai nH nM));have OE:=h.be.size;clear hW BX RY hg nH nM;have cW:=keyOf_int_mk underlying27 (ni hid)
 go_in
 go_wp2_with fail;rw[<-hX,<-hY];refine jW bg (λW eW=>?_);have NS:=mX eW
 let⟨k5,kl,kN,kb⟩:=ae HW W (aj bY NS)
 have FW:=ag (Fr.below (T:=T3) NS);have bx:=FW.2 _ _ _ _ bj BXH;have c1:=ao bx 1;have c2:=ao bx 2;have g2:=ao kb 2;have gf:∀o,W.frozen? (Ad g o)=false:=λo=>by simp[World.frozen?,kb]
 have PW:=ag (h.below (aj bY NS));obtain⟨V',hV',bN,-⟩:=kN.cells;rw[kb]at bN;cases bN;have HV:=ag hV';have KB:=ag kb;clear hX hY eW kb kN bx hV' NS
 repeat still_step
 refine iy ?_
 let⟨Z,hZ⟩:=aB (W.setCell (Ad g 2) (.I 1))
 have Oj:Z.heap[g]?=some (.cells #[V0,.U nd.owner,.I 1,.map (some hh),.U nd.aE,.U nd.gen,.map (some uu)] 162):=by rw[hZ];simp[World.setCell,BS,ae KB]
 have bZ:Below g W Z:=by rw[hZ];exact aA.setCell (p:=(Ad g 2)) ay _
 have kZ:∀z,z<W.heap.size->z≠g->Z.heap[z]?=W.heap[z]?:=λz _ bS=>by rw[hZ];exact ga _ _ _ _ (show z≠_ from bS)
 have O:=One.ofC PW.be bZ (ae KB) g0 al kZ;have PZ:=ag (PW.ah6 hk IX.1 IX.2.1 IX.2.2 O V0 nd.value nd.owner 1 nd.aE nd.gen Oj (HV.fr O.fr));have FZ:=ag (FW.trans O.fr);clear bZ kZ O Oj;go_wp2_with fail;rw[<-hZ];clear hZ c1 c2 g2 gf k5 kl KB HV PW FW;refine dN 8 bg (λW1 eW1=>?_);have bZW:=mX eW1;have PW1:=ag (PZ.below bZW);have FW1:=ag (FZ.trans (Fr.below (T:=T3) bZW));have bx:=FW1.2 _ _ _ _ bj BXH;have c0:=ao bx 0;have mT:=bM hk {nd with mode:=1}
 have kN:=PW1.nw k _ g hh uu mT IX.1 IX.2.1 IX.2.2;obtain⟨V1,-,-,-,-,-,n3,-⟩:=kN.cells
 let⟨M,n,o,hn,hs,hz⟩:=kN.Xp
 have o':=dY o;rw[hz]at o'
 let⟨Y2,dK,ho,Cj⟩:=o'.update jI underlying141 (by have:=ae Tl;show nd.holders.length<_;unfold maxLen;omega) (val:=.agg #[]) cW unitElem_mk
 have O2:=One.ZJ PW1.be Cj kN.lo.2.1 (ownsMap_at o');have SZ:=SM.put (w:=W1) hs o'.isMap KM (by have:=ae Tl;show nd.holders.length+1<=_;omega) ho;have XO:=PW1.Xp mT IX.1 IX.2.1 IX.2.2 O2 SZ;simp only[qR]at XO;replace XO:=ag XO;have FY2:=ag (FW1.trans O2.fr);have uW:=ag (bM hk {nd with mode:=1,holders:=wG nd.holders id});have bx2:=FY2.2 _ _ _ _ bj BXH;have e2:=ao bx2 2;clear eW1 kN O2 SZ ho Cj o o' hs hz bx bx2 mT bZW;simp only[xT,rj,vW,sU]
 repeat still_step
 refine iy ?_
 let⟨q0,q1,q2,q3,q4,q5,qf⟩:=XO.fq
 let⟨Z3,hZ3⟩:=aB (Y2.setCell (Ad b 1) (.U (D.g+1)))
 have Oj:Z3.heap[b]?=some (.cells #[.U D.e,.U (D.g+1),.U D.x,.I D.t,.map (some bs),.map (some bn)] 157):=by rw[hZ3];simp[World.setCell,BS,XO.hd]
 have O3:=One.ofC XO.be (by rw[hZ3];exact aA.setCell (p:=(Ad b 1)) ay _:Below b Y2 Z3) XO.hd XO.lo.1 al (λz _ bS=>by rw[hZ3];exact ga _ _ _ _ (show z≠_ from bS));have P3:=ag (XO.ac6 O3 D.e (D.g+1) D.x D.t Oj);have F3:=ag (FY2.trans O3.fr);clear Oj O3;go_wp2_with fail;rw[<-hZ3];clear hZ3 dK c0 n3 e2 q0 q1 q2 q3 q4 q5 qf
 let⟨vA,je⟩:=aB Z3.drew
 have bA:=mX je;have PA:=ag (P3.below bA);have FA:=ag (F3.trans (Fr.below (T:=T3) bA));obtain⟨q0,q1,-⟩:=PA.fq;have kN:=PA.nw k _ g hh uu uW IX.1 IX.2.1 IX.2.2;obtain⟨V1,hV1,kb1,-,-,-,-,n4,n5,-,nf⟩:=kN.cells;have hbg:b≠g:=λe=>by have:=PA.hd;rw[e,kb1]at this;simp at this
 have HKB:=ag (ai hV1 kb1);clear bA kN hV1 kb1;refine du (λw'=>w'.cell? (Ad b 0)=some (.U D.e)/\w'.cell? (Ad b 1)=some (.U (D.g+1))) (by rw[<-je];exact⟨q0,q1⟩) λhS=>?_;rw[<-je]at hS⊢;clear je;refine mj 0 1 2 3 4 5 6 7 hS ?_;refine lG 8 9 10 11 hS ?_;refine ry [12] ?_;refine cn (λKK hK=>?_) ?_;rotate_left;exact eh
 rotate_right
 go_simp
 let⟨Z4,hZ4⟩:=aB (vA.setCell (Ad g 4) (.U D.e))
 have k4:∀z,z≠g->Z4.heap[z]?=vA.heap[z]?:=λz bS=>by rw[hZ4];exact ga _ _ _ _ (show z≠_ from bS)
 have b4:Below g vA Z4:=by rw[hZ4];exact aA.setCell (p:=(Ad g 4)) ay _
 have Xg:Z4.heap[g]?=some (.cells #[V1,.U nd.owner,.I 1,.map (some hh),.U D.e,.U nd.gen,.map (some uu)] 162):=by rw[hZ4];simp[World.setCell,BS,HKB.2]
 rw[<-hZ4];have p0:=(aF (k4 b hbg) 0).trans q0;have p1:=(aF (k4 b hbg) 1).trans q1;refine fh hK (by exact⟨p0,p1⟩) λhS=>?_;clear hK KK n4 n5 nf hZ4 q0 q1;refine jR 13 14 hS ?_;have m5:=ao Xg 5;have mf:∀o,Z4.frozen? (Ad g o)=false:=λo=>by simp[World.frozen?,Xg]
 have H4:=ag (ai Xg (ai k4 b4));clear Xg k4 b4;refine ry [15] ?_;refine cn (λKK hK=>?_) ?_;rotate_left;exact eh
 rotate_right
 go_simp
 let⟨Z5,hZ5⟩:=aB (Z4.setCell (Ad g 5) (.U (D.g+1)))
 have k5:∀z,z≠g->Z5.heap[z]?=Z4.heap[z]?:=λz bS=>by rw[hZ5];exact ga _ _ _ _ (show z≠_ from bS)
 have b5:Below g Z4 Z5:=by rw[hZ5];exact aA.setCell (p:=(Ad g 5)) ay _
 have hz5:Z5.heap[g]?=some (.cells #[V1,.U nd.owner,.I 1,.map (some hh),.U D.e,.U (D.g+1),.map (some uu)] 162):=by rw[hZ5];simp[World.setCell,BS,H4.1]
 rw[<-hZ5];have s0:=(aF (k5 b hbg) 0).trans p0;have s1:=(aF (k5 b hbg) 1).trans p1;have O5:=One.ofC PA.be (H4.2.2.trans b5) HKB.2 g0 al (λz _ bS=>(k5 z bS).trans (H4.2.1 z bS));have P5:=PA.ah6 uW IX.1 IX.2.1 IX.2.2 O5 V1 nd.value nd.owner 1 D.e (D.g+1) hz5 (HKB.1.fr O5.fr);simp only[qR]at P5;have PY3:=ag P5;have FY3:=ag (FA.trans O5.fr);have tZ:=ag (bM hk {nd with mode:=1,holders:=wG nd.holders id,aE:=D.e,gen:=D.g+1});refine fh hK (by exact⟨s0,s1⟩) λhS=>?_;clear hK KK hZ5 k5 b5 hz5 s0 s1 O5 P5 m5 mf p0 p1;refine cY ?_;clear hS;go_wp2_with fail;refine dN 9 bg (λW2 eW2=>?_);have bY2:=mX eW2;have PW2:=ag (PY3.below bY2);have FW2:=FY3.trans (Fr.below (T:=T3) bY2);have RW2:=RYH.fr FW2;have kN:=PW2.nw k _ g hh uu tZ IX.1 IX.2.1 IX.2.2;obtain⟨V2,-,-,-,-,-,-,n4,n5,-⟩:=kN.cells
 let⟨r0,r1,r2,r3,r4,r5,r6,r7,rf⟩:=RW2.cells
 have FZ2:=ag ((Fr.below (T:=T3) bY).trans FW2);have RZ2:=ag RW2;clear eW2 kN FW2 RW2 bY2;simp only[xT,rj,vW,sU]
 repeat still_step
 refine iy ?_;go_wp2;exact vG PW2 FZ2 RZ2 OE bg rfl rfl rfl
def PS.cQ4{SB NB HB UB:List Nat}(h:PS w0 w b bs bn D SB NB HB UB){s:aQ}(hE:PE w0 w gN s)(yj:gN∉SB)(hid:∀s'∈D.ss,s'.1≠s.1)(O:One w0 w w' bs)(hl:D.ss.length<1048576)(hM:∀M,w.ownsMap prog 27 aZ bs D.ss.length M->w'.ownsMap prog 27 aZ bs (D.ss.length+1) (M.put (.U s.1) (.lit (.I gN)))):PS w0 w' b bs bn {D with ss:=D.ss++[s]} (SB++[gN]) NB HB UB:=by
 let⟨d0,d1,d2,d3,d4,d5⟩:=h.hu
 let⟨M,n,o,hn,m,hz⟩:=h.sG
 let⟨es0,c0,m0⟩:=ownsMap_at o
 have nc:∀{y:Nat}{cs:Array Value}{ty:TypeId},w.heap[y]?=some (.cells cs ty)->y≠bs:=λ{y cs ty}hy e=>by rw[e,m0]at hy;cases hy
 have me:∀p∈List.zipWith (λ(s:aQ)g=>(Lit.U s.1,g)) D.ss SB,p.1≠.U s.1:=λp hp e=>by obtain⟨i,s',y,h1,-,rfl⟩:=il hp;exact hid s' (aT h1) (by simpa using e)
 have o':=dY o;rw[hz]at o';refine⟨h.be.trans O.b,O.obj h.hd (nc h.hd),by simp[h.tR],⟨_,_,hM M o',af,?_,?_⟩,λj s1 g1 ik gp=>?_,?_,h.tT,h.hlen,h.uw,?_,λj lr gb h1 u1 ik gp yD sj=>?_,h.nnd,h.lo,h.Ny⟩;{rw[ak4 h.tR.symm];exact m.put o.isMap (k:=.U s.1) km me gN};{
 have hh:Maps.has M (.U s.1)=false:=by
  rw[Ec];intro e
  let⟨p,hp,e2⟩:=(m.hs _).1 e
  exact me p hp e2
 rw[size_put (nW o jI),hh];simp[hz]};{
 have bf:j<D.ss.length\/j=D.ss.length:=by have:=(aV.1 ik).1;simp at this;omega
 rcases bf with bf|rfl;{simp only[kR bf]at ik;rw[kR (h.tR▸bf)]at gp;have q:=h.vT j s1 g1 ik gp;obtain⟨-,u,h1,-⟩:=id q;exact q.keep O (nc h1)};{simp at ik;rw[<-h.tR]at gp;simp at gp;subst ik;subst gp;obtain⟨-,u,h1,-⟩:=id hE;exact hE.keep O (nc h1)}};{rw[BN];refine⟨h.snd,al,λa ha c hc=>?_⟩;simp at hc;subst hc;exactλe=>yj (e▸ha)};{
 let⟨M,n,o,r⟩:=h.lY
 exact⟨M,n,O.map o (λe=>d0 e.symm),r⟩};{have q:=h.nw j lr gb h1 u1 ik gp yD sj;obtain⟨-,⟨V,q1,-⟩,p3,p4⟩:=id q;exact q.keep O (nc q1) (d1 _ (aT yD)).1 (d2 _ (aT sj)).1}
def aI3{SB NB HB UB:List Nat}(h:Hid (PS w0 w b bs bn D SB NB HB UB))(hx:0<=D.x/\D.x<2^62)(ht:0<=D.t/\D.t<=1000000)(yj:Hid (∀s'∈D.ss,s'.1≠D.x+1))(hl:Hid (D.ss.length<1048576)):Calls prog 319 #[.agg #[],.pointer (some (Ad b 0))] w λr w'=>∃gN,sA w0 w b bs bn {D with x:=D.x+1,ss:=D.ss++[(D.x+1,D.t+10,[])]} (SB++[gN]) NB HB UB {rH with i:=D.x+1,n:=D.t+10} r w':=by
 let⟨X,Y,hX,hY,bY,zX,zY,BX,RY⟩:=vh w #[] 292
 have RYH:=ag RY;have OE:=h.be.size;obtain⟨-,-,h2,-,-,-,hf⟩:=h.fq;have bl:b<w.heap.size:=aR h.hd;have k2:=λ(o1 o2:Obj)=>ah h2 (((cQ w.heap.size w).alloc ay o1).alloc al o2);have kf:=λ(o1 o2:Obj)(o:Nat)=>((((cQ w.heap.size w).alloc ay o1).alloc al o2).frozen (p:=(Ad b o)) bl).trans (hf o);clear RY BX h2 hf bl
 go_in
 go_wp2_with fail;rw[<-hX,<-hY];have PY:=ag (h.below bY)
 let⟨Z,hZ⟩:=aB (Y.setCell (Ad b 2) (.U (D.x+1)))
 rw[<-hZ];have Oj:Z.heap[b]?=some (.cells #[.U D.e,.U D.g,.U (D.x+1),.I D.t,.map (some bs),.map (some bn)] 157):=by rw[hZ];simp[World.setCell,BS,PY.hd]
 have O:=One.ofC PY.be (by rw[hZ];exact aA.setCell (p:=(Ad b 2)) ay _:Below b Y Z) PY.hd PY.lo.1 al (λz _ bS=>by rw[hZ];exact ga _ _ _ _ (show z≠_ from bS));have PZ:=ag (PY.ac6 O D.e D.g (D.x+1) D.t Oj);have FZ:=ag O.fr;refine dN 10 bg (λW eW=>?_);have bW:=mX eW;have PW:=ag (PZ.below bW);have FW:=ag (FZ.trans (Fr.below (T:=T3) bW));obtain⟨-,-,q2,q3,-⟩:=PW.fq;clear eW bW PZ FZ;simp only[xT,rj,vW,sU]
 repeat still_step
 refine iy ?_;obtain⟨V,hV,bV,zV,-,gV⟩:=au W #[.U (D.x+1),.I (D.t+10),aq] 132;go_wp2_with fail;rw[<-hV];clear hV q2 q3;have PV:=ag (PW.below bV);have FV:=ag (FW.trans (Fr.below (T:=T3) bV))
 let⟨gN,eN⟩:=aB W.heap.size
 rw[<-eN]at gV⊢;have hnS:gN∉SB:=λe=>by
  let⟨i,hi⟩:=gH.1 e
  obtain⟨s',Ho⟩:∃s',D.ss[i]?=some s':=⟨_,aY (by have:=PW.tR;simp only at this;rw[<-this];exact(aV.1 hi).1)⟩;obtain⟨-,u,hu,-⟩:=PW.vT i s' gN Ho hi;have:=aR hu;omega
 have glo:w0.heap.size<=gN:=aI PW.be.size;have HN:=ag (ai hnS glo);have GV:=ag gV;clear hnS eN PW FW gV;refine dN 9 bg (λW2 eW2=>?_);have bV2:=mX eW2;have PW2:=ag (PV.below bV2);have FW2:=ag (FV.trans (Fr.below (T:=T3) bV2));obtain⟨-,-,-,-,q4,-⟩:=PW2.fq;have gW2:=(bV2.block gN (aR GV)).trans GV;have g0:=ao gW2 0;have cW:=keyOf_int_mk underlying27 (ni (i:=D.x+1) af)
 let⟨M,n,o,hn,m,hz⟩:=PW2.sG
 have o':=dY o;rw[hz]at o'
 let⟨U,dK,ho,Cj⟩:=o'.update jI underlying154 (by have:=ae hl;show D.ss.length<_;unfold maxLen;omega) cW (lX gN)
 have O2:=One.ZJ PW2.be Cj PW2.lo.2.1 (ownsMap_at o');have PU:=ag (PW2.cQ4 (s:=(D.x+1,D.t+10,[])) (gN:=gN) ⟨HN.2,_,gW2,AQ.nil _ _⟩ HN.1 yj O2 hl (λM' o1=>by obtain⟨U',Dw,Xn,-⟩:=o1.update jI underlying154 (by have:=ae hl;show D.ss.length<_;unfold maxLen;omega) cW (lX gN);rw[dK]at Dw;cases Dw;exact Xn))
 have FU:=ag (FW2.trans O2.fr);have bS:gN≠bs:=λe=>by
  let⟨es,c,hm⟩:=ownsMap_at o
  rw[<-e,gW2]at hm;cases hm
 have GU:=ag (O2.obj gW2 bS);clear eW2 bV2 gW2 o o' m hz ho Cj O2 PV FV bS;simp only[xT,rj,vW,sU]
 repeat still_step
 refine iy ?_;go_wp2_with fail;clear dK g0 q4 PW2 FW2;refine dN 9 bg (λW3 eW3=>?_);have bU:=mX eW3;have P3:=ag (PU.below bU);have F3:=FU.trans (Fr.below (T:=T3) bU);have gW3:=(bU.block gN (aR GU)).trans GU;have g0:=ao gW3 0;have g1:=ao gW3 1;have R3:=RYH.fr F3
 let⟨r0,r1,r2,r3,r4,r5,r6,r7,rf⟩:=R3.cells
 have F3':=ag ((Fr.below (T:=T3) bY).trans F3);have R3':=ag R3;clear eW3 bU gW3 R3 F3;simp only[xT,rj,vW,sU]
 repeat still_step
 refine iy ?_;go_wp2;exact yW R3' bg rfl rfl ⟨gN,PS.rep P3 R3' af _ _ _ _ _ _ _ _,F3'.low ((dm).mono af),rfl⟩
variable {l:LI}
def ag7:(eG l).length<=l.length+1:=by
 unfold eG;split;{simp};{rw[pT];omega}
def aK5(hl:P.length<=1048577):keyOf prog 9 (.string (aP P))=some (cL P):=by
 rw[WideMaps.keyOf_string_mk underlying9 (by rw[gQ];unfold maxLen;omega),oW]
def PS.bi9{SB NB HB UB:List Nat}(h:PS w0 w b bs bn D SB NB HB UB){g:Nat}(hi:D.ns[i]?=some nd)(hg:NB[i]?=some g)(hl:nd.path.length<=1048577):(Instr.lookup 155 (.map (some bn)) (.string (aP nd.path)) true).run prog w=.ok (.tuple #[.pointer (some (Ad g 0)),.bool true]) w:=by
 obtain⟨M,n,o,-,m,-⟩:=h.lY
 let⟨v,ps,hr,hv⟩:=o.look_ok ox underlying155 (oO w) (zd:=.nil) (zp:=[]) rfl (aK5 hl)
 have hp:(cL nd.path,g)∈List.zipWith (λ(nd:aD)g=>(cL nd.path,g)) D.ns NB:=aT (i:=i) (by rw[oe,hi,hg]);rw[m.at' _ hp]at hv;obtain rfl:=jY hv;rw[hr,(m.hs _).2 ⟨_,hp,rfl⟩]
def PS.ai0{SB NB HB UB:List Nat}(h:PS w0 w b bs bn D SB NB HB UB)(me:gS D.ns P=none)(hB:aN P)(yG:∀nd∈D.ns,aN nd.path)(hl:P.length<=1048577):(Instr.lookup 155 (.map (some bn)) (.string (aP P)) true).run prog w=.ok (.tuple #[.pointer none,.bool false]) w:=by
 obtain⟨M,n,o,-,m,-⟩:=h.lY
 let⟨v,ps,hr,hv⟩:=o.look_ok ox underlying155 (oO w) (zd:=.nil) (zp:=[]) rfl (aK5 hl)
 have hh:Maps.has M (cL P)=false:=by
  rw[Ec];intro e
  let⟨p,hp,e2⟩:=(m.hs _).1 e
  obtain⟨i,nd,y,hx,hy,rfl⟩:=il hp;exact Kf me nd (aT hx) (mO (yG nd (aT hx)) hB e2)
 rw[Maps.atKey_of_not_has hh]at hv;obtain rfl:=uF hv;rw[hr,hh]
theorem Zq{SB NB HB UB:List Nat}(h:Hid (PS w0 w b bs bn D SB NB HB UB))(hB:Hid (aN l))(yG:Hid (∀nd∈D.ns,aN nd.path))(hl:l.length<=1048577)(eB:Hid (dV D.ns l=B)):Calls prog 158 #[.pointer (some (Ad b 0)),.string (aP l)] w (Rb (.bool B) w):=by
 obtain⟨-,-,-,-,-,DC,-⟩:=h.fq;have mR:((aP l).toList==(aP [47]).toList)=decide (l=[47]):=qU (ae hB) (by intro y hy;simp at hy;omega);rw[show(aP [47]).toList=[47]from fE [47]]at mR;by_cases qF:l=[47];{
 have eT:B=true:=by rw[<-ae eB,dV,bO qF]
 subst eT;have hr:((aP l).toList==[47])=true:=by rw[mR];simp[qF]
 let⟨s,es⟩:=aB (aP l)
 rw[<-es]at hr⊢;clear mR qF es
 go_in
 go_wp2;go_ret;exact⟨rfl,cQ _ _⟩};{
 have hr:((aP l).toList==[47])=false:=by rw[mR];simp[qF]
 have jg:(match gS D.ns l with|some nd=>nd.owner==0|none=>false)=B:=by rw[<-ae eB,dV,bH qF];rfl
 cases hF:gS D.ns l with
 |none=>
  rw[hF]at jg;have eF:B=false:=jg.symm;subst eF;have dK:=h.ai0 hF hB yG hl
  let⟨s,es⟩:=aB (aP l)
  rw[<-es]at hr dK⊢;clear hF jg es
  go_in
  go_wp2;go_ret;exact⟨rfl,cQ _ _⟩
 |some nd=>
  rw[hF]at jg;replace jg:(nd.owner==0)=B:=jg;obtain⟨rfl,i,hi⟩:=vI hF
  let⟨g1,h1,u1,q1,q2,q3,hN⟩:=h.nat hi
  have dK:=h.bi9 hi q1 hl;obtain⟨V,-,-,-,hcO,-⟩:=hN.cells
  let⟨ow,eow⟩:=aL nd.owner
  rw[eow]at hcO jg
  let⟨s,es⟩:=aB (aP nd.path)
  rw[<-es]at hr dK⊢;clear hF hi q1 q2 q3 hN eow es
  go_in
  go_wp2;go_ret;exact⟨by rw[<-jg];rfl,cQ _ _⟩}
def Nz(D:SD)(P:LI):Int:=if(gS D.ns P).isSome then 6 else if dV D.ns (eG P)=false then 7 else if 200<=D.ns.length then 11 else 0
theorem Zh{SB NB HB UB:List Nat}(h:Hid (PS w0 w b bs bn D SB NB HB UB))(hB:Hid (aN P))(enp:Le P np)(rz:np<=1048576)(yG:Hid (∀nd∈D.ns,aN nd.path)){id:Int}(eC:Hid (Nz D P=C)):Calls prog 332 #[.agg #[.U id,.string (aP P),.bool F,.S pv nv cv],.pointer (some (Ad b 0))] w (Rb (Ic C) w):=by
 obtain⟨X,hX,bX,zX,CX,-⟩:=au w #[.U id,.string (aP P),.bool F,.S pv nv cv] 298;have e:=ae eC;unfold Nz at e
 go_in
 go_wp2_with fail;rw[<-hX];refine jW bg (λW eW=>?_);have bW:Bw w W:=eW▸bX.drew;have PW:=ag (h.below bW);obtain⟨-,-,-,-,-,k5,-⟩:=PW.fq;have CW:=CX.de (w':=W) (by rw[eW];rfl);have c1:=CW.1 1 _ rfl;have zW:w.heap.size<W.heap.size:=by rw[eW];show _<X.heap.size;omega
 have HCW:=ag CW;clear hX eW CX CW;cases hF:gS D.ns P with
 |some nd=>
  rw[hF]at e;obtain⟨rfl,i,hi⟩:=vI hF;obtain⟨g1,h1,u1,q1,-,-,hN⟩:=PW.nat hi;have dK:=PW.bi9 hi q1 (by rw[ae enp];omega);have e':C=6:=by rw[<-e];rfl
  subst e'
  repeat still_step
  refine iy ?_;go_wp2;go_ret;exact⟨rfl,bW⟩
 | none=>
  rw[hF]at e;have dK:=PW.ai0 hF (ae hB) (ae yG) (by rw[ae enp];omega);have E:=ag e
  repeat still_step
  refine iy ?_;go_wp2_with fail;refine(sO (l:=P) (n:=np) enp hB rz (w:=W)).mono ?_;rintro r w2⟨rfl,rfl⟩
  let⟨B,eB⟩:=bG (dV D.ns (eG P))
  have cx4:(eG P).length<=1048577:=by have:=ag7 (l:=P);have:=ae enp;omega
  go_wp2_with fail;refine(Zq (w:=w2) (b:=b) (bs:=bs) (bn:=bn) (D:=D) (SB:=SB) (NB:=NB) (HB:=HB) (UB:=UB) PW (l:=eG P) (ag (rW hB)) yG cx4 (B:=B) eB).mono ?_;rintro r w5⟨rfl,fT⟩;have e:=ae E;rw[ae eB]at e;have xG:=ag (aj bW fT);have P5:=ag (PW.below fT);cases B with
  |false=>
   have e':C=7:=by rw[<-e];simp
   subst e';go_wp2;go_ret;exact⟨rfl,xG⟩
  |true=>
   obtain⟨-,-,-,-,-,k5,-⟩:=P5.fq
   let⟨M,n,o,hn,m,hz⟩:=P5.lY
   have hlen:=o.len underlying155 3;rw[hz]at hlen
   let⟨nl,lK⟩:=aL D.ns.length
   rw[lK]at hlen e;by_cases h2:200<=nl;{
 have h2':=dC 200 nl;have e':C=11:=by rw[<-e];simp[h2]
 subst e';go_wp2;go_ret;exact⟨rfl,xG⟩};{
 have h2':¬(200:Int)<=(nl:Int):=af;have e':C=0:=by rw[<-e];simp[h2]
 subst e';go_wp2;go_ret;exact⟨rfl,xG⟩}
def ij{α:Type}(j:Nat)(a:α)(l:List α):List α:=l.take j++a::l.drop j
def l9{α:Type}{a:α}{l:List α}(hj:j<=l.length):(ij j a l).length=l.length+1:=by
 unfold ij;simp;omega
def te{α:Type}(a:α){l:List α}:(ij j a l).Perm (a::l):=by
 unfold ij;refine ak3.trans ?_;rw[Dn]
def vJ{α:Type}{a:α}{l:List α}(hj:j<=l.length)(i:Nat):(ij j a l)[i]?=if i<j then l[i]? else if i=j then some a else l[i-1]?:=by
 unfold ij;by_cases h1:i<j;{rw[bO h1,kR (by rw[pT];omega),GP,bO h1]};{rw[bH h1,nF (by rw[pT];omega),pT,aj9 hj];by_cases h2:i=j;{subst h2;simp};{rw[bH h2];obtain⟨d,rfl⟩:∃d,i=j+d+1:=⟨i-j-1,af⟩;rw[show j+d+1-j=d+1 by omega,BM,MG];simp}}
theorem Xe(nd:aD):∀l:List aD,∃j,j<=l.length/\mQ nd l=ij j nd l
 |[]=>⟨0,al,by simp[mQ,ij]⟩
 |x::r=>by
  rw[mQ];split;{exact⟨0,al,by simp[ij]⟩};{
 let⟨j,hj,e⟩:=Xe nd r
 refine⟨j+1,bq,?_⟩;rw[e];simp[ij]}
def YG{α β γ:Type}(f:α->β->γ){a:α}{c:β}{l:List α}{m:List β}(hl:l.length=m.length)(hj:j<=l.length):List.zipWith f (ij j a l) (ij j c m)=ij j (f a c) (List.zipWith f l m):=by
 unfold ij;rw[ak4 (by simp[hl]),aV5,List.take_zipWith,List.drop_zipWith]
def PS.bW7{SB NB HB UB:List Nat}(h:PS w0 w b bs bn D SB NB HB UB){hN uN:Nat}(hj:j<=D.ns.length)(hPN:PN w0 w gN hN uN nd)(hg:gN∉NB)(yj:∀z∈bs::bn::(HB++UB),z≠hN/\z≠uN)(hNu:hN≠uN)(hid:∀nd'∈D.ns,cL nd'.path≠cL nd.path)(O:One w0 w w' bn)(hl:D.ns.length<1048576)(hM:∀M,w.ownsMap Tryz.prog 9 aZ bn D.ns.length M->w'.ownsMap Tryz.prog 9 aZ bn (D.ns.length+1) (M.put (cL nd.path) (.lit (.I gN)))):PS w0 w' b bs bn {D with ns:=ij j nd D.ns} SB (ij j gN NB) (ij j hN HB) (ij j uN UB):=by
 let⟨d0,d1,d2,d3,d4,d5⟩:=h.hu
 let⟨M,n,o,hn,m,hz⟩:=h.lY
 let⟨es0,c0,m0⟩:=ownsMap_at o
 have nc:∀{y:Nat}{cs:Array Value}{ty:TypeId},w.heap[y]?=some (.cells cs ty)->y≠bn:=λ{y cs ty}hy e=>by rw[e,m0]at hy;cases hy
 have me:∀p∈List.zipWith (λ(nd:aD)g=>(cL nd.path,g)) D.ns NB,p.1≠cL nd.path:=λp hp e=>by obtain⟨i,s',y,h1,-,rfl⟩:=il hp;exact hid s' (aT h1) e
 have o':=dY o;rw[hz]at o';refine⟨h.be.trans O.b,O.obj h.hd (nc h.hd),h.tR,?_,λi s1 g1 ik gp=>?_,h.snd,?_,?_,?_,⟨_,_,hM M o',af,?_,?_⟩,λi lr gb h1 u1 ik gp yD sj=>?_,?_,h.lo,?_⟩;{
 let⟨M,n,o,r⟩:=h.sG
 exact⟨M,n,O.map o d0,r⟩};{have q:=h.vT i s1 g1 ik gp;obtain⟨-,u,h1,-⟩:=id q;exact q.keep O (nc h1)};{rw[l9 (h.tT▸hj),l9 hj,h.tT]};{rw[l9 (h.hlen▸hj),l9 hj,h.hlen]};{rw[l9 (h.uw▸hj),l9 hj,h.uw]};{rw[YG _ h.tT.symm hj];refine(m.put o.isMap (k:=cL nd.path) km me gN).same λp=>?_;rw[(te _).mem_iff];simp[or_comm]};{
 have hh:Maps.has M (cL nd.path)=false:=by
  rw[Ec];intro e
  let⟨p,hp,e2⟩:=(m.hs _).1 e
  exact me p hp e2
 rw[size_put (nW o ox),hh,l9 hj];simp[hz]};{
 simp only[vJ hj]at ik;rw[vJ (h.tT▸hj)]at gp;rw[vJ (h.hlen▸hj)]at yD;rw[vJ (h.uw▸hj)]at sj;have kp:∀{i':Nat},D.ns[i']?=some lr->NB[i']?=some gb->HB[i']?=some h1->UB[i']?=some u1->PN w0 w' gb h1 u1 lr:=λa1 a2 a3 a4=>by have q:=h.nw _ lr gb h1 u1 a1 a2 a3 a4;obtain⟨-,⟨V,q1,-⟩,p3,p4⟩:=id q;exact q.keep O (nc q1) (d1 _ (aT a3)).2 (d2 _ (aT a4)).2
 by_cases e1:i<j;{rw[bO e1]at ik gp yD sj;exact kp ik gp yD sj};{rw[bH e1]at ik gp yD sj;by_cases e2:i=j;{rw[bO e2]at ik gp yD sj;cases ik;cases gp;cases yD;cases sj;obtain⟨-,⟨V,q1,-⟩,p3,p4⟩:=id hPN;exact hPN.keep O (nc q1) (λe=>(yj bn al).1 e.symm) (λe=>(yj bn al).2 e.symm)};{rw[bH e2]at ik gp yD sj;exact kp ik gp yD sj}}};{rw[(te _).nodup_iff,zG];exact⟨hg,h.nnd⟩};{
 have pm:(bs::bn::(ij j hN HB++ij j uN UB)).Perm (hN::uN::(bs::bn::(HB++UB))):=by
  have a1:(ij j hN HB++ij j uN UB).Perm (hN::uN::(HB++UB)):=
   ((te (j:=j) hN (l:=HB)).append (te (j:=j) uN (l:=UB))).trans ((ak3 (a:=uN) (l₁:=HB) (l₂:=UB)).cons hN)
  have a2:=(a1.cons bn).cons bs;have mv:∀(x y:Nat)(l:List Nat),(x::bs::bn::y::l).Perm (x::y::bs::bn::l):=λx y l=>(((List.Perm.swap y bn l).cons bs).trans (List.Perm.swap y bs (bn::l))).cons x;have a3:(bs::bn::hN::uN::(HB++UB)).Perm (hN::bs::bn::uN::(HB++UB)):=((List.Perm.swap hN bn (uN::(HB++UB))).cons bs).trans (List.Perm.swap hN bs _);exact(a2.trans a3).trans (mv hN uN _)
 rw[pm.nodup_iff,zG,zG];refine⟨λe=>?_,λe=>(yj uN e).2 rfl,h.Ny⟩;rcases jv.1 e with e|e;{exact hNu e};{exact(yj hN e).1 rfl}}
def Qh(es:Y.heap.size=s)(v0 v1 v2 v4 v5:Value):∃V,V=((Y.alloc (.map #[] 0)).alloc (.map #[] 0)).alloc (.cells #[v0,v1,v2,.map (some s),v4,v5,.map (some (s+1))] 162)/\Bw Y V/\V.heap.size=s+3/\V.heap[s+2]?=some (.cells #[v0,v1,v2,.map (some s),v4,v5,.map (some (s+1))] 162)/\SM V s []/\SM V (s+1) []:=by
 subst es;have z1:(Y.alloc (.map #[] 0)).heap.size=Y.heap.size+1:=al;have z2:((Y.alloc (.map #[] 0)).alloc (.map #[] 0)).heap.size=Y.heap.size+2:=al;obtain⟨V,hV,bV,zV,-,gV⟩:=au ((Y.alloc (.map #[] 0)).alloc (.map #[] 0)) #[v0,v1,v2,.map (some Y.heap.size),v4,v5,.map (some (Y.heap.size+1))] 162;rw[z2]at gV zV;have o1:=World.ownsMap_made (H:=Unit) Y prog 27 unitElem;have o2:=World.ownsMap_made (H:=Unit) (Y.alloc (.map #[] 0)) prog 27 unitElem;rw[z1]at o2;refine⟨V,hV,?_,zV,gV,?_,?_⟩;{exact aj ((aA.alloc ay _).alloc (by rw[z1];omega) _) bV};{refine⟨.map [],0,?_,af,dL.nil,rfl⟩;rw[hV];exact(o1.alloc _).alloc _};{refine⟨.map [],0,?_,af,dL.nil,rfl⟩;rw[hV];exact o2.alloc _}
def Zi{SB NB HB UB:List Nat}(h:Hid (PS w0 w b bs bn D SB NB HB UB)){id:Int}(hV:Hid (AB w0 w (.S pv nv cv) VL))(rz:Hid (Mg P.length))(me:Hid (∀nd'∈D.ns,cL nd'.path≠cL P))(hl:Hid (D.ns.length<1048576))(hj:Hid (j<=D.ns.length)):Calls prog 331 #[.agg #[.U id,.string (aP P),.bool F,.S pv nv cv],.pointer (some (Ad b 0))] w λr w'=>∃gN hN uN,sA w0 w b bs bn {D with ns:=ij j (mH P VL (if F then id else 0)) D.ns} SB (ij j gN NB) (ij j hN HB) (ij j uN UB) rH r w':=by
 let⟨X,Y,hX,hY,bY,zX,zY,BX,RY⟩:=vh w #[.U id,.string (aP P),.bool F,.S pv nv cv] 298
 have hmm:=@WK prog;have RYH:=ag RY;have OE:=h.be.size
 go_in
 cases F;{
 let⟨V,eV,bV,zV,gV,s1,s2⟩:=Qh zY (.S pv nv cv) (.U 0) (.I 0) (.U 0) (.U 0)
 have HV:=ag (ai bV (ai zV (ai gV (ai s1 s2))));have BXH:=ag BX;go_wp2_with fail;rw[<-hX,<-hY,<-eV];refine dN 8 bg (λW eW=>?_)
 let⟨bV,zV,gV,s1,s2⟩:=ae HV
 have bVW:=mX eW;have NS:Bw Y W:=aj bV bVW;have bW:Bw w W:=aj bY NS;have PW:=ag (h.below bW);have c1:=ao ((NS.block w.heap.size af).trans BXH) 1;obtain⟨-,-,-,-,-,k5,-⟩:=PW.fq;have cW:=aK5 (P:=P) (aI (ae rz));have gW:=(bVW.block (w.heap.size+1+1+2) af).trans gV;have PNW:PN w0 W (w.heap.size+1+1+2) (w.heap.size+1+1) (w.heap.size+1+1+1) (mH P VL 0):=⟨⟨af,af,af⟩,⟨_,gW,hV.fr (aO bW) al⟩,s1.kept (bVW.block _ af),s2.kept (bVW.block _ af)⟩
 let⟨M,n,o,hn,m,hz⟩:=PW.lY
 have o':=dY o;rw[hz]at o'
 let⟨U,dK,ho,Cj⟩:=o'.update ox underlying155 (by have:=ae hl;unfold maxLen;omega) cW (lX (w.heap.size+1+1+1+1))
 have O2:=One.ZJ PW.be Cj PW.lo.2.2 (ownsMap_at o');have hgN:w.heap.size+1+1+2∉NB:=λe=>by
  let⟨i,hi⟩:=gH.1 e
  let⟨nd',bu⟩:=h.bE5 hi
  let⟨g',hh',uu',a1,a2,a3,Nh⟩:=h.nat bu
  rw[hi]at a1;cases a1;obtain⟨V',bN,-⟩:=Nh.blk;have:=aR bN;omega
 have hold:∀z∈bs::bn::(HB++UB),z<w.heap.size:=λz hz=>by
  have nb:∀i nd',D.ns[i]?=some nd'->∃hh uu,HB[i]?=some hh/\UB[i]?=some uu/\hh<w.heap.size/\uu<w.heap.size:=λi nd' bu=>by
   let⟨g',hh',uu',a1,a2,a3,Nh⟩:=h.nat bu
   let⟨es,c,m3⟩:=Nh.Xp.at
   let⟨es',c',m4⟩:=Nh.TF.at
   exact⟨_,_,a2,a3,aR m3,aR m4⟩
  simp only[jv,gu]at hz;rcases hz with rfl|rfl|hz|hz;{obtain⟨M,n,o,-⟩:=h.sG;exact o.lt};{obtain⟨M,n,o,-⟩:=h.lY;exact o.lt};{
 let⟨i,hi⟩:=gH.1 hz
 let⟨hh,uu,a1,a2,a3,a4⟩:=nb i _ (aY (h.hlen▸(aV.1 hi).1))
 rw[hi]at a1;cases a1;exact a3};{
 let⟨i,hi⟩:=gH.1 hz
 let⟨hh,uu,a1,a2,a3,a4⟩:=nb i _ (aY (h.uw▸(aV.1 hi).1))
 rw[hi]at a2;cases a2;exact a4}
 have PU:=ag (PW.bW7 (j:=j) hj PNW hgN (λz hz=>aI (hold z hz)) af me O2 hl (λM' o1=>by obtain⟨U',Dw,Xn,-⟩:=o1.update ox underlying155 (by have:=ae hl;unfold maxLen;omega) cW (lX (w.heap.size+1+1+1+1));rw[dK]at Dw;cases Dw;exact Xn))
 have FY:=(Fr.below (T:=T3) NS).trans O2.fr;have RU:=RYH.fr FY
 let⟨r0,r1,r2,r3,r4,r5,r6,r7,rf⟩:=RU.cells
 have FU':=ag ((Fr.below (T:=T3) bY).trans FY);have RU':=ag RU;clear eW bV zV gV s1 s2 bVW NS gW PNW o o' m hz ho Cj O2 hgN hold FY RU HV;simp only[xT,rj,vW,sU]
 repeat still_step
 refine iy ?_;go_wp2;exact yW RU' bg rfl rfl ⟨_,_,_,PS.rep PU RU' af _ _ _ _ _ _ _ _,FU'.low ((dm).mono af),rfl⟩};{
 let⟨V,eV,bV,zV,gV,s1,s2⟩:=Qh zY (.S pv nv cv) (.U id) (.I 0) (.U 0) (.U 0)
 have HV:=ag (ai bV (ai zV (ai gV (ai s1 s2))));have BXH:=ag BX;go_wp2_with fail;rw[<-hX,<-hY,<-eV];refine dN 8 bg (λW eW=>?_)
 let⟨bV,zV,gV,s1,s2⟩:=ae HV
 have bVW:=mX eW;have NS:Bw Y W:=aj bV bVW;have bW:Bw w W:=aj bY NS;have PW:=ag (h.below bW);have c1:=ao ((NS.block w.heap.size af).trans BXH) 1;obtain⟨-,-,-,-,-,k5,-⟩:=PW.fq;have cW:=aK5 (P:=P) (aI (ae rz));have gW:=(bVW.block (w.heap.size+1+1+2) af).trans gV;have PNW:PN w0 W (w.heap.size+1+1+2) (w.heap.size+1+1) (w.heap.size+1+1+1) (mH P VL id):=⟨⟨af,af,af⟩,⟨_,gW,hV.fr (aO bW) al⟩,s1.kept (bVW.block _ af),s2.kept (bVW.block _ af)⟩
 let⟨M,n,o,hn,m,hz⟩:=PW.lY
 have o':=dY o;rw[hz]at o'
 let⟨U,dK,ho,Cj⟩:=o'.update ox underlying155 (by have:=ae hl;unfold maxLen;omega) cW (lX (w.heap.size+1+1+1+1))
 have O2:=One.ZJ PW.be Cj PW.lo.2.2 (ownsMap_at o');have hgN:w.heap.size+1+1+2∉NB:=λe=>by
  let⟨i,hi⟩:=gH.1 e
  let⟨nd',bu⟩:=h.bE5 hi
  let⟨g',hh',uu',a1,a2,a3,Nh⟩:=h.nat bu
  rw[hi]at a1;cases a1;obtain⟨V',bN,-⟩:=Nh.blk;have:=aR bN;omega
 have hold:∀z∈bs::bn::(HB++UB),z<w.heap.size:=λz hz=>by
  have nb:∀i nd',D.ns[i]?=some nd'->∃hh uu,HB[i]?=some hh/\UB[i]?=some uu/\hh<w.heap.size/\uu<w.heap.size:=λi nd' bu=>by
   let⟨g',hh',uu',a1,a2,a3,Nh⟩:=h.nat bu
   let⟨es,c,m3⟩:=Nh.Xp.at
   let⟨es',c',m4⟩:=Nh.TF.at
   exact⟨_,_,a2,a3,aR m3,aR m4⟩
  simp only[jv,gu]at hz;rcases hz with rfl|rfl|hz|hz;{obtain⟨M,n,o,-⟩:=h.sG;exact o.lt};{obtain⟨M,n,o,-⟩:=h.lY;exact o.lt};{
 let⟨i,hi⟩:=gH.1 hz
 let⟨hh,uu,a1,a2,a3,a4⟩:=nb i _ (aY (h.hlen▸(aV.1 hi).1))
 rw[hi]at a1;cases a1;exact a3};{
 let⟨i,hi⟩:=gH.1 hz
 let⟨hh,uu,a1,a2,a3,a4⟩:=nb i _ (aY (h.uw▸(aV.1 hi).1))
 rw[hi]at a2;cases a2;exact a4}
 have PU:=ag (PW.bW7 (j:=j) hj PNW hgN (λz hz=>aI (hold z hz)) af me O2 hl (λM' o1=>by obtain⟨U',Dw,Xn,-⟩:=o1.update ox underlying155 (by have:=ae hl;unfold maxLen;omega) cW (lX (w.heap.size+1+1+1+1));rw[dK]at Dw;cases Dw;exact Xn))
 have FY:=(Fr.below (T:=T3) NS).trans O2.fr;have RU:=RYH.fr FY
 let⟨r0,r1,r2,r3,r4,r5,r6,r7,rf⟩:=RU.cells
 have FU':=ag ((Fr.below (T:=T3) bY).trans FY);have RU':=ag RU;clear eW bV zV gV s1 s2 bVW NS gW PNW o o' m hz ho Cj O2 hgN hold FY RU HV;simp only[xT,rj,vW,sU]
 repeat still_step
 refine iy ?_;go_wp2;exact yW RU' bg rfl rfl ⟨_,_,_,PS.rep PU RU' af _ _ _ _ _ _ _ _,FU'.low ((dm).mono af),rfl⟩}
end Go.Proofs.YtnhnbpkfpaondaaGreatDoor
