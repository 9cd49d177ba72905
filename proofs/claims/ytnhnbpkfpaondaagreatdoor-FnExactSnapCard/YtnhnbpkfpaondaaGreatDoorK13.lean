import Derived.Test.YtnhnbpkfpaondaaGreatDoorK11
namespace Go.Proofs.YtnhnbpkfpaondaaGreatDoor
set_option maxHeartbeats 0
set_option linter.all false
set_option maxRecDepth 100000
open Go.ChangeShapes Go.WideShapes Go.ChangeAt Go.RowKit Go.Proofs.Tryz
variable {P:Program}{w w' w2:World}{ops:Array Oper}{a:Act}{K:Act->World->Prop}{E:Prop}{B bytes k c0 c1 n0 n1 n4 n c i b d m N n2 d1 d2 a1 a2 a3 a4 d3 d4 n3 sz G:Nat}{z v:Value}{cs Qs row:List Value}{nd:aD}{p0 p1 p q r pp pv ph pu qp qv qh qu pq:OA}{es l:List Ev}{s:aQ}{ss:List aQ}{x t e g I D:Int}{ns:List aD}{o:Obj}{S:Nat->Nat}{A1 A2 A:List Lf}{xs:LI}{ty:TypeId}
def pf{α:Type}{el:World->α->List Value->Prop}{o:Oper}{Q:Exit->Act->World->Prop}(ng:o.guard=none){s x:Operand}{t:TypeId}(ho:o.op=.call {callee:=.builtin .append,args:=#[s,x],argTypes:=#[t,t]}){e:TypeId}(i:TypeInfo)(size:Nat)(ht:P.underlying t=some (.slice e))(hi:P.info? e=some i)(hz:i.zero=some z)(Ah:i.size=size)(gh:i.bytes=bytes)(hzs:z.cells.size=size)(jl:0<size){xs:List α}(ek:Le xs k)(hs:a.eval s=v)(bR:RT el e size B w v xs)(g:Nat)(y:α)(hx:a.eval x=.T g 1 1)(oz:el w y cs)(Ot:cs.length=size)(iU:∀j u,cs[j]?=some u->w.cell? (Ad g j)=some u)(h1:∀u∈cs,u.oneCell'=true)(qz:∀w',Fr [e] w w'->∀x c,el w x c->el w' x c)(hk:k<4194304)(hbt:bytes<=256)(hB:B<=w.heap.size)(h:∀p' c' w',RT el e size B w' (.S p' (k+1) c') (xs++[y])->w.grownBy w' v.ownBlock->Fr [e] w w'->(∀g,(Value.slice p' (k+1) c').ownBlock=some g->v.ownBlock=some g\/w.heap.size<=g)->K (a.put o.dst (.S p' (k+1) c')) w'):if Region.wanted o (yielded ops a.tmps)=true then Oper.wp P o a w K Q else E:=by
 have htt:=bR.typ;obtain⟨rs,g1,g2,g3,g4⟩:=bR;rw[ae ek]at g3;refine kF ng ho i size ht hi hz Ah gh hzs jl hs g3 1 1 cs hx (by rw[Ot,Nat.one_mul]) iU h1 iB (by have:=Nat.mul_le_mul (show k+1<=4194304 by omega) hbt;omega) hB ?_
 intro v' w' fo hg yj;have hf:Fr [e] w w':=Fr.grown hg λb hb=>by
  let⟨cur,hc⟩:=htt b hb
  exact⟨cur,_,hc,al⟩
 have sn:RT el e size B w' v' (xs++[y]):=RT.snoc g1 g2 g4 (qz w' hf) oz Ot (ae ek▸fo);obtain⟨p',c',rfl,-⟩:=RT.form sn;rw[gU,ae ek]at sn yj⊢;exact h p' c' w' sn hg hf yj
def VG{p4 p7:OA}{c4 c7 n7:Nat}(e0:Le nd.path n0)(e1:Le nd.value n1)(e4:Le nd.holders n4)(e7:Le nd.watchers n7)(h0:Rd w (.S p0 n0 c0) nd.path)(h1:Rd w (.S p1 n1 c1) nd.value)(h4:oK w (.S p4 n4 c4) nd.holders)(h7:oK w (.S p7 n7 c7) nd.watchers)(l0:Mg n0)(l1:Mg n1)(l4:Mg n4)(l7:Mg n7):Calls prog 81 #[Yt (.S p0 n0 c0) (.S p1 n1 c1) nd.owner nd.mode (.S p4 n4 c4) nd.aE nd.gen (.S p7 n7 c7)] w λr w'=>∃q0 d0 q1 d1 q4 d4 q7 d7,r=.returned (Yt (.S q0 n0 d0) (.S q1 n1 d1) nd.owner nd.mode (.S q4 n4 d4) nd.aE nd.gen (.S q7 n7 d7))/\TB w' (.S q0 n0 d0) nd.path/\TB w' (.S q1 n1 d1) nd.value/\TU w.heap.size w' (.S q4 n4 d4) nd.holders/\TU w.heap.size w' (.S q7 n7 d7) nd.watchers/\Bw w w':=by
 have HR:=ag λ(w':World)(hb:Bw w w')=>ai (h0.below hb) (ai (h1.below hb) (ai (h4.below hb) (h7.below hb)))
 let⟨W0,fL,b0,z0,C0,T0⟩:=au w #[.S p0 n0 c0,.S p1 n1 c1,.U nd.owner,.I nd.mode,.S p4 n4 c4,.U nd.aE,.U nd.gen,.S p7 n7 c7] 133
 let⟨W1,mg,b1,z1,C1,T1⟩:=au W0 #[aq,aq,.U 0,.I 0,aq,.U 0,.U 0,aq] 133
 rw[z0]at C1 T1 z1;have B0:=ag (aj b0 b1);have C0:=ag (C0.below af b1);have T0:Hid (∃cur,W1.heap[w.heap.size]?=some (.cells cur 133)):=⟨_,(b1.block _ af).trans T0⟩;have R0:=ag C1;have TR:Hid (∃cur,W1.heap[w.heap.size+1]?=some (.cells cur 133)):=⟨_,T1⟩;have Z0:=z1
 go_in
 have k0:=C0.1 0 _ rfl;go_wp2_with fail;rw[<-fL,<-mg];refine(iT e0 (ae HR W1 B0).1 af).mono ?_;rintro r w1⟨q0,d0,rfl,oj,sE⟩;have CY:=C0.below af sE;have TY:∃cur,w1.heap[w.heap.size]?=some (.cells cur 133):=T0.imp λcur hc=>(sE.block _ af).trans hc;have RY:=R0.below af sE
 let⟨X,hX⟩:=aB (w1.setCell (Ad w.heap.size 0) (.S q0 n0 d0))
 have TR':∃cur,w1.heap[w.heap.size+1]?=some (.cells cur 133):=TR.imp λcur hc=>(sE.block _ af).trans hc;have TR:Hid (∃cur,X.heap[w.heap.size+1]?=some (.cells cur 133)):=by rw[hX];exact ag (TR'.imp λcur hc=>(ga _ _ _ _ (by show w.heap.size+1≠w.heap.size;omega)).trans hc)
 have ts:=dy (j:=0) (u:=.S q0 n0 d0) TY;rw[<-hX]at ts;have kj:=CY.1 0 _ rfl;have kf:=CY.2 0;have zj:=sE.size;have Z1:w.heap.size+1+1<=X.heap.size:=by rw[hX];simp;omega
 have C1:Hid (ar X w.heap.size [.S q0 n0 d0,.S p1 n1 c1,.U nd.owner,.I nd.mode,.S p4 n4 c4,.U nd.aE,.U nd.gen,.S p7 n7 c7]):=hX▸ag (CY.dH 0 al _);have T1:=ag ts.1;have R1:Hid (ar X (w.heap.size+1) [aq,aq,.U 0,.I 0,aq,.U 0,.U 0,aq]):=by rw[hX];exact ag (RY.yv (a:=(Ad w.heap.size 0)) (by show w.heap.size+1≠w.heap.size;omega) _)
 have B1:Hid (Bw w X):=by rw[hX];exact ag ((aj (ae B0) sE).setCell (p:=(Ad w.heap.size 0)) ay _)
 have t0:=ag (oj.tb.fr ts.2)
 let⟨X1,hN⟩:=aB X
 rw[<-hN]at C1 T1 R1 B1 Z1 TR hX t0;have k1:=C1.1 1 _ rfl;rw[hX]at k1;go_wp2_with fail;rw[<-hX];refine(iT e1 (ae HR X1 B1).2.1 af).mono ?_;rintro r w2⟨q1,d1,rfl,oj,sE⟩;have CY:=C1.below af sE;have TY:∃cur,w2.heap[w.heap.size]?=some (.cells cur 133):=T1.imp λcur hc=>(sE.block _ af).trans hc;have RY:=R1.below af sE
 let⟨X,hX⟩:=aB (w2.setCell (Ad w.heap.size 1) (.S q1 n1 d1))
 have TR':∃cur,w2.heap[w.heap.size+1]?=some (.cells cur 133):=TR.imp λcur hc=>(sE.block _ af).trans hc;have TR:Hid (∃cur,X.heap[w.heap.size+1]?=some (.cells cur 133)):=by rw[hX];exact ag (TR'.imp λcur hc=>(ga _ _ _ _ (by show w.heap.size+1≠w.heap.size;omega)).trans hc)
 have ts:=dy (j:=1) (u:=.S q1 n1 d1) TY;rw[<-hX]at ts;have kj:=CY.1 1 _ rfl;have kf:=CY.2 1;have zj:=sE.size;have Z2:w.heap.size+1+1<=X.heap.size:=by rw[hX];simp;omega
 have C2:Hid (ar X w.heap.size [.S q0 n0 d0,.S q1 n1 d1,.U nd.owner,.I nd.mode,.S p4 n4 c4,.U nd.aE,.U nd.gen,.S p7 n7 c7]):=hX▸ag (CY.dH 1 al _);have T2:=ag ts.1;have R2:Hid (ar X (w.heap.size+1) [aq,aq,.U 0,.I 0,aq,.U 0,.U 0,aq]):=by rw[hX];exact ag (RY.yv (a:=(Ad w.heap.size 1)) (by show w.heap.size+1≠w.heap.size;omega) _)
 have B2:Hid (Bw w X):=by rw[hX];exact ag ((aj (ae B1) sE).setCell (p:=(Ad w.heap.size 1)) ay _)
 have t0:=ag (((t0.fr (aO sE)).fr ts.2));have t1:=ag (oj.tb.fr ts.2)
 let⟨X2,hN⟩:=aB X
 rw[<-hN]at C2 T2 R2 B2 Z2 TR hX t0 t1;have k4:=C2.1 4 _ rfl;rw[hX]at k4;go_wp2_with fail;rw[<-hX];refine(Xa e4 (ae HR X2 B2).2.2.1 af).mono ?_;rintro r w3⟨q4,d4,rfl,oj,sE⟩;have CY:=C2.below af sE;have TY:∃cur,w3.heap[w.heap.size]?=some (.cells cur 133):=T2.imp λcur hc=>(sE.block _ af).trans hc;have RY:=R2.below af sE
 let⟨X,hX⟩:=aB (w3.setCell (Ad w.heap.size 4) (.S q4 n4 d4))
 have TR':∃cur,w3.heap[w.heap.size+1]?=some (.cells cur 133):=TR.imp λcur hc=>(sE.block _ af).trans hc;have TR:Hid (∃cur,X.heap[w.heap.size+1]?=some (.cells cur 133)):=by rw[hX];exact ag (TR'.imp λcur hc=>(ga _ _ _ _ (by show w.heap.size+1≠w.heap.size;omega)).trans hc)
 have ts:=dy (j:=4) (u:=.S q4 n4 d4) TY;rw[<-hX]at ts;have kj:=CY.1 4 _ rfl;have kf:=CY.2 4;have zj:=sE.size;have Z3:w.heap.size+1+1<=X.heap.size:=by rw[hX];simp;omega
 have C3:Hid (ar X w.heap.size [.S q0 n0 d0,.S q1 n1 d1,.U nd.owner,.I nd.mode,.S q4 n4 d4,.U nd.aE,.U nd.gen,.S p7 n7 c7]):=hX▸ag (CY.dH 4 al _);have T3:=ag ts.1;have R3:Hid (ar X (w.heap.size+1) [aq,aq,.U 0,.I 0,aq,.U 0,.U 0,aq]):=by rw[hX];exact ag (RY.yv (a:=(Ad w.heap.size 4)) (by show w.heap.size+1≠w.heap.size;omega) _)
 have B3:Hid (Bw w X):=by rw[hX];exact ag ((aj (ae B2) sE).setCell (p:=(Ad w.heap.size 4)) ay _)
 have t0:=ag (((t0.fr (aO sE)).fr ts.2));have t1:=ag (((t1.fr (aO sE)).fr ts.2));have t4:=ag ((oj.tu (B':=w.heap.size) af).fr ts.2)
 let⟨X3,hN⟩:=aB X
 rw[<-hN]at C3 T3 R3 B3 Z3 TR hX t0 t1 t4;have k7:=C3.1 7 _ rfl;rw[hX]at k7;go_wp2_with fail;rw[<-hX];refine(Xa e7 (ae HR X3 B3).2.2.2 af).mono ?_;rintro r w4⟨q7,d7,rfl,oj,sE⟩;have CY:=C3.below af sE;have TY:∃cur,w4.heap[w.heap.size]?=some (.cells cur 133):=T3.imp λcur hc=>(sE.block _ af).trans hc;have RY:=R3.below af sE
 let⟨X,hX⟩:=aB (w4.setCell (Ad w.heap.size 7) (.S q7 n7 d7))
 have TR':∃cur,w4.heap[w.heap.size+1]?=some (.cells cur 133):=TR.imp λcur hc=>(sE.block _ af).trans hc;have TR:Hid (∃cur,X.heap[w.heap.size+1]?=some (.cells cur 133)):=by rw[hX];exact ag (TR'.imp λcur hc=>(ga _ _ _ _ (by show w.heap.size+1≠w.heap.size;omega)).trans hc)
 have ts:=dy (j:=7) (u:=.S q7 n7 d7) TY;rw[<-hX]at ts;have kj:=CY.1 7 _ rfl;have kf:=CY.2 7;have zj:=sE.size;have Z4:w.heap.size+1+1<=X.heap.size:=by rw[hX];simp;omega
 have C4:Hid (ar X w.heap.size [.S q0 n0 d0,.S q1 n1 d1,.U nd.owner,.I nd.mode,.S q4 n4 d4,.U nd.aE,.U nd.gen,.S q7 n7 d7]):=hX▸ag (CY.dH 7 al _);have T4:=ag ts.1;have R4:Hid (ar X (w.heap.size+1) [aq,aq,.U 0,.I 0,aq,.U 0,.U 0,aq]):=by rw[hX];exact ag (RY.yv (a:=(Ad w.heap.size 7)) (by show w.heap.size+1≠w.heap.size;omega) _)
 have B4:Hid (Bw w X):=by rw[hX];exact ag ((aj (ae B3) sE).setCell (p:=(Ad w.heap.size 7)) ay _)
 have t0:=ag (((t0.fr (aO sE)).fr ts.2));have t1:=ag (((t1.fr (aO sE)).fr ts.2));have t4:=ag (((t4.fr (aO sE)).fr ts.2));have t7:=ag ((oj.tu (B':=w.heap.size) af).fr ts.2)
 let⟨X4,hN⟩:=aB X
 rw[<-hN]at C4 T4 R4 B4 Z4 TR hX t0 t1 t4 t7;obtain⟨s0,s1,s2,s3,s4,s5,s6,s7,sf⟩:_/\_/\_/\_/\_/\_/\_/\_/\_:=⟨C4.1 0 _ rfl,C4.1 1 _ rfl,C4.1 2 _ rfl,C4.1 3 _ rfl,C4.1 4 _ rfl,C4.1 5 _ rfl,C4.1 6 _ rfl,C4.1 7 _ rfl,C4.2⟩;obtain⟨r0,r1,r2,r3,r4,r5,r6,r7,rf⟩:_/\_/\_/\_/\_/\_/\_/\_/\_:=⟨R4.1 0 _ rfl,R4.1 1 _ rfl,R4.1 2 _ rfl,R4.1 3 _ rfl,R4.1 4 _ rfl,R4.1 5 _ rfl,R4.1 6 _ rfl,R4.1 7 _ rfl,R4.2⟩;rw[hX]at s0 s1 s2 s3 s4 s5 s6 s7 sf r0 r1 r2 r3 r4 r5 r6 r7 rf;go_wp2;rw[<-hX]at*;have bF:=dm (w:=X4) (b:=w.heap.size+1) (v0:=.S q0 n0 d0) (v1:=.S q1 n1 d1) (v2:=.U nd.owner) (v3:=.I nd.mode) (v4:=.S q4 n4 d4) (v5:=.U nd.aE) (v6:=.U nd.gen) (v7:=.S q7 n7 d7);obtain⟨-,fF⟩:=PX (v0:=.S q0 n0 d0) (v1:=.S q1 n1 d1) (v2:=.U nd.owner) (v3:=.I nd.mode) (v4:=.S q4 n4 d4) (v5:=.U nd.aE) (v6:=.U nd.gen) (v7:=.S q7 n7 d7) TR;refine dJ (v:=Yt (.S q0 n0 d0) (.S q1 n1 d1) nd.owner nd.mode (.S q4 n4 d4) nd.aE nd.gen (.S q7 n7 d7)) (by simp[results,results81,go_sem,r0,r1,r2,r3,r4,r5,r6,r7]) rfl ?_;exact⟨q0,d0,q1,d1,q4,d4,q7,d7,rfl,t0.fr fF,t1.fr fF,t4.fr fF,t7.fr fF,B4.trans (bF.mono af)⟩
def DS.get(h:DS w (.S p n c) es){e:Ev}(hi:es[i]?=some e):∃b o u,p=some (Ad b o)/\w.cell? (Ad b (o+i*2))=some (.I e.1)/\w.cell? (Ad b (o+i*2+1))=some u/\Rd w u e.2:=by
 obtain⟨p',c',e',hd⟩:=h;simp only[pW]at e';obtain⟨rfl,-,rfl⟩:=e';rcases hd with h0|⟨b,o,rfl,hA⟩;{rw[h0]at hi;simp at hi};{
 let⟨h1,u,h2,h3⟩:=hA i e hi
 exact⟨b,o,u,rfl,h1,h2,h3⟩}
def av0{Q:List Ev}(en:Le Q n)(h:DS w (.S p n c) Q)(hn:Mg n)(hbq:Hid (∀e∈Q,e.2.length<=1048576)):Calls prog 80 #[.S p n c] w λr w'=>∃p' c',r=.returned (.S p' n c')/\Ll w.heap.size w' (.S p' n c') Q/\Bw w w':=by
 let⟨ie,hie,qx,jd,jJ⟩:=fD Tryz.infoEv
 have HI:=ag (ai hie (ai qx (ai jd jJ)));have HR:=ag λ(w':World)(hb:Bw w w')=>h.below hb
 go_in
 go_wp2
 go_loopw[3,4](λov iv wr=>∃(k:Nat)(M:List Ev)(po:OA)(co:Nat),k<=n/\iv=.I k/\ov=.S po k co/\Le M k/\Hid (Q.take k=M)/\Hid (Ll w.heap.size wr (.S po k co) M)/\Hid (Bw w wr)) (λ_ iv _=>n-(intOf iv).toNat)
 exact⟨0,[],none,0,gr _,rfl,rfl,ag rfl,(by show _=_;simp),RT.nil _ _ _ _ _,cQ _ _⟩;{
 obtain⟨k,M,po,co,hk,rfl,rfl,eM,hM,hQ,aM⟩:=hrel;have zr:=aM.size;by_cases bf:k<n;{
 have bL:=aU k n;obtain⟨y,hy⟩:∃y,Q[k]?=some y:=⟨_,aY (ae en▸bf)⟩;have E1:=ag (by rw[od,hy,ae hM];rfl:Q.take (k+1)=M++[y]);have hyl:=ae hbq y (aT hy);obtain⟨b,o,u,rfl,c0,c1,hu⟩:=(ae HR w aA).get hy;obtain⟨pu,cu,rfl,hu'⟩:=hu;have RU:=ag (show Rd w (.S pu y.2.length cu) y.2 from⟨pu,cu,rfl,hu'⟩)
 let⟨nu,enu⟩:=bG y.2.length
 rw[ae enu]at c1 RU hyl;have HC:=ag (λ(v:World)(hv:Bw w v)=>ai (ah c0 hv) (ah c1 hv));go_wp2_with fail
 let⟨vA,je⟩:=aB wr.drew
 have gL:=mX je;have BA:=ag gL;have BW:=λ(v:World)(hv:Bw wr v)=>aj aM hv;refine du (λw'=>w'.cell? (Ad b (o+k*2))=some (.I y.1)/\w'.cell? (Ad b (o+k*2+1))=some (.S pu nu cu)) (je▸ae HC vA (BW vA gL)) λhS=>?_;rw[<-je]at hS⊢;refine mj 0 1 2 3 4 5 6 7 hS ?_;refine jR 8 9 hS ?_;refine tn 10 hS ?_;refine cX 11 λKK hK=>?_;refine iw (iT enu (RU.below (BW vA BA)) af) ?_;rintro r v1⟨pa,ca,rfl,oa,DE⟩;refine⟨_,rfl,?_⟩;have B1:=ag (aj BA DE);have OA:=ag oa.tb;refine fh hK (by exact HC v1 (BW v1 B1)) λhS=>?_;refine tn 12 hS ?_;refine cX 13 λKK hK=>?_;go_simp;obtain⟨Z,hZ,bZ,zZ,CZ,-⟩:=au v1 #[.I y.1,.S pa nu ca] 189;rw[<-hZ];have B2:=ag (aj B1 bZ);have HCZ:=ag CZ;have TZ:=ag (OA.fr (aO bZ));have QZ:=ag (Ll.fr hQ (aO B2));have z2:=B2.size;refine fh hK (by exact HC Z (BW Z B2)) λhS=>?_;refine cX 14 λKK hK=>?_;refine pf aJ aJ ie 2 underlying125 HI.1 HI.2.1 HI.2.2.1 HI.2.2.2 rfl bj eM aJ (ae QZ) v1.heap.size y (cs:=[.I y.1,.S pa nu ca]) aJ ⟨_,rfl,ae TZ⟩ rfl (λj u hu=>HCZ.1 j u hu) (λu hu=>by simp at hu;rcases hu with rfl|rfl<;>rfl) (λw' hf=>Ij.fr hf bj) af af af ?_;intro p' c' w9 hq9 AY f9 _;have B9:=ag ((aM.trans (B2.mono af)).grown AY af (λb' e=>(QZ.lt b' e).1));have Q9:=ag hq9;have hS9:w9.cell? (Ad b (o+k*2))=some (.I y.1)/\w9.cell? (Ad b (o+k*2+1))=some (.S pu nu cu):=ae HC w9 B9;refine fh hK (by exact hS9) λhS=>?_;refine tn 15 hS ?_;refine cY ?_;go_wp2;go_roundw;exact⟨k+1,M++[y],p',c',af,by go_num,rfl,ag (by rw[gU,ae eM];rfl),E1,Q9,B9⟩;exact cg};{have bL:=dB k n;have ek:k=n:=af;subst ek;have e1:=ae hM;rw[lD (by rw[ae en];omega)]at e1;subst e1;go_wp2;go_ret;exact⟨_,_,rfl,hQ,aM⟩}}
def kq.snoc{v':Value}{Q:Value}(h:kq B w v ss Qs)(hf:Fr [132] w w')(hQ:Ll B w Q s.2.2)(bL0:∀(j:Nat)(Q':Value)(b:Nat),Qs[j]?=some Q'->Q'.ownBlock=some b->Q.ownBlock≠some b)(hr:RT tO 132 3 B w' v' (ss.zip Qs++[(s,Q)])):kq B w' v' (ss++[s]) (Qs++[Q]):=by
 have hl:=h.len;refine⟨by simp[hl],by rw[List.zip_append hl.symm];exact hr,λi s' Q' hs hq=>?_,λi j Q1 Q2 b ld hq um hb=>?_⟩;{
 by_cases hi:i<ss.length;{rw[kR hi]at hs;rw[kR af]at hq;exact(h.Yk i s' Q' hs hq).fr hf};{
 have ei:i=ss.length:=by have:=(aV.1 hs).1;simp at this;omega
 subst ei;rw[nF ay,BQ]at hs;rw[nF af,hl,BQ]at hq;simp at hs hq;subst hs hq;exact hQ.fr hf}};{
 by_cases hi:i<Qs.length;{
 rw[kR hi]at hq;by_cases hj:j<Qs.length;{rw[kR hj]at um;exact h.yv i j Q1 Q2 b ld hq um hb};{
 rw[nF af]at um;have e:j-Qs.length=0:=by have:=(aV.1 um).1;simp at this;omega
 rw[e]at um;simp at um;subst um;exact bL0 i Q1 b hq hb}};{
 rw[nF af]at hq;have e:i-Qs.length=0:=by have:=(aV.1 hq).1;simp at this;omega
 rw[e]at hq;simp at hq;subst hq;have hj:j<Qs.length:=by have:=(aV.1 um).1;simp at this;omega
 rw[kR hj]at um;exactλe2=>bL0 j Q2 b um e2 hb}}
def kq.mono{B':Nat}(h:kq B w v ss Qs)(hB:B'<=B):kq B' w v ss Qs:=⟨h.len,RT.mono h.row hB,λi s Q hs hq=>RT.mono (h.Yk i s Q hs hq) hB,h.yv⟩
def vk.get(h:vk w (.slice p n c) ss)(hi:ss[i]?=some s):∃b o u,p=some ⟨b,o,none⟩/\w.cell? ⟨b,o+i*3,none⟩=some (.int .u64 s.1)/\w.cell? ⟨b,o+i*3+1,none⟩=some (.int .i64 s.2.1)/\w.cell? ⟨b,o+i*3+2,none⟩=some u/\DS w u s.2.2:=by
 obtain⟨p',c',e',hd⟩:=h;simp only[pW]at e';obtain⟨rfl,-,rfl⟩:=e';rcases hd with h0|⟨b,o,rfl,hA⟩;{rw[h0]at hi;simp at hi};{
 let⟨h1,h2,u,h3,h4⟩:=hA i s hi
 exact⟨b,o,u,rfl,h1,h2,h3,h4⟩}
def YB(w:World)(b:Nat)(st out:List Value):Prop:=BX w b st/\BX w (b+1) [.int .u64 0,.int .u64 0,.int .u64 0,.int .i64 0,.slice none 0 0,.slice none 0 0]/\BX w (b+1+1) out
def YB.fr{T:List TypeId}{st out:List Value}(h:YB w b st out)(hf:Fr T w w')(ht:41∉T:=by decide):YB w' b st out:=⟨h.1.fr hf ht,h.2.1.fr hf ht,h.2.2.fr hf ht⟩
def YB.set{st out:List Value}(h:YB w b st out)(j:Nat)(hj:j<out.length)(u:Value):YB (w.setCell ⟨b+1+1,j,none⟩ u) b st (out.set j u)/\Fr [41] w (w.setCell ⟨b+1+1,j,none⟩ u):=
 ⟨⟨h.1.FQ af,h.2.1.FQ af,h.2.2.1.dH j hj u,(dy h.2.2.2).1⟩,(dy h.2.2.2).2⟩
def NC(en:Le ss n)(em:Le ns m)(h:vk w (.slice p n c) ss)(hN:lM w (.slice q m d) ns)(hn:Mg n)(hm:Mg m)(qg:Hid (∀s∈ss,s.2.2.length<=1048576/\∀ev∈s.2.2,ev.2.length<=1048576))(yG:Hid (∀nd∈ns,nd.path.length<=1048576/\nd.value.length<=1048576/\nd.holders.length<=1048576/\nd.watchers.length<=1048576)):Calls prog 38 #[dZ e g x t (.slice p n c) (.slice q m d)] w λr w'=>∃p' c' q' d',r=.returned (dZ e g x t (.slice p' n c') (.slice q' m d'))/\(∃Qs,kq w.heap.size w' (.slice p' n c') ss Qs)/\AI w.heap.size w' (.slice q' m d') ns/\Below w.heap.size w w':=by
 let⟨is,his,U0,ik,Om⟩:=fD Tryz.infoSes
 let⟨iN,hiN,MX,xw,KR⟩:=fD Tryz.infoNod
 have HI:=ag (ai (ai his (ai U0 (ai ik Om))) (ai hiN (ai MX (ai xw KR))));have HR:=ag (ai h hN);have HCG:=ag (λ(vs:Array Value)(w:World)=>show(callFunc 81 vs).run prog w=.ok (.enter 81 vs) w by kernel_rfl)
 let⟨W0,fL,b0,z0,C0⟩:=jB w (.int .u64 e) (.int .u64 g) (.int .u64 x) (.int .i64 t) (.slice p n c) (.slice q m d)
 let⟨W1,mg,b1,z1,C1⟩:=sr W0
 let⟨W2,mu,b2,z2,C2⟩:=jB W1 (.int .u64 e) (.int .u64 g) (.int .u64 x) (.int .i64 t) (.slice none 0 0) (.slice none 0 0)
 rw[z0]at C1 z1;rw[z1]at C2 z2;have Y2:=ag (show YB W2 w.heap.size [.int .u64 e,.int .u64 g,.int .u64 x,.int .i64 t,.slice p n c,.slice q m d] [.int .u64 e,.int .u64 g,.int .u64 x,.int .i64 t,.slice none 0 0,.slice none 0 0]from⟨(C0.below b1).below b2,C1.below b2,C2⟩);have B2:=ag (aj (aj b0 b1) b2)
 go_in
 go_wp2_with fail;rw[<-fL,<-mg,<-mu]
 go_loopw[4](λiv wr=>∃(k:Nat)(M:List aQ)(Qk:List Value)(po:OA)(co:Nat),k<=n/\iv=.int .i64 k/\Le M k/\Hid (ss.take k=M)/\Hid (YB wr w.heap.size [.int .u64 e,.int .u64 g,.int .u64 x,.int .i64 t,.slice p n c,.slice q m d] [.int .u64 e,.int .u64 g,.int .u64 x,.int .i64 t,.slice po k co,.slice none 0 0])/\Hid (kq (w.heap.size+1+1+1) wr (.slice po k co) M Qk)/\Hid (Below w.heap.size w wr)/\Hid (w.heap.size+1+1+1<=wr.heap.size)) (λiv _=>n-(intOf iv).toNat)
 exact⟨0,[],[],none,0,gr _,rfl,ag rfl,(by show _=_;simp),Y2,kq.nil _ _,B2,(by show _<=_;omega)⟩;{
 obtain⟨k,M,Qk,po,co,hk,rfl,eM,hM,hY,Vn,aM,ZM⟩:=hrel;have zr:=ae ZM
 let⟨k0,k1,k2,k3,k4,k5,kf⟩:=hY.1.cells
 by_cases bf:k<n;{
 have bL:=aU k n;obtain⟨s,hs⟩:∃s,ss[k]?=some s:=⟨_,aY (ae en▸bf)⟩;have E1:=ag (by rw[od,hs,ae hM];rfl:ss.take (k+1)=M++[s])
 let⟨hq1,hq2⟩:=ae qg s (aT hs)
 have HQ2:=ag hq2;obtain⟨b,o,u,rfl,c0,c1,c2,hu⟩:=vk.get HR.1 hs;obtain⟨pu,cu,rfl,hu'⟩:=hu;have RU:=ag (show DS w (.slice pu s.2.2.length cu) s.2.2 from⟨pu,cu,rfl,hu'⟩)
 let⟨nu,enu⟩:=bG s.2.2.length
 rw[ae enu]at c2 RU hq1;have d0:=λ(ob:Obj)=>ah (ah c0 aM) ((cQ wr.heap.size wr).alloc ay ob);have d1:=λ(ob:Obj)=>ah (ah c1 aM) ((cQ wr.heap.size wr).alloc ay ob);have d2:=λ(ob:Obj)=>ah (ah c2 aM) ((cQ wr.heap.size wr).alloc ay ob);obtain⟨V1,hV1,bv1,zv1,CV,-⟩:=au wr #[.int .u64 s.1,.int .i64 s.2.1,.slice pu nu cu] 132;have VC:=ag CV;have BV:=ag bv1;have i0:=ah c0 aM;have i1:=ah c1 aM;have i2:=ah c2 aM;go_wp2_with fail;rw[<-hV1]
 let⟨vA,je⟩:=aB V1.drew
 have gL:=mX je;have BA:=ag (cQ vA.heap.size vA);have HC:=ag (λ(v:World)(hv:Below vA.heap.size vA v)=>ai (ai (ah (VC.1 0 _ rfl) (aj gL hv)) (ai (ah (VC.1 1 _ rfl) (aj gL hv)) (ah (VC.1 2 _ rfl) (aj gL hv)))) (ai (YB.fr (ae hY) (aO (aj (aj (ae BV) gL) hv)) al) (ai (kq.fr (ae Vn) (aO (aj (aj (ae BV) gL) hv))) (ai (aj (ae aM) (aj (aj (ae BV) gL) hv)) (aj (aj (ae BV) gL) hv)))));have zA:=gL.size;refine Qw ?_;refine CE 13 (S:=λw'=>(w'.cell? ⟨wr.heap.size,0,none⟩=some (.int .u64 s.1)/\w'.cell? ⟨wr.heap.size,1,none⟩=some (.int .i64 s.2.1)/\w'.cell? ⟨wr.heap.size,2,none⟩=some (.slice pu nu cu))/\w'.cell? ⟨w.heap.size+1+1,4,none⟩=some (.slice po k co)) (by rw[<-je];exact⟨(ae HC vA aA).1,(ae HC vA aA).2.1.2.2.1.1 4 _ rfl⟩) (λhS=>?_);rw[<-je]at hS⊢;refine tED 0 1 2 3 hS ?_;refine tED 4 5 6 7 hS ?_;refine jh 8 (λKK hK=>?_);refine iw (av0 enu (RU.below (ae HC vA BA).2.2.2.1) hq1 HQ2) ?_;rintro r v1⟨pa,ca,rfl,oa,DE⟩;refine⟨_,rfl,?_⟩;have B1:=ag DE;have OA:=ag oa;have z1a:=DE.size;refine oGS hK ⟨(ae HC v1 B1).1,(ae HC v1 B1).2.1.2.2.1.1 4 _ rfl⟩ λhS=>?_;refine tEo 9 hS ?_;refine jh 10 (λKK hK=>?_);go_simp;obtain⟨Z,hZ,bZ,zZ,CZ,-⟩:=au v1 #[.int .u64 s.1,.int .i64 s.2.1,.slice pa nu ca] 132;rw[<-hZ];have B2:=ag (aj B1 bZ);have HCZ:=ag CZ;have TZ:=ag (Ll.fr OA (aO bZ));refine oGS hK ⟨(ae HC Z B2).1,(ae HC Z B2).2.1.2.2.1.1 4 _ rfl⟩ λhS=>?_;obtain⟨-,YZ,SZ,bwZ,brZ⟩:=ae HC Z B2;have zZ2:=B2.size;have hlz:(M.zip Qk).length=k:=by rw[QC,SZ.len,ae eM];simp
 have H4:=ag (ai YZ (ai SZ (ai bwZ brZ)));refine jh 11 (λKK hK=>?_);refine pf aJ aJ is 3 underlying38 HI.1.1 HI.1.2.1 HI.1.2.2.1 HI.1.2.2.2 rfl bj (ag hlz) aJ SZ.row v1.heap.size (s,.slice pa nu ca) (cs:=[.int .u64 s.1,.int .i64 s.2.1,.slice pa nu ca]) aJ rfl rfl (λj u hu=>HCZ.1 j u hu) (λu hu=>by simp at hu;rcases hu with rfl|rfl|rfl<;>rfl) (λw' hf x c hx=>hx) af af af ?_;intro p' c' w9 hq9 AY f9 _;have YB9:=ag (YB.fr H4.1 f9 bj);have S9:=ag (kq.snoc H4.2.1 f9 (RT.mono TZ af:Ll (w.heap.size+1+1+1) Z _ _) (λj Q' b' hq hb e2=>by have h1:=(TZ.lt b' e2).1;obtain⟨s',Ho⟩:∃s',M[j]?=some s':=⟨_,aY (Vn.len▸(aV.1 hq).1)⟩;have h2:=((Vn.Yk j s' Q' Ho hq).lt b' hb).2;omega) hq9)
 have B9:=ag (H4.2.2.1.grown AY af (λb' e=>aI (H4.2.1.row.lt b' e).1));have Am:∀b',(Value.slice po k co).ownBlock=some b'->b'≠wr.heap.size:=λb' e=>by have:=(Vn.row.lt b' e).2;omega
 have kX:=AY.block wr.heap.size af (λe=>Am _ e.symm rfl);have z9:=AY.size;refine oGS hK ⟨⟨(aF kX _).trans hS.1.1,(aF kX _).trans hS.1.2.1,(aF kX _).trans hS.1.2.2⟩,YB9.2.2.1.1 4 _ rfl⟩ λhS=>?_;refine tEo 12 hS ?_;refine jh 13 (λKK hK=>?_);have y4:=YB9.2.2.1.1 4 _ rfl;have yf:=YB9.2.2.1.2;go_simp
 let⟨Y10,F10⟩:=YB.set (ae YB9) 4 al (.slice p' (k+1) c')
 refine oGX hK ?_;refine Fo ?_;refine aR5 ?_;have H10:=ag (ai Y10 (ai (S9.fr F10) (ai (B9.setCell (p:=⟨w.heap.size+1+1,4,none⟩) (by show w.heap.size<=w.heap.size+1+1;omega) (.slice p' (k+1) c')) F10.1)));go_wp2;go_roundw;exact⟨k+1,_,_,p',c',af,by go_num,ag (by rw[gU,ae eM];rfl),E1,H10.1,H10.2.1,H10.2.2.1,ag (aI H10.2.2.2)⟩;exact cg};{
 have bL:=dB k n;have ek:k=n:=af;subst ek;have e1:=ae hM;rw[lD (by rw[ae en];omega)]at e1;subst e1;go_wp2_with fail
 go_loopw[6](λiv wr2=>∃(j:Nat)(N:List aD)(qo:OA)(dx:Nat),j<=m/\iv=.int .i64 j/\Le N j/\Hid (ns.take j=N)/\Hid (YB wr2 w.heap.size [.int .u64 e,.int .u64 g,.int .u64 x,.int .i64 t,.slice p k c,.slice q m d] [.int .u64 e,.int .u64 g,.int .u64 x,.int .i64 t,.slice po k co,.slice qo j dx])/\Hid (kq (w.heap.size+1+1+1) wr2 (.slice po k co) ss Qk)/\Hid (gq w.heap.size (w.heap.size+1+1+1) wr2 (.slice qo j dx) N)/\Hid (Below w.heap.size w wr2)/\Hid (w.heap.size+1+1+1<=wr2.heap.size)) (λiv _=>m-(intOf iv).toNat)
 exact⟨0,[],none,0,gr _,rfl,ag rfl,(by show _=_;simp),hY,Vn,RT.nil _ _ _ _ _,aM,ZM⟩;{
 obtain⟨j,N,qo,dx,hj,rfl,eN,hNt,hY,Vn,Nh,aM,ZM⟩:=hrel;have zr:=ae ZM
 let⟨k0,k1,k2,k3,k4,k5,kf⟩:=hY.1.cells
 by_cases MZ:j<m;{
 have bJ1:=aU j m;obtain⟨nd,hx⟩:∃nd,ns[j]?=some nd:=⟨_,aY (ae em▸MZ)⟩;have E1:=ag (by rw[od,hx,ae hNt];rfl:ns.take (j+1)=N++[nd])
 let⟨l0,l1,l4,l7⟩:=ae yG nd (aT hx)
 obtain⟨b,o,rfl,hA⟩:=HR.2.at (by rw[ae em];omega)
 let⟨P0,P1,P4,P7,hA⟩:=hA j nd hx
 obtain⟨p0,c0',en0,-⟩:=id hA.r0;obtain⟨p1,c1',Ox,-⟩:=id hA.r1;obtain⟨p4,c4',en4,-⟩:=id hA.r4;obtain⟨p7,c7',en7,-⟩:=id hA.r7;subst en0 Ox en4 en7
 let⟨n0,f0⟩:=bG nd.path.length
 let⟨n1,f1⟩:=bG nd.value.length
 let⟨n4,f4⟩:=bG nd.holders.length
 let⟨n7,f7⟩:=bG nd.watchers.length
 rw[ae f0,ae f1,ae f4,ae f7]at hA;rw[ae f0]at l0;rw[ae f1]at l1;rw[ae f4]at l4;rw[ae f7]at l7;have SS:=ag (λ(v:World)(out:List Value)(hy:YB v w.heap.size [.int .u64 e,.int .u64 g,.int .u64 x,.int .i64 t,.slice p k c,.slice (some ⟨b,o,none⟩) m d] out)(hv:Below w.heap.size w v)=>ai (hy.1.1.1 5 _ rfl) (ai (ah hA.c0 hv) (ai (ah hA.c1 hv) (ai (ah hA.c2 hv) (ai (ah hA.c3 hv) (ai (ah hA.c4 hv) (ai (ah hA.c5 hv) (ai (ah hA.c6 hv) (ah hA.c7 hv)))))))));have HRd:=ag (λ(v:World)(hv:Below w.heap.size w v)=>ai (hA.r0.below hv) (ai (hA.r1.below hv) (ai (hA.r4.below hv) (hA.r7.below hv))));go_wp2_with fail
 let⟨vA,je⟩:=aB wr.drew
 have gL:=mX je;have BA:=ag (cQ vA.heap.size vA);have HC:=ag (λ(v:World)(hv:Below vA.heap.size vA v)=>ai (ae SS v _ (YB.fr (ae hY) (aO (aj gL hv)) al) (aj (ae aM) (aj gL hv))) (ai (YB.fr (ae hY) (aO (aj gL hv)) al) (ai (kq.fr (ae Vn) (aO (aj gL hv))) (ai (gq.fr (ae Nh) (aO (aj gL hv))) (aj (ae aM) (aj gL hv))))));have zA:=gL.size;refine Qw ?_;refine CE 11 (S:=λw'=>(w'.cell? ⟨w.heap.size,5,none⟩=some (.slice (some ⟨b,o,none⟩) m d)/\w'.cell? ⟨b,o+j*8,none⟩=some (.slice p0 n0 c0')/\w'.cell? ⟨b,o+j*8+1,none⟩=some (.slice p1 n1 c1')/\w'.cell? ⟨b,o+j*8+2,none⟩=some (.int .u64 nd.owner)/\w'.cell? ⟨b,o+j*8+3,none⟩=some (.int .i64 nd.mode)/\w'.cell? ⟨b,o+j*8+4,none⟩=some (.slice p4 n4 c4')/\w'.cell? ⟨b,o+j*8+5,none⟩=some (.int .u64 nd.aE)/\w'.cell? ⟨b,o+j*8+6,none⟩=some (.int .u64 nd.gen)/\w'.cell? ⟨b,o+j*8+7,none⟩=some (.slice p7 n7 c7'))/\w'.cell? ⟨w.heap.size+1+1,5,none⟩=some (.slice qo j dx)) (by rw[<-je];exact⟨(ae HC vA aA).1,(ae HC vA aA).2.1.2.2.1.1 5 _ rfl⟩) (λhS=>?_);rw[<-je]at hS⊢;refine tED 0 1 2 3 hS ?_;refine tEn 4 hS ?_;refine tEn 5 hS ?_;refine tEn 6 hS ?_;refine jh 7 (λKK hK=>?_);refine im aJ aJ aJ (λ_=>ae HCG _ _) (VG f0 f1 f4 f7 (ae HRd vA (ae HC vA BA).2.2.2.2).1 (ae HRd vA (ae HC vA BA).2.2.2.2).2.1 (ae HRd vA (ae HC vA BA).2.2.2.2).2.2.1 (ae HRd vA (ae HC vA BA).2.2.2.2).2.2.2 l0 l1 l4 l7) ?_;rintro r v1⟨q0,d0,q1,d1,q4,d4,q7,d7,rfl,t0,t1,t4,t7,DE⟩;refine⟨_,rfl,?_⟩;have B1:=ag DE;have OA:=ag (ai t0 (ai t1 (ai (t4.mono (B':=w.heap.size) (by have:=aM.size;have:=BA.size;omega)) (t7.mono (B':=w.heap.size) (by have:=aM.size;have:=BA.size;omega)))));have z1a:=DE.size;refine oGS hK ⟨(ae HC v1 B1).1,(ae HC v1 B1).2.1.2.2.1.1 5 _ rfl⟩ λhS=>?_;refine jh 8 (λKK hK=>?_);go_simp;obtain⟨Z,hZ,bZ,zZ,CZ,-⟩:=au v1 #[.slice q0 n0 d0,.slice q1 n1 d1,.int .u64 nd.owner,.int .i64 nd.mode,.slice q4 n4 d4,.int .u64 nd.aE,.int .u64 nd.gen,.slice q7 n7 d7] 133;rw[<-hZ];have B2:=ag (aj B1 bZ);have HCZ:=ag CZ;have TZ:=ag (ai (OA.1.fr (aO bZ)) (ai (OA.2.1.fr (aO bZ)) (ai (OA.2.2.1.fr (aO bZ)) (OA.2.2.2.fr (aO bZ)))));refine oGS hK ⟨(ae HC Z B2).1,(ae HC Z B2).2.1.2.2.1.1 5 _ rfl⟩ λhS=>?_;obtain⟨-,YZ,SZ,NZ,bwZ⟩:=ae HC Z B2;have zZ2:=B2.size;have H4:=ag (ai YZ (ai SZ (ai NZ bwZ)));refine jh 9 (λKK hK=>?_);refine pf aJ aJ iN 8 underlying39 HI.2.1 HI.2.2.1 HI.2.2.2.1 HI.2.2.2.2 rfl bj eN aJ NZ v1.heap.size nd (cs:=[.slice q0 n0 d0,.slice q1 n1 d1,.int .u64 nd.owner,.int .i64 nd.mode,.slice q4 n4 d4,.int .u64 nd.aE,.int .u64 nd.gen,.slice q7 n7 d7]) aJ ⟨_,_,_,_,rfl,TZ.1,TZ.2.1,TZ.2.2.1,TZ.2.2.2⟩ rfl (λj u hu=>HCZ.1 j u hu) (λu hu=>by simp at hu;rcases hu with rfl|rfl|rfl|rfl|rfl|rfl|rfl|rfl<;>rfl) (λw' hf=>nQ.fr hf bj bj) af af af ?_;intro p' c' w9 hq9 AY f9 _;have YB9:=ag (YB.fr H4.1 f9 bj);have S9:=ag (ai (H4.2.1.fr f9) hq9);have B9:=ag (H4.2.2.2.grown AY af (λb' e=>aI (H4.2.2.1.lt b' e).1));have z9:=AY.size;refine oGS hK ⟨SS w9 _ YB9 B9,YB9.2.2.1.1 5 _ rfl⟩ λhS=>?_;refine tEo 10 hS ?_;refine jh 11 (λKK hK=>?_);have y4:=YB9.2.2.1.1 5 _ rfl;have yf:=YB9.2.2.1.2;go_simp
 let⟨Y10,F10⟩:=YB.set (ae YB9) 5 al (.slice p' (j+1) c')
 have H10:=ag (ai Y10 (ai (S9.1.fr F10) (ai (gq.fr S9.2 F10) (ai (B9.setCell (p:=⟨w.heap.size+1+1,5,none⟩) (by show w.heap.size<=w.heap.size+1+1;omega) (.slice p' (j+1) c')) F10.1))));refine oGX hK ?_;refine Fo ?_;refine aR5 ?_;go_wp2;go_roundw;exact⟨j+1,_,p',c',af,by go_num,ag (by rw[gU,ae eN];rfl),E1,H10.1,H10.2.1,H10.2.2.1,H10.2.2.2.1,ag (aI H10.2.2.2.2)⟩;exact cg};{
 have bJ1:=dB j m;have ej:j=m:=af;subst ej;have e2:=ae hNt;rw[lD (by rw[ae em];omega)]at e2;subst e2
 let⟨y0,y1,y2,y3,y4,y5,yf⟩:=hY.2.2.cells
 let⟨r0,r1,r2,r3,r4,r5,rf⟩:=hY.2.1.cells
 have hb:=dr (w:=wr) (w.heap.size+1) (.int .u64 e) (.int .u64 g) (.int .u64 x) (.int .i64 t) (.slice po k co) (.slice qo j dx);have hf:Fr [41] wr (dG wr (w.heap.size+1) (.int .u64 e) (.int .u64 g) (.int .u64 x) (.int .i64 t) (.slice po k co) (.slice qo j dx)):=by obtain⟨-,cur,ht⟩:=hY.2.1;exact ju ht
 have HF:=ag (ai hb hf);go_wp2;refine dJ (v:=dZ e g x t (.slice po k co) (.slice qo j dx)) (by simp[results,results38,go_sem,r0,r1,r2,r3,r4,r5]) rfl ?_;exact⟨po,co,qo,dx,rfl,⟨Qk,(Vn.fr HF.2).mono af⟩,RT.mono (gq.fr Nh HF.2) af,aM.trans (HF.1.mono af)⟩}}}}
def Zr{v:World}(h:Bw w v:=by repeat(first|exact cQ _ _|assumption|refine aj ?_ (aA.alloc ay _)|refine aj ?_ (by assumption))):Bw w v:=h
def SzP(n:Nat)(L:Int)(w:World)(e:Ending)(w':World):Prop:=(∃R:Int,e=.returned (.I R)/\(R=-1\/(0<=R/\R+n=L)))/\Bw w w'
def xC(f:Nat)(V:Value)(n:Nat)(w:World):Prop:=∀(v:World)(L:Int),Bw w v->0<=L->L<=1048576->Calls prog f #[V,.I L] v (SzP n L v)
def SzP.one{L R:Int}(h:R=-1\/(0<=R/\R+n=L))(b:Bw w w'):SzP n L w (.returned (.I R)) w':=⟨⟨R,rfl,h⟩,b⟩
def vx(hn:n<=maxLen):xC 63 (.S p n c) n w:=λv L _ h0 h1=>
 (Pe (p:=p) (cap:=c) (w:=v) hn h0 h1).mono λe w' h=>by rw[h.1,h.2];exact .one (by unfold Bk;split<;>omega) aA
def Wm(hn:n<=maxLen):xC 129 (.S p n c) n w:=λv L _ h0 h1=>by
 unfold maxLen at hn;by_cases h:L-n<0
 all_goals(
  go_enter func129,ntmps129;go_wp2;go_ret;exact .one af aA)
def tt0{v:World}(hb:Below (v.alloc o).heap.size (v.alloc o) w):w.heap[v.heap.size]?=some o:=(hb.block _ (by simp)).trans (by show(v.heap.push _)[v.heap.size]?=_;simp)
def tt1(h:w.heap[b]?=some o)(hb:Bw w w'):w'.heap[b]?=some o:=(hb.block _ (iW h)).trans h
theorem szW{p:Prop}(h:p:=by
  intro v L hw h0 h1
  go_in
  repeat(
   go_wp2_with fail
   first
    |(refine qO (x1 _ _ Zr af af) ?_;clear x1)
    |(refine qO (x2 _ _ Zr af af) ?_;clear x2)
    |(refine qO (x3 _ _ Zr af af) ?_;clear x3)
    |(refine qO (x4 _ _ Zr af af) ?_;clear x4)
   rintro _ _⟨⟨R,rfl,hR⟩,hb⟩;rcases hR with rfl|⟨hR,hs⟩;{go_wp2;go_ret;exact .one (.inl rfl) Zr};have hn:¬R<0:=af
   first
    |have TT:=ag (tt1 TT hb)
    |have TT:=ag (tt0 hb)
   have n0:=ao TT 0;have n1:=ao TT 1;have n2:=ao TT 2;have n3:=ao TT 3;have n4:=ao TT 4;have n5:=ao TT 5;have n6:=ao TT 6;have n7:=ao TT 7;have n8:=ao TT 8;have n9:=ao TT 9;have na:=ao TT 10;have nb:=ao TT 11;have nc:=ao TT 12;simp at n0 n1 n2 n3 n4 n5 n6 n7 n8 n9 na nb nc)
  go_wp2;go_ret;exact .one (.inr af) Zr):p:=h
theorem szL{p:Prop}(h:p:=by
  intro v L hw h0 h1;unfold maxLen at hn;by_cases hln:L-n<0;{
 go_in
 go_wp2;go_ret;exact .one (.inl rfl) Zr};{
 obtain⟨L0,eL0⟩:∃L0:Int,L-n=L0:=⟨_,rfl⟩;have hL0:¬L0<0:=af;have wL:IntKind.i64.wrap L0=L0:=kU _ af;have KR:n<=1048576:=af;have hL1:L0<=1048576:=af;have EL:=ag eL0
 go_in
 go_wp2_with fail;clear eL0
 go_loopw[1,5](λlv iv wr=>∃(k:Nat)(M:Int),k<=n/\iv=.I k/\lv=.I M/\0<=M/\M<=1048576/\Hid (M+n+S k=L)/\Bw v wr) (λ_ iv _=>n-(intOf iv).toNat)
 {exact⟨0,L0,gr _,rfl,rfl,af,af,(by show _=_;rw[z0];have:=ae EL;omega),cQ _ _⟩};{
 obtain⟨k,M,hk,rfl,rfl,hM,hM2,hs,hb⟩:=hrel;by_cases bf:k<n;{
 have bL:=aU k n;obtain⟨b,o,a,rfl,ha,H⟩:=ae xE _ (aj hw hb) k bf;have HA:=ag ha;clear ha
 first
  |obtain⟨v0,v1,v2,v3,v4,v5,v6,v7,c0,c1,c2,c3,c4,c5,c6,c7,hx⟩:=H
  |obtain⟨v0,v1,v2,c0,c1,c2,hx⟩:=H
  |obtain⟨v0,v1,c0,c1,hx⟩:=H
 go_wp2_with fail;refine qO (hx _ _ Zr hM hM2) ?_;rintro _ w2⟨⟨R,rfl,hR⟩,aK⟩;have b2:=aj hb aK;clear aK;rcases hR with rfl|⟨hR,Om⟩;{go_wp2;go_ret;exact .one (.inl rfl) b2};{
 have uf:¬R<0:=af;have hR4:R<=1048576:=af;have e2:Hid (R+n+S (k+1)=L):=by show _=_;have:=ae hs;have:=ae HA;omega
 clear Om;go_wp2;go_roundw;{exact⟨k+1,R,af,by go_num,rfl,hR,hR4,e2,b2⟩};{simp[intOf];omega}}};{have bL:=dB k n;have e:k=n:=af;subst e;go_wp2;go_ret;exact .one (.inr ⟨hM,aI (ae hs)⟩) hb}}}):p:=h
variable {K:Int}
def Pd(x1:xC 63 (.S p n c) n w):xC 182 (.agg #[.I K,.S p n c]) n w:=szW
def ac8(hn:n<=maxLen)(z0:S 0=0)(xE:Hid (∀u,Bw w u->∀k,k<n->∃b o a,p=some (Ad b o)/\S (k+1)=S k+a/\∃v0 v1,u.cell? (Ad b (o+k*2))=some v0/\u.cell? (Ad b (o+k*2+1))=some v1/\xC 182 (.agg #[v0,v1]) a w)):xC 128 (.S p n c) (n+S n) w:=szL
def TW(hn:n<=maxLen)(z0:S 0=0)(xE:Hid (∀u,Bw w u->∀k,k<n->∃b o a,p=some (Ad b o)/\S (k+1)=S k+a/\∃v0 v1 v2,u.cell? (Ad b (o+k*3))=some v0/\u.cell? (Ad b (o+k*3+1))=some v1/\u.cell? (Ad b (o+k*3+2))=some v2/\xC 64 (.agg #[v0,v1,v2]) a w)):xC 29 (.S p n c) (n+S n) w:=szL
def aF8(hn:n<=maxLen)(z0:S 0=0)(xE:Hid (∀u,Bw w u->∀k,k<n->∃b o a,p=some (Ad b o)/\S (k+1)=S k+a/\∃v0 v1 v2 v3 v4 v5 v6 v7,u.cell? (Ad b (o+k*8))=some v0/\u.cell? (Ad b (o+k*8+1))=some v1/\u.cell? (Ad b (o+k*8+2))=some v2/\u.cell? (Ad b (o+k*8+3))=some v3/\u.cell? (Ad b (o+k*8+4))=some v4/\u.cell? (Ad b (o+k*8+5))=some v5/\u.cell? (Ad b (o+k*8+6))=some v6/\u.cell? (Ad b (o+k*8+7))=some v7/\xC 65 (.agg #[v0,v1,v2,v3,v4,v5,v6,v7]) a w)):xC 30 (.S p n c) (n+S n) w:=szL
def IV(x1:xC 128 (.S p n c) N w):xC 64 (.agg #[.U I,.I D,.S p n c]) N w:=szW
def T9{s:OA}{e l f:Nat}{O M E G:Int}(x1:xC 63 (.S p n c) n w)(x2:xC 63 (.S q m d) m w)(x3:xC 129 (.S r k e) k w)(x4:xC 129 (.S s l f) l w):xC 65 (.agg #[.S p n c,.S q m d,.U O,.I M,.S r k e,.U E,.U G,.S s l f]) (n+m+k+l) w:=szW
def Pc{M:Nat}(x1:xC 29 (.S p n c) N w)(x2:xC 30 (.S q m d) M w):xC 12 (dZ e g x t (.S p n c) (.S q m d)) (N+M) w:=szW
variable {s:Int}
def uA(x1:xC 63 (.S p n c) n w):xC 28 (.agg #[.S p n c,.I s]) n w:=szW
def Ua{e:Nat}{u:Int}(x1:xC 28 (.agg #[.S p n c,.I s]) n w)(x2:xC 28 (.agg #[.S q m d,.I t]) m w)(x3:xC 28 (.agg #[.S r k e,.I u]) k w):xC 11 (dE (.S p n c) s (.S q m d) t (.S r k e) u) (n+m+k) w:=szW
def aG0(h:DS w v l)(hl:l.length<=maxLen)(he:∀y∈l,y.2.length<=maxLen):∃p c,v=.S p l.length c/\xC 128 (.S p l.length c) (l.length+gD (λe:Ev=>e.2.length) l) w:=by
 obtain⟨p,c,rfl,-⟩:=id h;have:=ac8 (p:=p) (c:=c) (S:=λk=>gD (λe:Ev=>e.2.length) (l.take k)) hl (Bo _ _) (ag λu hb k hk=>by
  have hy:=aY hk
  let⟨b,o,U,e,c0,c1,hr⟩:=(h.below hb).get hy
  obtain⟨pp,pc,m,rfl,em⟩:=hr.gF;have hm:=ae em;subst hm;exact⟨b,o,_,e,vy _ hy,_,_,c0,c1,Pd (vx (he _ (aT hy)))⟩)
 rw[rr]at this;exact⟨p,c,rfl,this⟩
def aF7{l:List aQ}(h:vk w v l)(hl:l.length<=maxLen)(he:∀y∈l,y.2.2.length<=maxLen/\∀e∈y.2.2,e.2.length<=maxLen):∃p c,v=.S p l.length c/\xC 29 (.S p l.length c) (l.length+gD FB l) w:=by
 obtain⟨p,c,rfl,-⟩:=id h;have:=TW (p:=p) (c:=c) (S:=λk=>gD FB (l.take k)) hl (Bo _ _) (ag λu hb k hk=>by
  have hy:=aY hk;have hm:=he _ (aT hy)
  let⟨b,o,U,e,c0,c1,c2,hr⟩:=h.get hy
  obtain⟨pp,pc,rfl,x⟩:=aG0 hr hm.1 hm.2;exact⟨b,o,_,e,vy _ hy,_,_,_,ah c0 hb,ah c1 hb,ah c2 hb,IV x⟩)
 rw[rr]at this;exact⟨p,c,rfl,this⟩
def aF9{l:List aD}(h:lM w v l)(hl:l.length<=maxLen)(he:∀y∈l,y.path.length<=maxLen/\y.value.length<=maxLen/\y.holders.length<=maxLen/\y.watchers.length<=maxLen):∃p c,v=.S p l.length c/\xC 30 (.S p l.length c) (l.length+gD FD l) w:=by
 obtain⟨p,c,rfl,-⟩:=id h;have:=aF8 (p:=p) (c:=c) (S:=λk=>gD FD (l.take k)) hl (Bo _ _) (ag λu hb k hk=>by
  have hy:=aY hk;have hm:=he _ (aT hy)
  let⟨b,o,e,hA⟩:=(h.below hb).at af
  let⟨P,V,H,U,hA⟩:=hA k _ hy
  obtain⟨pp,pc,pn,rfl,e1⟩:=hA.r0.gF;obtain⟨vp,vc,vn,rfl,e2⟩:=hA.r1.gF;obtain⟨hp,hc,hn,rfl,e3⟩:=hA.r4.gF;obtain⟨up,uc,un,rfl,e4⟩:=hA.r7.gF;have d1:=ae e1;have d2:=ae e2;have d3:=ae e3;have d4:=ae e4;subst d1 d2 d3 d4;exact⟨b,o,_,e,vy _ hy,_,_,_,_,_,_,_,_,hA.c0,hA.c1,hA.c2,hA.c3,hA.c4,hA.c5,hA.c6,hA.c7,T9 (vx hm.1) (vx hm.2.1) (Wm hm.2.2.1) (Wm hm.2.2.2)⟩)
 rw[rr]at this;exact⟨p,c,rfl,this⟩
def tt2{v:World}{a b:Obj}(hb:Below ((v.alloc a).alloc b).heap.size ((v.alloc a).alloc b) w):w.heap[v.heap.size]?=some a:=tt0 (aj (aA.alloc ay _) hb)
def IP(f:Nat)(V U:Value)(w:World):Prop:=∀v:World,Bw w v->Calls prog f #[V,U] v λr w'=>r=.returned (.bool true)/\Bw v w'
theorem eqW{p:Prop}(h:p:=by
  intro v hw
  go_in
  repeat(
   go_wp2_with fail
   first
    |(refine qO (x1 _ Zr) ?_;clear x1)
    |(refine qO (x2 _ Zr) ?_;clear x2)
    |(refine qO (x3 _ Zr) ?_;clear x3)
    |(refine qO (x4 _ Zr) ?_;clear x4)
   rintro _ _⟨rfl,hb⟩
   first
    |(have TA:=ag (tt1 TA hb);have TB:=ag (tt1 TB hb))
    |(have TA:=ag (tt2 hb);have TB:=ag (tt0 hb))
   have n0:=ao TA 0;have n1:=ao TA 1;have n2:=ao TA 2;have n3:=ao TA 3;have n4:=ao TA 4;have n5:=ao TA 5;have n6:=ao TA 6;have n7:=ao TA 7;have n8:=ao TA 8;have n9:=ao TA 9;have na:=ao TA 10;have nb:=ao TA 11;have nc:=ao TA 12;have m0:=ao TB 0;have m1:=ao TB 1;have m2:=ao TB 2;have m3:=ao TB 3;have m4:=ao TB 4;have m5:=ao TB 5;have m6:=ao TB 6;have m7:=ao TB 7;have m8:=ao TB 8;have m9:=ao TB 9;have ma:=ao TB 10;have mb:=ao TB 11;have mc:=ao TB 12;simp at n0 n1 n2 n3 n4 n5 n6 n7 n8 n9 na nb nc m0 m1 m2 m3 m4 m5 m6 m7 m8 m9 ma mb mc)
  go_wp2;go_ret;exact⟨rfl,Zr⟩):p:=h
def Nt(x1:IP 119 (.S p n c) (.S q n d) w):IP 54 (.agg #[.S p n c,.I s]) (.agg #[.S q n d,.I s]) w:=eqW
def aO6{p2 q0 q1 q2:OA}{c2 d0:Nat}{s0 s1 s2:Int}(x1:IP 54 (.agg #[.S p0 n0 c0,.I s0]) (.agg #[.S q0 n0 d0,.I s0]) w)(x2:IP 54 (.agg #[.S p1 n1 c1,.I s1]) (.agg #[.S q1 n1 d1,.I s1]) w)(x3:IP 54 (.agg #[.S p2 n2 c2,.I s2]) (.agg #[.S q2 n2 d2,.I s2]) w):IP 22 (dE (.S p0 n0 c0) s0 (.S p1 n1 c1) s1 (.S p2 n2 c2) s2) (dE (.S q0 n0 d0) s0 (.S q1 n1 d1) s1 (.S q2 n2 d2) s2) w:=eqW
def av5(x1:IP 119 (.S p n c) (.S q n d) w):IP 221 (.agg #[.I K,.S p n c]) (.agg #[.I K,.S q n d]) w:=eqW
def Vt(x1:IP 180 (.S p n c) (.S q n d) w):IP 120 (.agg #[.U I,.I D,.S p n c]) (.agg #[.U I,.I D,.S q n d]) w:=eqW
def aO5{ow mo ep ge:Int}(x1:IP 119 (.S pp n1 a1) (.S qp n1 d1) w)(x2:IP 119 (.S pv n2 a2) (.S qv n2 d2) w)(x3:IP 181 (.S ph n3 a3) (.S qh n3 d3) w)(x4:IP 181 (.S pu n4 a4) (.S qu n4 d4) w):IP 121 (Yt (.S pp n1 a1) (.S pv n2 a2) ow mo (.S ph n3 a3) ep ge (.S pu n4 a4)) (Yt (.S qp n1 d1) (.S qv n2 d2) ow mo (.S qh n3 d3) ep ge (.S qu n4 d4)) w:=eqW
def av3{p' q':OA}{c' d':Nat}(x1:IP 55 (.S p n c) (.S p' n c') w)(x2:IP 56 (.S q m d) (.S q' m d') w):IP 23 (dZ e g x t (.S p n c) (.S q m d)) (dZ e g x t (.S p' n c') (.S q' m d')) w:=eqW
def DM{l:LI}(en:Le l n)(h1:oK w (.S p n c) l)(h2:oK w (.S q n d) l)(hn:Mg n):Calls prog 181 #[.S p n c,.S q n d] w (Rb (.bool true) w):=by
 have HR:=ag λ(w':World)(hb:Bw w w')=>ai (h1.below hb) (h2.below hb);have bS:((n:Int) != (n:Int))=false:=al
 go_in
 go_wp2
 go_loopw[5](λi wr=>∃k:Nat,k<=n/\i=.I k/\Bw w wr) (λi _=>n-(intOf i).toNat)
 exact⟨0,gr _,rfl,cQ _ _⟩;{
 obtain⟨k,hk,rfl,aM⟩:=hrel;by_cases bf:k<n;{
 have i1:=aU k n;have dT:k<l.length:=ae en▸bf;have key:∀(p:OA)(c:Nat),oK wr (.S p n c) l->∃b o,p=some (Ad b o)/\wr.cell? (Ad b (o+k))=some (.U (l.getD k 0)):=λp c h=>by obtain⟨p',c',ev,hd⟩:=h;obtain⟨rfl,-,-⟩:=ir ev;rcases hd with h0|⟨b,o,h1,h2⟩;{rw[h0]at dT;simp at dT};{exact⟨b,o,h1,h2 k dT⟩}
 obtain⟨b1,o1,rfl,g1⟩:=key p c (ae HR _ aM).1;obtain⟨b2,o2,rfl,g2⟩:=key q d (ae HR _ aM).2
 let⟨y,ey⟩:=aL (l.getD k 0)
 rw[ey]at g1 g2;have hb:(y != y)=false:=al;go_wp2
 go_quiet (fail)
 go_wp2;go_roundw;exact⟨k+1,af,by go_num,below_drewN aM⟩;exact cg};{have dT:=dB k n;go_wp2;go_ret;exact⟨rfl,aM⟩}}
variable {P:LI}
def Y6(en:Le P n)(h1:Rd w (.S p n c) P)(h2:Rd w (.S q n d) P)(hn:Mg n):Cp 221 #[.agg #[.I K,.S p n c],.agg #[.I K,.S q n d]] w (Rb (.bool true) w):=
 av5 (λv hv=>vL en (h1.below hv) (h2.below hv) af) w aA
def Vu(en:Le l n)(h1:DS w (.S p n c) l)(h2:DS w (.S q n d) l)(hn:Mg n)(oz:Hid (∀y∈l,y.2.length<=1048576)):Calls prog 180 #[.S p n c,.S q n d] w (Rb (.bool true) w):=by
 have HR:=ag λ(w':World)(hb:Bw w w')=>ai (h1.below hb) (h2.below hb);have bS:((n:Int) != (n:Int))=false:=al
 go_in
 go_wp2_with fail
 go_loopw[5](λi wr=>∃k:Nat,k<=n/\i=.I k/\Bw w wr) (λi _=>n-(intOf i).toNat)
 exact⟨0,gr _,rfl,cQ _ _⟩;{
 obtain⟨k,hk,rfl,aM⟩:=hrel;by_cases bf:k<n;{
 have i1:=aU k n;have dT:k<l.length:=ae en▸bf
 let⟨y,hy⟩:=lE dT
 have gh:=ae oz y (aT hy);obtain⟨K,P⟩:=y;have key:∀(p:OA)(c:Nat),DS wr (.S p n c) l->∃b o,p=some (Ad b o)/\wr.cell? (Ad b (o+k*2))=some (.I K)/\∃u,wr.cell? (Ad b (o+k*2+1))=some u/\Rd wr u P:=λp c h=>by obtain⟨p',c',ev,hd⟩:=h;obtain⟨rfl,-,-⟩:=ir ev;rcases hd with h0|⟨b,o,h1,h2⟩;{rw[h0]at dT;simp at dT};{exact⟨b,o,h1,h2 k _ hy⟩}
 obtain⟨b1,o1,rfl,z1,u1,z2,r1⟩:=key p c (ae HR _ aM).1;obtain⟨b2,o2,rfl,x1,u2,x2,r2⟩:=key q d (ae HR _ aM).2;obtain⟨p1,c1,rfl,-⟩:=id r1;obtain⟨p2,c2,rfl,-⟩:=id r2
 let⟨m,em⟩:=aL P.length
 rw[em]at r1 r2 z2 x2;have hm:m<=1048576:=em▸gh;have EM:=ag em;have HRR:=ag (ai r1 r2);have K0:=ag (ai z1 (ai z2 (ai x1 x2)));go_wp2_with fail;refine du (λw'=>w'.cell? (Ad b1 (o1+k*2))=some (.I K)/\w'.cell? (Ad b1 (o1+k*2+1))=some (.S p1 m c1)/\w'.cell? (Ad b2 (o2+k*2))=some (.I K)/\w'.cell? (Ad b2 (o2+k*2+1))=some (.S p2 m c2)) (by exact K0) λhS=>?_;refine mj 0 1 2 3 4 5 6 7 hS ?_;refine cX 8 λKK hK=>?_;refine vU (Y6 EM (HRR.1.below aA.drew) (HRR.2.below aA.drew) hm) ?_;rintro r w2⟨rfl,aK⟩;refine⟨_,rfl,?_⟩;have bN:Bw wr w2:=aj (cQ wr.heap.size wr).drew aK;refine fh hK (by obtain⟨k0,k1,k2,k3⟩:=ae K0;exact⟨ah k0 bN,ah k1 bN,ah k2 bN,ah k3 bN⟩) λhS=>?_;refine tn 9 hS ?_;refine cY ?_;have b2:=aj aM bN;go_wp2;go_roundw;exact⟨k+1,af,by go_num,b2⟩;exact cg};{have dT:=dB k n;go_wp2;go_ret;exact⟨rfl,aM⟩}}
def RM{Q:List Ev}(en:Le Q n)(h1:DS w (.S p n c) Q)(h2:DS w (.S q n d) Q)(hn:Mg n)(oz:Hid (∀y∈Q,y.2.length<=1048576)):Cp 120 #[.agg #[.U I,.I D,.S p n c],.agg #[.U I,.I D,.S q n d]] w (Rb (.bool true) w):=
 Vt (λv hv=>Vu en (h1.below hv) (h2.below hv) hn oz) w aA
variable {l:List aQ}
def Ns(en:Le l n)(h1:vk w (.S p n c) l)(h2:vk w (.S q n d) l)(hn:Mg n)(oz:Hid (∀y∈l,y.2.2.length<=1048576/\∀e∈y.2.2,e.2.length<=1048576)):Calls prog 55 #[.S p n c,.S q n d] w (Rb (.bool true) w):=by
 have HR:=ag λ(w':World)(hb:Bw w w')=>ai (h1.below hb) (h2.below hb);have bS:((n:Int) != (n:Int))=false:=al
 go_in
 go_wp2_with fail
 go_loopw[5](λi wr=>∃k:Nat,k<=n/\i=.I k/\Bw w wr) (λi _=>n-(intOf i).toNat)
 exact⟨0,gr _,rfl,cQ _ _⟩;{
 obtain⟨k,hk,rfl,aM⟩:=hrel;by_cases bf:k<n;{
 have i1:=aU k n;have dT:k<l.length:=ae en▸bf
 let⟨y,hy⟩:=lE dT
 have gh:=ae oz y (aT hy);obtain⟨I,D,Q⟩:=y;have key:∀(p:OA)(c:Nat),vk wr (.S p n c) l->∃b o,p=some (Ad b o)/\wr.cell? (Ad b (o+k*3))=some (.U I)/\wr.cell? (Ad b (o+k*3+1))=some (.I D)/\∃u,wr.cell? (Ad b (o+k*3+2))=some u/\DS wr u Q:=λp c h=>by obtain⟨p',c',ev,hd⟩:=h;obtain⟨rfl,-,-⟩:=ir ev;rcases hd with h0|⟨b,o,h1,h2⟩;{rw[h0]at dT;simp at dT};{exact⟨b,o,h1,h2 k _ hy⟩}
 obtain⟨b1,o1,rfl,z1,z2,u1,z3,r1⟩:=key p c (ae HR _ aM).1;obtain⟨b2,o2,rfl,x1,x2,u2,x3,r2⟩:=key q d (ae HR _ aM).2;obtain⟨p1,c1,rfl,-⟩:=id r1;obtain⟨p2,c2,rfl,-⟩:=id r2
 let⟨m,em⟩:=aL Q.length
 rw[em]at r1 r2 z3 x3;have hm:m<=1048576:=em▸gh.1;have EM:=ag em;have HEL:Hid (∀y∈Q,y.2.length<=1048576):=gh.2;have HRR:=ag (ai r1 r2);have K0:=ag (ai z1 (ai z2 (ai z3 (ai x1 (ai x2 x3)))));go_wp2_with fail;refine du (λw'=>w'.cell? (Ad b1 (o1+k*3))=some (.U I)/\w'.cell? (Ad b1 (o1+k*3+1))=some (.I D)/\w'.cell? (Ad b1 (o1+k*3+2))=some (.S p1 m c1)/\w'.cell? (Ad b2 (o2+k*3))=some (.U I)/\w'.cell? (Ad b2 (o2+k*3+1))=some (.I D)/\w'.cell? (Ad b2 (o2+k*3+2))=some (.S p2 m c2)) (by exact K0) λhS=>?_;refine mj 0 1 2 3 4 5 6 7 hS ?_;refine cX 8 λKK hK=>?_;refine vU (RM EM (HRR.1.below aA.drew) (HRR.2.below aA.drew) hm HEL) ?_;rintro r w2⟨rfl,aK⟩;refine⟨_,rfl,?_⟩;have bN:Bw wr w2:=aj (cQ wr.heap.size wr).drew aK;refine fh hK (by obtain⟨k0,k1,k2,k3,k4,k5⟩:=ae K0;exact⟨ah k0 bN,ah k1 bN,ah k2 bN,ah k3 bN,ah k4 bN,ah k5 bN⟩) λhS=>?_;refine tn 9 hS ?_;refine cY ?_;have b2:=aj aM bN;go_wp2;go_roundw;exact⟨k+1,af,by go_num,b2⟩;exact cg};{have dT:=dB k n;go_wp2;go_ret;exact⟨rfl,aM⟩}}
def av4{ow mo ep ge:Int}{P V H U:LI}(e1:Le P n1)(e2:Le V n2)(e3:Le H n3)(e4:Le U n4) (h1:Rd w (.S pp n1 a1) P/\Rd w (.S pv n2 a2) V/\oK w (.S ph n3 a3) H/\oK w (.S pu n4 a4) U)(h2:Rd w (.S qp n1 d1) P/\Rd w (.S qv n2 d2) V/\oK w (.S qh n3 d3) H/\oK w (.S qu n4 d4) U)(m1:Mg n1)(m2:Mg n2)(m3:Mg n3)(m4:Mg n4):Cp 121 #[Yt (.S pp n1 a1) (.S pv n2 a2) ow mo (.S ph n3 a3) ep ge (.S pu n4 a4),Yt (.S qp n1 d1) (.S qv n2 d2) ow mo (.S qh n3 d3) ep ge (.S qu n4 d4)] w (Rb (.bool true) w):=
 aO5 (λv hv=>vL e1 (h1.1.below hv) (h2.1.below hv) af) (λv hv=>vL e2 (h1.2.1.below hv) (h2.2.1.below hv) af) (λv hv=>DM e3 (h1.2.2.1.below hv) (h2.2.2.1.below hv) m3) (λv hv=>DM e4 (h1.2.2.2.below hv) (h2.2.2.2.below hv) m4) w aA
variable {l:List aD}
def Y5(en:Le l n)(h1:lM w (.S p n c) l)(h2:lM w (.S q n d) l)(hn:Mg n)(oz:Hid (∀y∈l,y.path.length<=1048576/\y.value.length<=1048576/\y.holders.length<=1048576/\y.watchers.length<=1048576)):Calls prog 56 #[.S p n c,.S q n d] w (Rb (.bool true) w):=by
 have HR:=ag λ(w':World)(hb:Bw w w')=>ai (h1.below hb) (h2.below hb);have bS:((n:Int) != (n:Int))=false:=al
 go_in
 go_wp2_with fail
 go_loopw[5](λi wr=>∃k:Nat,k<=n/\i=.I k/\Bw w wr) (λi _=>n-(intOf i).toNat)
 exact⟨0,gr _,rfl,cQ _ _⟩;{
 obtain⟨k,hk,rfl,aM⟩:=hrel;by_cases bf:k<n;{
 have i1:=aU k n;have dT:k<l.length:=ae en▸bf
 let⟨y,hy⟩:=lE dT
 have gh:=ae oz y (aT hy);obtain⟨b1,o1,rfl,hA⟩:=(ae HR _ aM).1.at af;obtain⟨b2,o2,rfl,hB⟩:=(ae HR _ aM).2.at af
 let⟨P1,V1,H1,U1,na⟩:=hA k y hy
 let⟨P2,V2,H2,U2,nb⟩:=hB k y hy
 obtain⟨pp,a1,n1,rfl,e1⟩:=na.r0.gF;obtain⟨pv,a2,n2,rfl,e2⟩:=na.r1.gF;obtain⟨ph,a3,n3,rfl,e3⟩:=na.r4.gF;obtain⟨pu,a4,n4,rfl,e4⟩:=na.r7.gF;obtain⟨qp,d1,n1',rfl,e1'⟩:=nb.r0.gF;obtain⟨qv,d2,n2',rfl,e2'⟩:=nb.r1.gF;obtain⟨qh,d3,n3',rfl,e3'⟩:=nb.r4.gF;obtain⟨qu,d4,n4',rfl,e4'⟩:=nb.r7.gF;obtain rfl:n1=n1':=e1.symm.trans e1';obtain rfl:n2=n2':=e2.symm.trans e2';obtain rfl:n3=n3':=e3.symm.trans e3';obtain rfl:n4=n4':=e4.symm.trans e4';have m1:n1<=1048576:=ae e1▸gh.1;have m2:n2<=1048576:=ae e2▸gh.2.1;have m3:n3<=1048576:=ae e3▸gh.2.2.1;have m4:n4<=1048576:=ae e4▸gh.2.2.2;have HA:=ag (ai na.r0 (ai na.r1 (ai na.r4 na.r7)));have HB:=ag (ai nb.r0 (ai nb.r1 (ai nb.r4 nb.r7)));obtain⟨z0,z1,z2,z3,z4,z5,z6,z7,-,-,-,-,-⟩:=na;obtain⟨x0,x1,x2,x3,x4,x5,x6,x7,-,-,-,-,-⟩:=nb;obtain⟨ow,mo,ep,ge,g1,g2,g3,g4⟩:∃a b c d,y.owner=a/\y.mode=b/\y.aE=c/\y.gen=d:=⟨_,_,_,_,rfl,rfl,rfl,rfl⟩;rw[g1]at z2 x2;rw[g2]at z3 x3;rw[g3]at z5 x5;rw[g4]at z6 x6;have K0:=ag (ai z0 (ai z1 (ai z2 (ai z3 (ai z4 (ai z5 (ai z6 (ai z7 (ai x0 (ai x1 (ai x2 (ai x3 (ai x4 (ai x5 (ai x6 x7)))))))))))))));go_wp2_with fail;refine du (λw'=>w'.cell? (Ad b1 (o1+k*8))=some (.S pp n1 a1)/\w'.cell? (Ad b1 (o1+k*8+1))=some (.S pv n2 a2)/\w'.cell? (Ad b1 (o1+k*8+2))=some (.U ow)/\w'.cell? (Ad b1 (o1+k*8+3))=some (.I mo)/\w'.cell? (Ad b1 (o1+k*8+4))=some (.S ph n3 a3)/\w'.cell? (Ad b1 (o1+k*8+5))=some (.U ep)/\w'.cell? (Ad b1 (o1+k*8+6))=some (.U ge)/\w'.cell? (Ad b1 (o1+k*8+7))=some (.S pu n4 a4)/\w'.cell? (Ad b2 (o2+k*8))=some (.S qp n1 d1)/\w'.cell? (Ad b2 (o2+k*8+1))=some (.S qv n2 d2)/\w'.cell? (Ad b2 (o2+k*8+2))=some (.U ow)/\w'.cell? (Ad b2 (o2+k*8+3))=some (.I mo)/\w'.cell? (Ad b2 (o2+k*8+4))=some (.S qh n3 d3)/\w'.cell? (Ad b2 (o2+k*8+5))=some (.U ep)/\w'.cell? (Ad b2 (o2+k*8+6))=some (.U ge)/\w'.cell? (Ad b2 (o2+k*8+7))=some (.S qu n4 d4)) (by exact K0) λhS=>?_;refine mj 0 1 2 3 4 5 6 7 hS ?_;refine cX 8 λKK hK=>?_;refine vU (av4 e1 e2 e3 e4 ⟨HA.1.below aA.drew,HA.2.1.below aA.drew,HA.2.2.1.below aA.drew,HA.2.2.2.below aA.drew⟩ ⟨HB.1.below aA.drew,HB.2.1.below aA.drew,HB.2.2.1.below aA.drew,HB.2.2.2.below aA.drew⟩ m1 m2 m3 m4) ?_;rintro r w2⟨rfl,aK⟩;refine⟨_,rfl,?_⟩;have bN:Bw wr w2:=aj (cQ wr.heap.size wr).drew aK;refine fh hK (by obtain⟨k0,k1,k2,k3,k4,k5,k6,k7,k8,k9,k10,k11,k12,k13,k14,k15⟩:=ae K0;exact⟨ah k0 bN,ah k1 bN,ah k2 bN,ah k3 bN,ah k4 bN,ah k5 bN,ah k6 bN,ah k7 bN,ah k8 bN,ah k9 bN,ah k10 bN,ah k11 bN,ah k12 bN,ah k13 bN,ah k14 bN,ah k15 bN⟩) λhS=>?_;refine tn 9 hS ?_;refine cY ?_;have b2:=aj aM bN;go_wp2;go_roundw;exact⟨k+1,af,by go_num,b2⟩;exact cg};{have dT:=dB k n;go_wp2;go_ret;exact⟨rfl,aM⟩}}
def YX(e g x t:Int)(p q p' q':OA)(c n d m c' d':Nat)(ss:List aQ)(ns:List aD)(en:Le ss n)(em:Le ns m)(w:World)(h:vk w (.S p n c) ss)(hN:lM w (.S q m d) ns)(h':vk w (.S p' n c') ss)(Nh:lM w (.S q' m d') ns)(hn:Mg n)(hm:Mg m)(he1:Hid (∀y∈ss,y.2.2.length<=1048576/\∀e∈y.2.2,e.2.length<=1048576))(he2:Hid (∀y∈ns,y.path.length<=1048576/\y.value.length<=1048576/\y.holders.length<=1048576/\y.watchers.length<=1048576)):Cp 23 #[dZ e g x t (.S p n c) (.S q m d),dZ e g x t (.S p' n c') (.S q' m d')] w (Rb (.bool true) w):=
 av3 (λv hv=>Ns en (h.below hv) (h'.below hv) hn he1) (λv hv=>Y5 em (hN.below hv) (Nh.below hv) hm he2) w aA
def VW(en:Le ss n)(em:Le ns m){S F E G:Int}{np cp:Nat}{nv cv:Nat}{V:LI}(eP:Le P np)(eV:Le V nv)(hS:Hid (kq B w (.S p n c) ss Qs))(hN:Hid (AI B w (.S q m d) ns))(hP:Hid (Rd w (.S pp np cp) P))(hV:Hid (Rd w (.S pq nv cv) V))(hB:B<=w.heap.size)(hn:Mg n)(hm:Mg m)(hp:np<=1048576)(hv:nv<=1048576)(jt:np<=cp)(ku:cp<=maxLen)(hW:Hid (WF ⟨e,g,x,t,ss,ns⟩))(bP:Hid (aN P)){R:SD×RP}(hj:Hid (K=1\/K=3\/K=4\/K=5\/K=7\/K=8\/K=9))(eR:Hid (fx ⟨e,g,x,t,ss,ns⟩ K S F E G P V=R)):Calls prog 144 #[dZ e g x t (.S p n c) (.S q m d),IE K S (.S pp np cp) F (.S pq nv cv) E G] w λr w'=>QR B w w' r R.1 R.2:=by
 let⟨W0,fL,b0,z0,C0⟩:=jB w (.U e) (.U g) (.U x) (.I t) (.S p n c) (.S q m d)
 obtain⟨W1,mg,b1,z1,C1,-⟩:=au W0 #[.I K,.U S,.S pp np cp,.I F,.S pq nv cv,.U E,.U G] 121
 let⟨W2,mu,b2,z2,C2⟩:=sr W1
 let⟨W3,we,b3,z3,C3⟩:=rE W2 (.I 0) (.U 0) (.U 0) (.U 0) (.I 0) aS aS aS
 rw[z0]at C1 z1;rw[z1]at C2 z2;rw[z2]at C3 z3;have LQ:QB W3 w.heap.size _ _ _ _:=⟨((C0.below b1).below b2).below b3,(C1.below af b2).below af b3,C2.below b3,C3⟩;have bW:=aj (aj (aj b0 b1) b2) b3;have HA:=ag (λ(v:World)(hv:Bw W3 v)=>ai (QB.keep LQ (λj h1 h2=>hv.block j af)) (ai (hS.fr (aO (aj bW hv))) (ai (gq.fr (ae hN) (aO (aj bW hv))) (ai (hP.below (aj bW hv)) (ai (hV.below (aj bW hv)) (aj bW hv))))));have gh:=ag (ai (ae bP) (λnd bu=>(hW.pb nd bu).2.1));have hR:=ae eR;unfold fx at hR;rw[ae eP,ae eV]at hR;have HR:=ag hR
 let⟨fb,efb⟩:=bG (fmI K S F np nv E G)
 go_in
 go_wp2_with fail;rw[<-fL,<-mg,<-mu,<-we];refine(au4 efb).mono ?_;rintro r w1⟨rfl,aG⟩;have B1:=ag aG;have z1':=aG.size;have e9:=ae HR;rw[ae efb]at e9;cases fb;{rw[bO rfl]at e9;have E9:=ag e9;go_wp2_with fail;obtain⟨LW,SW,NW,-,-,BW⟩:=ae HA w1 B1;exact rq 2 4 5 13 14 2 results144 LW.1 LW.2.2.1 LW.2.2.2 en em SW NW (Fr.below BW) (BW.mono hB) hB E9};rw[bH al]at e9;obtain⟨LC,-,-,-,-,-⟩:=ae HA w1 B1;have o0:=LC.2.1.1 0 _ rfl;have o1:=LC.2.1.1 1 _ rfl;have o2:=LC.2.1.1 2 _ rfl;have o3:=LC.2.1.1 3 _ rfl;have o4:=LC.2.1.1 4 _ rfl;have o5:=LC.2.1.1 5 _ rfl;have o6:=LC.2.1.1 6 _ rfl
 let⟨k0,k1,k2,k3,k4,k5,kf⟩:=LC.1.cells
 by_cases Xt:K=1;{
 rw[bO Xt]at e9;have cI3:(K==1)=true:=by simp[Xt]
 have E9:=ag e9;go_wp2_with fail;obtain⟨-,S1,N1,-,-,bw1⟩:=ae HA w1 B1;refine(ag8 en em (ag S1) (ag N1) (aI bw1.size) hn hW.x hW.t).mono ?_;rw[ae E9];rintro r w9⟨p',c',q',d',Dv,Nv,Ev,Wc,rfl,IJ,DG,tD,tN,tE,hF,rI⟩;obtain⟨LW,-,-,-,-,bw9⟩:=ae HA w1 B1;have rF:=ag (TX.fr (show TX w1 w.heap.size _ _ _ from⟨LW.1,LW.2.2.1,LW.2.2.2⟩) hF bj);have HQ:=ag (show QR B w1 w9 _ R.1 R.2 from⟨p',c',q',d',Dv,Nv,Ev,Wc,rfl,IJ,DG,tD,tN,tE,hF,rI⟩);obtain⟨dp,dc,rfl⟩:=tD.gF;obtain⟨xp,xc,rfl,-⟩:=RT.form tN;obtain⟨yp,yc,rfl,-⟩:=RT.form tE;have BW9:=ag bw9
 let⟨k0,k1,k2,k3,k4,k5,kf⟩:=rF.1.cells
 let⟨q0,q1,q2,q3,q4,q5,qf⟩:=rF.2.1.cells
 let⟨r0,r1,r2,r3,r4,r5,r6,r7,rf⟩:=rF.2.2.cells
 go_wp2
 let⟨fF,bF⟩:=TX.fin rF (.U R.1.e) (.U R.1.g) (.U R.1.x) (.I R.1.t) (.S p' R.1.ss.length c') (.S q' R.1.ns.length d') (.I R.2.k) (.U R.2.i) (.U R.2.e) (.U R.2.g) (.I R.2.n) (.S dp R.2.Oy.length dc) (.S xp R.2.nms.length xc) (.S yp R.2.Np.length yc)
 refine dJ (v:=.tuple #[dZ R.1.e R.1.g R.1.x R.1.t (.S p' R.1.ss.length c') (.S q' R.1.ns.length d'),yC R.2.k R.2.i R.2.e R.2.g R.2.n (.S dp R.2.Oy.length dc) (.S xp R.2.nms.length xc) (.S yp R.2.Np.length yc)]) (by simp[results,results144,go_sem,q0,q1,q2,q3,q4,q5,r0,r1,r2,r3,r4,r5,r6,r7]) rfl ?_;exact QR.low HQ (Fr.below BW9) (BW9.mono hB) fF bF hB};rw[bH Xt]at e9;have JK1:=ag Xt;have cI3:(K==1)=false:=by simp[Xt]
 have E8:=ag e9;go_wp2_with fail;refine(Uq en (ag (ae HA w1 B1).2.1) hn).mono ?_;rintro r w2⟨rfl,aK⟩;have B2:=ag (aj B1 aK)
 let⟨ix,eix⟩:=bG (xM ss S)
 let⟨T,eT⟩:=bG (ZO K&&decide (ix<0))
 have e9:=ae E8;rw[ae eix,ae eT]at e9;rw[ae eix];have E7:=ag e9;have z2':=B2.size;obtain⟨LC,-,-,-,-,-⟩:=ae HA w2 B2;have o0:=LC.2.1.1 0 _ rfl;have o1:=LC.2.1.1 1 _ rfl;have o2:=LC.2.1.1 2 _ rfl;have o3:=LC.2.1.1 3 _ rfl;have o4:=LC.2.1.1 4 _ rfl;have o5:=LC.2.1.1 5 _ rfl;have o6:=LC.2.1.1 6 _ rfl
 let⟨k0,k1,k2,k3,k4,k5,kf⟩:=LC.1.cells
 go_upto_region 6 with fail
 go_cut[32](λrv wc=>rv=.bool T/\w2=wc)
 case first=>(
 go_wp2_with fail;refine(bg7).mono ?_;rintro r w3⟨rfl,rfl⟩
 let⟨hs,ehs⟩:=aL (ZO K)
 have h9:=ae eT;rw[ehs]at h9⊢;cases hs;{have Za:T=false:=h9.symm;subst Za;go_wp2_with fail;go_meet;exact⟨rfl,rfl⟩};{
 by_cases hx:ix<0;{
 have Za:T=true:=by rw[<-h9];simp[hx]
 subst Za;go_wp2_with fail;go_meet
 first|exact⟨rfl,rfl⟩|exact⟨by simp[hx],rfl⟩}
 {
 have Za:T=false:=by rw[<-h9];simp[hx]
 subst Za;go_wp2_with fail;go_meet
 first|exact⟨rfl,rfl⟩|exact⟨by simp[hx],rfl⟩}})
 case rest=>(
 obtain⟨rfl,rfl⟩:=hcut;have e9:=ae E7;cases T;rotate_left;{rw[bO rfl]at e9;have E9:=ag e9;go_wp2_with fail;obtain⟨LW,SW,NW,-,-,BW⟩:=ae HA w2 B2;exact rq 2 4 5 33 34 3 results144 LW.1 LW.2.2.1 LW.2.2.2 en em SW NW (Fr.below BW) (BW.mono hB) hB E9};rw[bH al]at e9;have tw:IntKind.i64.wrap (t+10)=t+10:=kU _ (by have:=hW.t;simp only at this;omega);by_cases hK2:K=2;{have h9:=ae hj;omega};rw[bH hK2]at e9;have dY4:(K==2)=false:=by simp[hK2]
 by_cases Z9:K=3;{
 have cI2:(K==3)=true:=by simp[Z9]
 rw[bO Z9]at e9
 let⟨D,eD⟩:=bG (jA ⟨e,g,x,t,ss,ns⟩ S)
 have bI3:=VI (D:=⟨e,g,x,t,ss,ns⟩) (id:=S);rw[ae eD]at e9 bI3;have HD:=ag (ai e9 bI3);go_wp2_with fail;obtain⟨L2,S2,N2,-,-,bw2⟩:=ae HA w2 B2;have TX2:=ag (show TX w2 w.heap.size _ _ _ from⟨L2.1,L2.2.2.1,L2.2.2.2⟩);have BW2:=ag bw2;refine(Zl en em (ag S2) (ag N2) (ag hW.nb) (aI bw2.size) hn hm eD).mono ?_;rintro r w3⟨p',c',q',d',rfl,⟨Q3,hS3⟩,JA,Ht,Jz⟩;have rF:=ag (TX.fr TX2 Ht bj)
 let⟨k0,k1,k2,k3,k4,k5,kf⟩:=rF.1.cells
 let⟨q0,q1,q2,q3,q4,q5,qf⟩:=rF.2.1.cells
 let⟨r0,r1,r2,r3,r4,r5,r6,r7,rf⟩:=rF.2.2.cells
 have HY:=ag (ai hS3 (ai JA (ai ((Fr.below (ae BW2)).trans Ht) ((BW2.mono hB).trans Jz))));go_wp2
 let⟨fF,bF⟩:=TX.fin rF (.U e) (.U g) (.U x) (.I t) (.S p' D.ss.length c') (.S q' D.ns.length d') (.I 0) (.U 0) (.U 0) (.U 0) (.I 0) aS aS aS
 refine dJ (v:=.tuple #[dZ e g x t (.S p' D.ss.length c') (.S q' D.ns.length d'),yC 0 0 0 0 0 aS aS aS]) (by simp[results,results144,go_sem,q0,q1,q2,q3,q4,q5,r0,r1,r2,r3,r4,r5,r6,r7]) rfl ?_;rw[<-HD.1];have hQ:=QR.num (e:=e) (g:=g) (x:=x) (t:=t) (ss:=D.ss) (ns:=D.ns) (ag rfl) (ag rfl) HY.1 HY.2.1 HY.2.2.1 HY.2.2.2 fF bF hB 0 0 0 0 0;have eq:(⟨e,g,x,t,D.ss,D.ns⟩:SD)=D:=by obtain⟨h1,h2,h3,h4⟩:D.e=e/\D.g=g/\D.x=x/\D.t=t:=HD.2;rw[<-h1,<-h2,<-h3,<-h4]
 rw[eq]at hQ;exact hQ};rw[bH Z9]at e9;have JK3:=ag Z9;have cI2:(K==3)=false:=by simp[Z9]
 by_cases bO9:K=12;{have h9:=ae hj;omega};rw[bH bO9]at e9;have dm6:(K==12)=false:=by simp[bO9]
 let⟨rt,ert⟩:=bG (rR K P)
 unfold yX at e9;rw[ae ert]at e9;have E8:=ag e9
 go_upto_region 18 with fail
 go_cut[8](λrv wc=>rv=.bool rt/\Hid (Bw W3 wc))
 case first=>(
 by_cases YR:K=13;{have h9:=ae hj;omega};{
 have bO8:(K==13)=false:=by simp[YR]
 have KI:rt=false:=by rw[<-ae ert,rR];simp[YR]
 subst KI;go_wp2_with fail;go_meet;exact⟨rfl,B2⟩})
 case rest=>(
 obtain⟨w3,rfl⟩:=aB wc;obtain⟨rfl,B3⟩:=hcut;obtain⟨LC,-,-,-,-,-⟩:=ae HA w3 B3;have o0:=LC.2.1.1 0 _ rfl;have o1:=LC.2.1.1 1 _ rfl;have o2:=LC.2.1.1 2 _ rfl;have o3:=LC.2.1.1 3 _ rfl;have o4:=LC.2.1.1 4 _ rfl;have o5:=LC.2.1.1 5 _ rfl;have o6:=LC.2.1.1 6 _ rfl
 let⟨k0,k1,k2,k3,k4,k5,kf⟩:=LC.1.cells
 let⟨T2,eT2⟩:=bG (!rt&&!vp P)
 have z3':=B3.size
 go_upto_region 19 with fail
 go_cut[106](λrv wc=>rv=.bool T2/\Hid (Bw W3 wc))
 case first=>(
 cases rt;{
 go_wp2_with fail
 let⟨vb,evb⟩:=bG (vp P)
 refine(FN eP (ae HA w3 B3).2.2.2.1 bP hp evb).mono ?_;rintro r w4⟨rfl,fy⟩;have h9:=ae eT2;rw[ae evb]at h9;have B4:=ag (aj B3 fy);cases vb;{have h8:T2=true:=h9.symm;subst h8;go_wp2_with fail;go_meet;exact⟨rfl,B4⟩};{have h8:T2=false:=h9.symm;subst h8;go_wp2_with fail;go_meet;exact⟨rfl,B4⟩}};{have h8:T2=false:=eT2.symm;subst h8;go_wp2_with fail;go_meet;exact⟨rfl,B3⟩})
 case rest=>(
 obtain⟨w4,rfl⟩:=aB wc;obtain⟨rfl,B4⟩:=hcut;have z4':=B4.size;have e9:=ae E8;rw[ae eT2]at e9;cases T2;rotate_left;{rw[bO rfl]at e9;have E9:=ag e9;go_wp2_with fail;obtain⟨LW,SW,NW,-,-,BW⟩:=ae HA w4 B4;exact rq 2 4 5 107 108 4 results144 LW.1 LW.2.2.1 LW.2.2.2 en em SW NW (Fr.below BW) (BW.mono hB) hB E9};rw[bH al]at e9;obtain⟨LC,-,-,-,-,-⟩:=ae HA w4 B4;have o0:=LC.2.1.1 0 _ rfl;have o1:=LC.2.1.1 1 _ rfl;have o2:=LC.2.1.1 2 _ rfl;have o3:=LC.2.1.1 3 _ rfl;have o4:=LC.2.1.1 4 _ rfl;have o5:=LC.2.1.1 5 _ rfl;have o6:=LC.2.1.1 6 _ rfl
 let⟨k0,k1,k2,k3,k4,k5,kf⟩:=LC.1.cells
 by_cases hK4:K=4;{
 have cI1:(K==4)=true:=by simp[hK4]
 rw[bO hK4]at e9;have E9:=ag e9;go_wp2_with fail;obtain⟨-,S4,N4,P4,V4,bw4⟩:=ae HA w4 B4;refine(VB en em eP eV (ag S4) (ag N4) (ag P4) (ag V4) (aI bw4.size) hm hp hv jt ku gh E9).mono ?_;rintro r w9⟨p',c',q',d',Dv,Nv,Ev,Wc,rfl,IJ,DG,tD,tN,tE,hF,rI⟩;obtain⟨LW,-,-,-,-,bw9⟩:=ae HA w4 B4;have rF:=ag (TX.fr (show TX w4 w.heap.size _ _ _ from⟨LW.1,LW.2.2.1,LW.2.2.2⟩) hF bj);have HQ:=ag (show QR B w4 w9 _ R.1 R.2 from⟨p',c',q',d',Dv,Nv,Ev,Wc,rfl,IJ,DG,tD,tN,tE,hF,rI⟩);obtain⟨dp,dc,rfl⟩:=tD.gF;obtain⟨xp,xc,rfl,-⟩:=RT.form tN;obtain⟨yp,yc,rfl,-⟩:=RT.form tE;have BW9:=ag bw9
 let⟨k0,k1,k2,k3,k4,k5,kf⟩:=rF.1.cells
 let⟨q0,q1,q2,q3,q4,q5,qf⟩:=rF.2.1.cells
 let⟨r0,r1,r2,r3,r4,r5,r6,r7,rf⟩:=rF.2.2.cells
 go_wp2
 let⟨fF,bF⟩:=TX.fin rF (.U R.1.e) (.U R.1.g) (.U R.1.x) (.I R.1.t) (.S p' R.1.ss.length c') (.S q' R.1.ns.length d') (.I R.2.k) (.U R.2.i) (.U R.2.e) (.U R.2.g) (.I R.2.n) (.S dp R.2.Oy.length dc) (.S xp R.2.nms.length xc) (.S yp R.2.Np.length yc)
 refine dJ (v:=.tuple #[dZ R.1.e R.1.g R.1.x R.1.t (.S p' R.1.ss.length c') (.S q' R.1.ns.length d'),yC R.2.k R.2.i R.2.e R.2.g R.2.n (.S dp R.2.Oy.length dc) (.S xp R.2.nms.length xc) (.S yp R.2.Np.length yc)]) (by simp[results,results144,go_sem,q0,q1,q2,q3,q4,q5,r0,r1,r2,r3,r4,r5,r6,r7]) rfl ?_;exact QR.low HQ (Fr.below BW9) (BW9.mono hB) fF bF hB};rw[bH hK4]at e9;have JK4:=ag hK4;have cI1:(K==4)=false:=by simp[hK4]
 by_cases bP0:K=10;{have h9:=ae hj;omega};rw[bH bP0]at e9;have dm7:(K==10)=false:=by simp[bP0]
 let⟨jx,ejx⟩:=bG (Th ns P)
 simp only[ae ejx]at e9;have E7:=ag e9;go_wp2_with fail;refine(UJ em eP (gq.rdn (ae HA w4 B4).2.2.1) (ae HA w4 B4).2.2.2.1 hm af gh hW.pd).mono ?_;rintro r w5⟨rfl,fT⟩;rw[ae ejx];have B5:=ag (aj B4 fT);have z5':=B5.size
 let⟨T3,eT3⟩:=bG (!rt&&decide (jx<0))
 go_upto_region 26 with fail
 go_cut[133](λrv wc=>rv=.bool T3/\w5=wc)
 case first=>(
 have h9:=ae eT3;cases rt;{
 by_cases hx:jx<0;{
 have h8:T3=true:=by rw[<-h9];simp[hx]
 subst h8;go_wp2_with fail;go_meet
 first|exact⟨rfl,rfl⟩|exact⟨by simp[hx],rfl⟩}
 {
 have h8:T3=false:=by rw[<-h9];simp[hx]
 subst h8;go_wp2_with fail;go_meet
 first|exact⟨rfl,rfl⟩|exact⟨by simp[hx],rfl⟩}}
 {have h8:T3=false:=h9.symm;subst h8;go_wp2_with fail;go_meet;exact⟨rfl,rfl⟩})
 case rest=>(
 obtain⟨rfl,rfl⟩:=hcut;have e9:=ae E7;rw[ae eT3]at e9;cases T3;rotate_left;{rw[bO rfl]at e9;have E9:=ag e9;go_wp2_with fail;obtain⟨LW,SW,NW,-,-,BW⟩:=ae HA w5 B5;exact rq 2 4 5 134 135 5 results144 LW.1 LW.2.2.1 LW.2.2.2 en em SW NW (Fr.below BW) (BW.mono hB) hB E9};rw[bH al]at e9;obtain⟨LC,-,-,-,-,-⟩:=ae HA w5 B5;have o0:=LC.2.1.1 0 _ rfl;have o1:=LC.2.1.1 1 _ rfl;have o2:=LC.2.1.1 2 _ rfl;have o3:=LC.2.1.1 3 _ rfl;have o4:=LC.2.1.1 4 _ rfl;have o5:=LC.2.1.1 5 _ rfl;have o6:=LC.2.1.1 6 _ rfl
 let⟨k0,k1,k2,k3,k4,k5,kf⟩:=LC.1.cells
 by_cases YR:K=13;{have h9:=ae hj;omega};{
 have bO8:(K==13)=false:=by simp[YR]
 rw[bH YR]at e9;have KI:rt=false:=by rw[<-ae ert,rR];simp[YR]
 have hx:¬jx<0:=λhx=>by have h:=ae eT3;rw[KI]at h;simp[hx]at h
 let⟨k,nd,ek,hk⟩:=aJ3 (ns:=ns) (P:=P) (ae ejx▸hx)
 rw[ae ejx]at ek;subst ek;rw[sS]at e9;have E9:=ag e9;have iV:=aT hk;have HK:=ag hk;go_wp2_with fail;obtain⟨-,S5,N5,-,V5,bw5⟩:=ae HA w5 B5;refine(UI en em HK eV (ag S5) (ag N5) (ag V5) (aI bw5.size) hn hm (ag (hW.nb nd iV)) (ag (hW.vl nd iV)) hv (ag hW.pb) hW.g (ag (hW.ex nd iV)) (ag (by have:=ae hj;have:=ae JK1;have:=ae JK3;have:=ae JK4;omega)) E9).mono ?_;rintro r w9⟨p',c',q',d',Dv,Nv,Ev,Wc,rfl,IJ,DG,tD,tN,tE,hF,rI⟩;obtain⟨LW,-,-,-,-,bw9⟩:=ae HA w5 B5;have rF:=ag (TX.fr (show TX w5 w.heap.size _ _ _ from⟨LW.1,LW.2.2.1,LW.2.2.2⟩) hF bj);have HQ:=ag (show QR B w5 w9 _ R.1 R.2 from⟨p',c',q',d',Dv,Nv,Ev,Wc,rfl,IJ,DG,tD,tN,tE,hF,rI⟩);obtain⟨dp,dc,rfl⟩:=tD.gF;obtain⟨xp,xc,rfl,-⟩:=RT.form tN;obtain⟨yp,yc,rfl,-⟩:=RT.form tE;have BW9:=ag bw9
 let⟨k0,k1,k2,k3,k4,k5,kf⟩:=rF.1.cells
 let⟨q0,q1,q2,q3,q4,q5,qf⟩:=rF.2.1.cells
 let⟨r0,r1,r2,r3,r4,r5,r6,r7,rf⟩:=rF.2.2.cells
 go_wp2
 let⟨fF,bF⟩:=TX.fin rF (.U R.1.e) (.U R.1.g) (.U R.1.x) (.I R.1.t) (.S p' R.1.ss.length c') (.S q' R.1.ns.length d') (.I R.2.k) (.U R.2.i) (.U R.2.e) (.U R.2.g) (.I R.2.n) (.S dp R.2.Oy.length dc) (.S xp R.2.nms.length xc) (.S yp R.2.Np.length yc)
 refine dJ (v:=.tuple #[dZ R.1.e R.1.g R.1.x R.1.t (.S p' R.1.ss.length c') (.S q' R.1.ns.length d'),yC R.2.k R.2.i R.2.e R.2.g R.2.n (.S dp R.2.Oy.length dc) (.S xp R.2.nms.length xc) (.S yp R.2.Np.length yc)]) (by simp[results,results144,go_sem,q0,q1,q2,q3,q4,q5,r0,r1,r2,r3,r4,r5,r6,r7]) rfl ?_;exact QR.low HQ (Fr.below BW9) (BW9.mono hB) fF bF hB}))))
def kq.ge{g:Nat}(h:kq B w (.T g n c) ss Qs):B<=g:=(h.row.lt g rfl).1
def DuR(w:World)(e g x t:Int)(n m:Nat)(ss:List aQ)(ns:List aD)(r:Ending)(w':World):Prop:=∃p' c' q' d' B Qs,r=.returned (dZ e g x t (.S p' n c') (.S q' m d'))/\w.heap.size<=B/\kq B w' (.S p' n c') ss Qs/\AI B w' (.S q' m d') ns/\Bw w w'
def bU8(en:Le ss n)(em:Le ns m)(h:vk w (.S p n c) ss)(hN:lM w (.S q m d) ns)(hn:Mg n)(hm:Mg m)(qg:Hid (∀s∈ss,s.2.2.length<=1048576/\∀ev∈s.2.2,ev.2.length<=1048576))(yG:Hid (∀nd∈ns,nd.path.length<=1048576/\nd.value.length<=1048576/\nd.holders.length<=1048576/\nd.watchers.length<=1048576)):Calls prog 76 #[dZ e g x t (.S p n c) (.S q m d)] w (DuR w e g x 0 n m (ss.map kh) (ns.map lx)):=by
 let⟨W0,fL,b0,z0,C0⟩:=jB w (.U e) (.U g) (.U x) (.I t) (.S p n c) (.S q m d)
 let⟨W1,mg,b1,z1,C1⟩:=jB W0 (.U 0) (.U 0) (.U 0) (.I 0) aq aq
 rw[z0]at C1 z1;have bW:=aj b0 b1;have HC:=ag (NC (e:=e) (g:=g) (x:=x) (t:=t) en em (h.below bW) (hN.below bW) hn hm qg yG);have HB:=ag (ai C1 (ai bW z1))
 go_in
 go_wp2_with fail;rw[<-fL,<-mg];refine HC.mono ?_;rintro r w1⟨p',c',q',d',rfl,⟨Qs,hS⟩,Ow,aG⟩
 let⟨W2,mu,b2,z2,C2⟩:=jB w1 (.U e) (.U g) (.U x) (.I 0) (.S p' n c') (.S q' m d')
 let⟨ob,U7⟩:=aB w1.heap.size
 rw[<-U7]at C2;have F2:=Fr.below (T:=[41]) b2;have HI:=ag (ai (hS.fr F2) (ai (gq.fr Ow F2) (ai C2 (ai ((HB.1.below aG).below b2) ((HB.2.1.trans (aG.mono (aI HB.2.2))).trans (b2.mono (by have:=HB.2.2;have:=aG.size;omega)))))))
 let⟨B,hB⟩:=aB W1.heap.size
 rw[<-hB]at HI;have jg:w.heap.size<=B:=aI HB.2.2;go_wp2;rw[<-U7,<-mu];clear mu U7
 go_loopw[4](λiv wr=>∃(k:Nat)(Qs:List Value),k<=n/\iv=.I k/\Hid (kq B wr (.S p' n c') (mh kh k ss) Qs/\AI B wr (.S q' m d') ns/\BX wr ob [.U e,.U g,.U x,.I 0,.S p' n c',.S q' m d']/\BX wr (w.heap.size+1) [.U 0,.U 0,.U 0,.I 0,aq,aq]/\Bw w wr)) (λiv _=>n-(intOf iv).toNat)
 exact⟨0,Qs,gr _,rfl,by rw[DJ];exact HI⟩;{
 obtain⟨k,Qs,hk,rfl,HI⟩:=hrel
 let⟨i0,i1,i2,i3,i4,i5,if'⟩:=HI.2.2.1.cells
 by_cases bf:k<n;{
 have bL:=aU k n;obtain⟨s,hs⟩:∃s,ss[k]?=some s:=⟨_,aY (ae en▸bf)⟩;obtain⟨gs,Q,rfl,-,-,hQ,j0,j1,j2,hq,jf⟩:=HI.1.at (sk kh hs);have hge:=HI.1.ge;have wk:IntKind.i64.wrap ((k:Int)+1)=((k+1:Nat):Int):=by rw[kU _ af];omega
 let⟨S1,F1⟩:=HI.1.dl (sk kh hs) 0
 have dT:k<(mh kh k ss).length:=(aV.1 (sk kh hs)).1;obtain⟨-,-,-,-,y4,-,-⟩:=(HI.2.2.1.fr F1).cells;obtain⟨gs',Q',eg,-,-,-,-,-,yq,-,yf⟩:=S1.at (i:=k) (s:=(s.1,0,s.2.2)) (by rw[ak7 dT]);obtain⟨rfl,-⟩:=yz eg
 let⟨Y,hY⟩:=aB (wr.setCell (Ad gs (k*3+1)) (.I 0))
 rw[<-hY]at S1 F1
 let⟨S2,F2⟩:=S1.cp4 (i:=k) (s:=(s.1,0,s.2.2)) (by rw[ak7 dT]) hQ (w1:=Y) (v':=aq) (q':=[]) (RT.nil _ _ _ _ _) (qi) (λb e=>by simp[Value.ownBlock]at e)
 rw[Km,show((s.1,0,[]):aQ)=kh s from rfl,DK kh hs]at S2
 let⟨V,hV⟩:=aB (Y.setCell (Ad gs (k*3+2)) aq)
 rw[<-hV]at S2 F2;have F3:=F1.sub (T':=[189,132]) al;have FF:=F3.trans F2;have BV:Bw w V:=by rw[hV,hY];exact(HI.2.2.2.2.setCell (p:=(Ad gs _)) (fu jg hge) _).setCell (p:=(Ad gs _)) (fu jg hge) _
 have HN:=ag (ai S2 (ai (gq.fr HI.2.1 FF) (ai (HI.2.2.1.fr FF) (ai (HI.2.2.2.1.fr FF) BV))));rw[hY]at hV;go_wp2;rw[<-hV];go_roundw;exact⟨k+1,_,af,by go_num,HN⟩;exact cg};{
 have bL:=dB k n;have ek:k=n:=af;have H2:=ae HI;rw[Ib kh (by rw[ae en];omega)]at H2;have HI:=ag H2;go_wp2
 go_loopw[5](λiv wr=>∃(k:Nat),k<=m/\iv=.I k/\Hid (kq B wr (.S p' n c') (ss.map kh) Qs/\AI B wr (.S q' m d') (mh lx k ns)/\BX wr ob [.U e,.U g,.U x,.I 0,.S p' n c',.S q' m d']/\BX wr (w.heap.size+1) [.U 0,.U 0,.U 0,.I 0,aq,aq]/\Bw w wr)) (λiv _=>m-(intOf iv).toNat)
 exact⟨0,gr _,rfl,by rw[DJ];exact HI⟩;{
 obtain⟨k,hk,rfl,HI⟩:=hrel
 let⟨i0,i1,i2,i3,i4,i5,if'⟩:=HI.2.2.1.cells
 by_cases bf:k<m;{
 have bL:=aU k m;obtain⟨nd,hs⟩:∃s,ns[k]?=some s:=⟨_,aY (ae em▸bf)⟩;obtain⟨gn,P,V,H,U,rfl,-,-,-,-,-,-,-,-,-,j7,-,-,-,-,jf⟩:=HI.2.1.at (sk lx hs);have hge:=(RT.lt HI.2.1 gn rfl).1;have wk:IntKind.i64.wrap ((k:Int)+1)=((k+1:Nat):Int):=by rw[kU _ af];omega
 let⟨S1,F1⟩:=gq.put HI.2.1 (sk lx hs) (j:=7) bj aq (lx nd) (λw' P V H U h1 h2 h3 h4 _=>⟨P,V,H,aq,rfl,h1,h2,h3,TU.nil _⟩)
 rw[DK lx hs]at S1
 let⟨Y,hY⟩:=aB (wr.setCell (Ad gn (k*8+7)) aq)
 rw[<-hY]at S1 F1;have BV:Bw w Y:=by rw[hY];exact HI.2.2.2.2.setCell (p:=(Ad gn _)) (fu jg hge) _
 have HN:=ag (ai (HI.1.fr F1) (ai S1 (ai (HI.2.2.1.fr F1) (ai (HI.2.2.2.1.fr F1) BV))));go_wp2;rw[<-hY];go_roundw;exact⟨k+1,af,by go_num,HN⟩;exact cg};{
 have bL:=dB k m;have H2:=ae HI;rw[Ib lx (by rw[ae em];omega)]at H2
 let⟨r0,r1,r2,r3,r4,r5,rf⟩:=H2.2.2.2.1.cells
 let⟨cur,Vh⟩:=H2.2.2.2.1.2
 have F1:Fr [41] wr (dG wr (w.heap.size+1) (.U e) (.U g) (.U x) (.I 0) (.S p' n c') (.S q' m d')):=ju Vh;have HN:=ag (ai (H2.1.fr F1) (ai (gq.fr H2.2.1 F1) (H2.2.2.2.2.trans ((dr (w:=wr) (w.heap.size+1) (.U e) (.U g) (.U x) (.I 0) (.S p' n c') (.S q' m d')).mono af))));go_wp2;exact dJ (v:=dZ e g x 0 (.S p' n c') (.S q' m d')) (by simp[results,results76,go_sem,r0,r1,r2,r3,r4,r5]) rfl ⟨_,_,_,_,B,_,rfl,jg,HN.1,HN.2.1,HN.2.2⟩}}}}
def Mz(e g x t:Int)(p q:OA)(c n d m:Nat)(ss:List aQ)(ns:List aD)(A1 A2:List Lf)(k:Int)(w:World)(h1:uj w (.S p n c) ss A1)(h2:vQ w (.S q m d) ns A2)(i1:dt w A1)(i2:dt w A2)(k0:0<=k)(k1:k+A1.length+A2.length<=100000000):Calls prog 25 #[dZ e g x t (.S p n c) (.S q m d),.I k] w λr w'=>r=.returned (.I (k+A1.length+A2.length))/\Mk w w' (A1++A2) k:=by
 let⟨W,hW⟩:=aB (w.alloc (.cells #[.U e,.U g,.U x,.I t,.S p n c,.S q m d] 41))
 have bW:=dX hW;have yF:jD W w.heap.size e g x t (.S p n c) (.S q m d):=by rw[hW];simp[jD]
 have M0:=Mk.dR bW k;have H1:=ag (uj.below h1 bW);have H2:=ag (vQ.below h2 bW);have I1:=ag (i1.below bW);have I2:=ag (i2.below bW);have J:=ag (ai i1 i2);have HM0:=ag M0;have HC:=ag yF
 go_in
 go_wp2_with fail;rw[<-hW];refine(D6 p c n ss A1 k _ H1 I1 k0 af).mono ?_;rintro r w1⟨rfl,m1⟩
 let⟨j0,j1,j2,j3,j4,j5⟩:=ae HC
 have c4:w1.cell? (Ad w.heap.size 4)=some (.S p n c):=m1.head I1 j4;have c5:w1.cell? (Ad w.heap.size 5)=some (.S q m d):=m1.head I1 j5;have H3:=ag (vQ.mk H2 m1 I1);have I3:=ag (I2.mk m1 I1);have M1:=ag (HM0.trans' m1 al (dt.nil _) J.1);go_wp2_with fail;refine(MA q d m ns A2 (k+A1.length) _ H3 I3 af af).mono ?_;rintro r w2⟨rfl,m2⟩;have M2:=M1.trans' m2 al (by simpa using J.1) J.2;go_wp2;go_ret;exact⟨rfl,by simpa using M2⟩
def Na(e g x t:Int)(p q:OA)(c n d m:Nat)(ss:List aQ)(ns:List aD)(A1 A2:List Lf)(k:Int)(w:World)(h1:uj w (.S p n c) ss A1)(h2:vQ w (.S q m d) ns A2)(hh:cK w (A1++A2) k)(k0:0<=k)(k1:k+A1.length+A2.length<=100000000):Calls prog 27 #[dZ e g x t (.S p n c) (.S q m d),.I k] w (Rb (.I (k+A1.length+A2.length)) w):=by
 let⟨W,hW⟩:=aB (w.alloc (.cells #[.U e,.U g,.U x,.I t,.S p n c,.S q m d] 41))
 have bW:=dX hW;have yF:jD W w.heap.size e g x t (.S p n c) (.S q m d):=by rw[hW];simp[jD]
 have H1:=ag (uj.below h1 bW);have H2:=ag (vQ.below h2 bW);have I1:=ag (hh.app.1.below bW);have I2:=ag (hh.app.2.below bW);have HC:=ag yF
 go_in
 go_wp2_with fail;rw[<-hW];refine(El p c n ss A1 k _ H1 I1 k0 af).mono ?_;rintro r w1⟨rfl,m1⟩
 let⟨j0,j1,j2,j3,j4,j5⟩:=HC.below m1
 have hp1:¬k+(A1.length:Int)<0:=af;have H3:=ag (vQ.below H2 m1);have I3:=ag (I2.below m1);have b1:=aj bW m1;go_wp2_with fail;refine(Nb q d m ns A2 (k+A1.length) _ H3 I3 af af).mono ?_;rintro r w2⟨rfl,m2⟩;have b2:=aj b1 m2;have hp2:¬k+(A1.length:Int)+(A2.length:Int)<0:=af;go_wp2;go_ret;exact⟨rfl,b2⟩
def ax8(e:Ev):Nat:=1+e.2.length
def Zj(s:aQ):Nat:=2+gD ax8 s.2.2
def Zk(nd:aD):Nat:=nd.path.length+(nd.value.length+(2+(nd.holders.length+(2+nd.watchers.length))))
theorem JR{α:Type}{F G:α->Nat}(l:List α)(h:∀x∈l,F x<=G x):gD F l<=gD G l:=by
 induction l with
 |nil=>exact iD _
 |cons x l ih=>
  have:=ih λy hy=>h y (by simp[hy]);have:=h x al;simp only[gD,iH,Kl]at*;omega
theorem Ph{α:Type}(F:α->Nat)(k:Nat)(l:List α):gD (λx=>k+F x) l=k*l.length+gD F l:=by
 induction l with
 |nil=>rfl
 |cons x l ih=>
  simp only[gD,iH,Kl,iS]at*;rw[ih,aj5];omega
def ax7(ss:List aQ)(ns:List aD):gD Zj ss+gD Zk ns<=4*LM ss ns:=by
 have h1:gD Zj ss<=gD (λs=>2+FB s) ss:=JR ss λs _=>by have:=Ph (λe:Ev=>e.2.length) 1 s.2.2;have e:gD ax8 s.2.2=gD (λe:Ev=>1+e.2.length) s.2.2:=rfl;simp only[Zj,FB];omega
 have h2:gD Zk ns<=gD (λs=>4+FD s) ns:=JR ns λs _=>by simp only[Zk,FD];omega
 rw[Ph]at h1 h2;simp only[LM];omega
def AH(B:Nat)(w:World)(A1 A2:List Lf)(p:OA)(n c:Nat)(q:OA)(m d:Nat)(ss:List aQ)(ns:List aD):Prop:=
 kr w (.S p n c) ss/\lM w (.S q m d) ns/\uj w (.S p n c) ss A1/\vQ w (.S q m d) ns A2/\jE B w (A1++A2)
def AH.keep(h:AH B w A1 A2 p n c q m d ss ns)(hk:∀a∈A1++A2,w'.heap[a.b]?=w.heap[a.b]?):AH B w' A1 A2 p n c q m d ss ns:=by
 obtain⟨h1,h2,h3,h4,h5⟩:=h;have k1:∀a∈A1,w'.heap[a.b]?=w.heap[a.b]?:=λa ha=>hk a (Dj _ ha);have k2:∀a∈A2,w'.heap[a.b]?=w.heap[a.b]?:=λa ha=>hk a (Gw _ ha);exact⟨h1.dw h3 k1,h2.dw h4 k2,uj.keep h3 k1,vQ.keep h4 k2,h5.keep hk⟩
def AH.below(h:AH B w A1 A2 p n c q m d ss ns)(hb:Bw w w'):AH B w' A1 A2 p n c q m d ss ns:=h.keep λa ha=>hb.block _ (h.2.2.2.2.tf.lt ha)
def AH.rd(h:AH B w A1 A2 p n c q m d ss ns):vk w (.S p n c) ss/\lM w (.S q m d) ns:=⟨h.1.rd,h.2.1⟩
theorem JI.kx{α:Type}{P:α->Nat->Nat->List Lf->Prop}{xs:List α}(F:α->Nat)(h:JI P sz v xs A)(hP:∀x b a l,P x b a l->l.length=F x):A.length=gD F xs:=by
 obtain⟨p,c,Ls,h1,h2,rfl,h4⟩:=h;rcases h4 with h0|⟨b,o,-,h6⟩;{
 subst h0;have:Ls=[]:=r8.1 h2;subst this
 rfl}
 {
 have key:∀k,k<=xs.length->(Ls.take k).flatten.length=gD F (xs.take k):=by
  intro k
  induction k with
  |zero=>intro _;rfl
  |succ k ih=>
   intro hk;obtain⟨x,hx⟩:∃x,xs[k]?=some x:=⟨_,aY af⟩;obtain⟨l,hl⟩:∃l,Ls[k]?=some l:=⟨_,aY af⟩;rw[od,hl,vy F hx,<-ih af,<-hP _ _ _ _ (h6 k x l hx hl)];simp
 have:=key xs.length ay;rw[rr,<-h2,rr]at this;exact this}
theorem Pg{α:Type}(l:List α):gD (λ_=>1) l=l.length:=by
 induction l with
 |nil=>rfl
 |cons x l ih=>simp only[gD,iH,Kl,iS]at*;omega
def SQ.kx(h:SQ v xs A):A.length=xs.length:=by
 rw[JI.kx (λ_=>1) h (λx b a l hl=>by rw[show l=_ from hl];rfl)];exact Pg xs
def ZA.kx(h:ZA v xs A):A.length=xs.length:=by
 rw[JI.kx (λ_=>1) h (λx b a l hl=>by rw[show l=_ from hl];rfl)];exact Pg xs
variable {xs:List Ev}
def CD.kx(h:CD w v xs A):A.length=gD ax8 xs:=JI.kx ax8 h λx b a l hl=>by
 obtain⟨p,c,lb,rfl,-,h3⟩:=hl;simp[ax8,SQ.kx h3];omega
variable {xs:List aQ}
def uj.kx(h:uj w v xs A):A.length=gD Zj xs:=JI.kx Zj h λx b a l hl=>by
 obtain⟨p,c,lb,rfl,-,h3⟩:=hl;simp[Zj,CD.kx h3];omega
variable {xs:List aD}
def vQ.kx(h:vQ w v xs A):A.length=gD Zk xs:=JI.kx Zk h λx b a l hl=>by
 obtain⟨p0,c0,p1,c1,p4,c4,p7,c7,l0,l1,l4,l7,rfl,⟨-,h0⟩,⟨-,h1⟩,⟨-,h4⟩,⟨-,h7⟩⟩:=hl;simp[Zk,SQ.kx h0,SQ.kx h1,ZA.kx h4,ZA.kx h7];omega
def Up(g:Nat):World->Nat->List Value->World
 |w,_,[]=>w
 |w,o,u::us=>Up g (w.setCell ⟨g,o,none⟩ u) (o+1) us
def ae3:List Value->Nat->List Value->List Value
 |r,_,[]=>r
 |r,o,u::us=>ae3 (r.set o u) (o+1) us
theorem Bx{g:Nat}(h:b≠g):∀(c:List Value)(w:World)(o:Nat),(Up g w o c).heap[b]?=w.heap[b]?
 |[],w,o=>rfl
 |u::us,w,o=>(Bx h us _ _).trans (Dc _ _ _ _ h)
theorem Py{g cap:Nat}:∀(c:List Value)(w:World)(o:Nat)(row:List Value),w.ownsRow B ty sz (.T g n cap) n row->(Up g w o c).ownsRow B ty sz (.T g n cap) n (ae3 row o c)
 |[],w,o,row,h=>h
 |u::us,w,o,row,h=>Py us _ _ _ (h.stored o u).1
theorem Pz:∀(c A rest:List Value),c.length<=rest.length->ae3 (A++rest) A.length c=A++(c++rest.drop c.length)
 |[],A,rest,_=>by simp[ae3]
 |u::us,A,r::rs,h=>by have:=Pz us (A++[u]) rs (by simpa using h);rw[ae3,show(A++r::rs).set A.length u=(A++[u])++rs by simp,show A.length+1=(A++[u]).length by simp,this];simp
variable {cs:List (List Value)}
theorem RH(h:∀c∈cs,c.length=sz):cs.flatten.length=cs.length*sz:=by
 induction cs with
 |nil=>simp
 |cons c cs ih=>
  rw[sV,gU,h c al,ih λd hd=>h d (by simp[hd]),iS,D7];omega
def AJ{α:Type}(el:World->α->List Value->List Lf->Prop)(ty:TypeId)(sz G n:Nat)(w:World)(k:Nat)(xs:List α):Prop:=
 ∃(cs:List (List Value))(Ls:List (List Lf))(rest:List Value),cs.length=k/\Ls.length=k/\(∀c∈cs,c.length=sz)/\w.ownsRow G ty sz (.T G n n) n (cs.flatten++rest)/\(∀(i:Nat)(x:α)(c:List Value)(l:List Lf),xs[i]?=some x->cs[i]?=some c->Ls[i]?=some l->el w x c l)/\jE (G+1) w Ls.flatten
def AJ.zero{α:Type}{el:World->α->List Value->List Lf->Prop}(xs:List α)(h:w.ownsRow G ty sz (.T G n n) n row):AJ el ty sz G n w 0 xs:=
 ⟨[],[],row,rfl,rfl,λc hc=>(by cases hc),h,λi x c l _ hc=>(by simp at hc),jE.nil _ _⟩
def AJ.cell{α:Type}{el:World->α->List Value->List Lf->Prop}{xs:List α}(h:AJ el ty sz G n w k xs)(hb:Bw w w2)(hk:k<n):(∀j,j<sz->∃u,w2.cell? (Ad G (k*sz+j))=some u)/\∀o,w2.frozen? (Ad G o)=false:=by
 obtain⟨cs,Ls,rest,h1,h2,h3,h4,h5,h6⟩:=h;have hG:=hb.block G (h4.lt G rfl).2;have h7:=GC sz (show k+1<=n from hk);rw[D7]at h7;refine⟨λj hj=>?_,λo=>(tM hG).trans (h4.frozenAt o)⟩;rw[aF hG,h4.cellAt _ af];exact⟨_,aY (by rw[h4.1];omega)⟩
variable {c:List Value}{l:List Lf}
def AJ.step{α:Type}{el:World->α->List Value->List Lf->Prop}{xs:List α}{x:α}(h:AJ el ty sz G n w k xs)(db:∀w w' x c l,el w x c l->(∀a∈l,w'.heap[a.b]?=w.heap[a.b]?)->el w' x c l)(hk:k<n)(hx:xs[k]?=some x)(hb:Bw w w2)(oz:el w2 x c l)(hc:c.length=sz)(hA:jE w.heap.size w2 l):AJ el ty sz G n (Up G w2 (k*sz) c) (k+1) xs:=by
 obtain⟨cs,Ls,rest,h1,h2,h3,h4,h5,h6⟩:=h;have hG:=(h4.lt G rfl).2;have k2:∀a∈l,(Up G w2 (k*sz) c).heap[a.b]?=w2.heap[a.b]?:=λa ha=>Bx (aI (hA.lo a ha)) _ _ _;have k1:∀a∈Ls.flatten,(Up G w2 (k*sz) c).heap[a.b]?=w.heap[a.b]?:=λa ha=>(Bx (aI (h6.lo a ha)) _ _ _).trans (hb.block _ (h6.tf.lt ha));have hl:cs.flatten.length=k*sz:=by rw[RH h3,h1]
 have h7:=GC sz (show k+1<=n from hk);rw[D7]at h7;have h8:=h4.1;rw[gU,hl]at h8;have h9:w2.ownsRow G ty sz (.T G n n) n (cs.flatten++rest):=by refine⟨h4.1,?_⟩;rcases h4.2 with hn|⟨g,cap,cur,e,bN,hg,r⟩;{exact .inl hn};{cases e;exact .inr ⟨G,n,cur,rfl,bN,(hb.block G hG).trans hg,r⟩}
 refine⟨cs++[c],Ls++[l],rest.drop sz,by simp[h1],by simp[h2],λd hd=>?_,?_,λi y d m hy hd hm=>?_,?_⟩;{rcases gu.1 hd with hd|hd;{exact h3 d hd};{rw[nE.1 hd];exact hc}};{have:=Py c w2 (k*sz) _ h9;rw[<-hl,Pz _ _ _ af,hc]at this;rw[<-hl];simpa using this};{
 by_cases e:i<k;{rw[kR af]at hd hm;exact db _ _ _ _ _ (h5 i y d m hy hd hm) λa ha=>k1 a (Gu.2 ⟨m,aT hm,ha⟩)};{
 have e2:i=k:=by have:=(aV.1 hd).1;simp at this;omega
 subst e2;rw[nF af]at hd hm;simp[h1,h2]at hd hm;subst hd hm;rw[hx]at hy;cases hy;exact db _ _ _ _ _ oz k2}};{rw[GG];refine jE.app (M:=w.heap.size) (h6.keep k1) ?_ hG λa ha=>h6.tf.lt ha;simpa using hA.keep k2}
def AJ.full{α:Type}{el:World->α->List Value->List Lf->Prop}{xs:List α}(h:AJ el ty sz G n w n xs)(hn:xs.length=n):∃Ls,OwnT el ty sz G w (.T G n n) xs Ls:=by
 obtain⟨cs,Ls,rest,h1,h2,h3,h4,h5,h6⟩:=h;have h8:=h4.1;rw[gU,RH h3,h1]at h8;have:rest=[]:=D8 af;subst this hn;rw[BI]at h4;exact⟨Ls,cs,h1,h2,h3,h4,h5,h6.mono (Qz _),λa ha e=>by have:=h6.lo a ha;simp[Value.ownBlock]at e;omega⟩
end Go.Proofs.YtnhnbpkfpaondaaGreatDoor
