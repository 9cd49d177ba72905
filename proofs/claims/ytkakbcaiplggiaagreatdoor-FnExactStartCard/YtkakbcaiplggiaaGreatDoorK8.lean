import Derived.Test.YtkakbcaiplggiaaGreatDoorK6
import Derived.Test.YtkakbcaiplggiaaGreatDoorK7
import Derived.Lib.ConvBytes
namespace Go.Proofs.YtkakbcaiplggiaaGreatDoor
set_option maxHeartbeats 6400000
set_option linter.all false
set_option maxRecDepth 100000
open Go.ChangeShapes Go.WideShapes Go.ChangeAt Go.RowKit Go.Proofs.Tryz
variable {A:List Lf}{B M N b bn bs g gb h hh i j k sb u uu z:Nat}{D:DataW Unit}{L SB:List Nat}{V v:Value}{e t x:Int}{es:List Ev}{l s xs:LI}{nd nd':aC}{ns:List aC}{p:OA}{row:Option Nat}{ss:List aP}{w0:World}
def UQ(I D:Int)(p:OA)(c n:Nat)(Q:List Ev)(en:Hid (Q.length=n))(w:World)(h:rE w (.S p n c) Q)(hn:n<=0)(hbq:Hid (∀e∈Q,e.2.length<=1048576)):Calls prog 92 #[.agg #[.U I,.I D,.S p n c]] w λr w'=>∃p' c' A,r=.returned (.agg #[.U I,.I D,.S p' n c'])/\rE w' (.S p' n c') Q/\Ep w' (.S p' n c') Q A/\nI w.heap.size w' A/\Bw w w':=by
 obtain⟨ie,hie,qc,iU,jU⟩:=gh Tryz.infoEv;have HR:=af λ(w':World)(hb:Bw w w')=>h.below hb;clear h;obtain⟨W,hW⟩:=az (w.alloc (.cells #[.U I,.I D,.S p n c] 84));have bW:=ew hW;have zW:W.heap.size=w.heap.size+1:=by rw[hW];simp
 have k0:W.cell? (Ad w.heap.size 0)=some (.U I):=by rw[hW];simp
 have k1:W.cell? (Ad w.heap.size 1)=some (.I D):=by rw[hW];simp
 have k2:W.cell? (Ad w.heap.size 2)=some (.S p n c):=by rw[hW];simp
 go_in
 go_wp2_with fail;obtain⟨W2,nF⟩:=az (W.alloc (.cells #[.U 0,.I 0,.S none 0 0] 84));have bW2:=ew nF;have zW2:W2.heap.size=w.heap.size+2:=by rw[nF];simp;omega
 have tM:al W2 (w.heap.size+1) [.U 0,.I 0,.S none 0 0]:=by rw[nF,show w.heap.size+1=W.heap.size by omega];exact al.alloc W #[.U 0,.I 0,.S none 0 0] _
 rw[<-hW,<-nF];have b2:=aj bW bW2;have HK:=af (ah (ag k0 bW2) (ah (ag k1 bW2) (ag k2 bW2)));have A9:=af tM;clear hW nF bW2 k0 k1 k2 bW zW tM
 go_loopw[3,9](λov iv wr=>∃(k:Nat)(Ls:List (List Lf)),k<=n/\iv=.I k/\Hid (OwnT bI9 190 2 W2.heap.size wr ov (Q.take k) Ls)/\Bw W2 wr) (λ_ iv _=>n-(intOf iv).toNat)
 exact⟨0,[],fN _,rfl,OwnT.nil _ _ _ _ _,cR _ _⟩;{
 obtain⟨k,Ls,hk,rfl,ho,aK⟩:=hrel;have BB:=aj b2 aK;by_cases aT:k<n;{exact absurd aT ae};{
 have bu:=dm k n;have yx:k=n:=ae;subst yx;have o2:=aa ho;rw[ke (aa en▸iP _)]at o2;obtain⟨Z9,A,YM,JC⟩:=o2.ev;obtain⟨pv,cv,rfl,-⟩:=id Z9;rw[aa en]at Z9 YM⊢;obtain⟨q0,q1,q2⟩:=aa HK;have c0:=ag q0 aK;have c1:=ag q1 aK;have tM:=A9.below ae aK;have r0:=tM.1 0 _ rfl;have r1:=tM.1 1 _ rfl;have r2:=tM.1 2 _ rfl;have rf:=tM.2;have cg:¬w.heap.size+1=w.heap.size:=ae;have RD:=af (ah Z9 (ah YM JC));have Ue:=aK.size;clear Z9 YM JC o2 q0 q1 q2 tM;go_wp2;obtain⟨Z9,YM,JC⟩:=aa RD;obtain⟨Z,hZ⟩:=az (((wr.setCell (Ad (w.heap.size+1) 0) (.U I)).setCell (Ad (w.heap.size+1) 1) (.I D)).setCell (Ad (w.heap.size+1) 2) (.S pv k cv));have hk:∀a∈A,Z.heap[a.b]?=wr.heap[a.b]?:=λa ha=>by have:=JC.lo a ha;rw[hZ];rw[fW _ _ _ _ aU,fW _ _ _ _ aU,fW _ _ _ _ aU]
 have hbZ:Bw w Z:=by rw[hZ];exact((BB.setCell ai _).setCell ai _).setCell ai _
 refine dD (v:=.agg #[.U I,.I D,.S pv k cv]) (by simp[results,results92,go_sem,r0,r1,r2]) rfl ⟨pv,cv,rfl,?_⟩;rw[<-hZ];exact⟨Z9.dR YM hk,A,Ep.keep YM hk,(JC.keep hk).mono ae,hbZ⟩}}
theorem L8{w:World}{ss:LI}(h:Q.RdK B w v ss):∃p c A,v=.S p ss.length c/\rD w (.S p ss.length c) ss/\YC (.S p ss.length c) ss A/\nI B w A:=by
 rcases h with⟨rfl,rfl⟩|⟨g,cap,rfl,hb,hl,hH⟩;{exact⟨none,0,[],rfl,⟨none,0,rfl,.inl rfl⟩,⟨none,0,[],rfl,rfl,rfl,.inl rfl⟩,nI.nil _ _⟩};{
 have hc:∀i,i<ss.length->w.cell? (Ad g (0+i))=some (.U (ss.getD i 0))/\w.frozen? (Ad g (0+i))=false:=λi hi=>by
  have:=hH i (by simpa using hi);simp only[List.getElem!_toArray]at this;rw[gK,bD hi];have e:ss[i]! = ss[i]:=by simp[hi]
  first|(rw[e]at this;exact this)|simpa[hi]using this
 refine⟨some (Ad g 0),cap,(List.range ss.length).map λi=>⟨g,0+i,.u64⟩,rfl,⟨_,_,rfl,.inr ⟨g,0,rfl,λi hi=>(hc i hi).1⟩⟩,⟨some (Ad g 0),cap,(List.range ss.length).map λi=>[⟨g,0+i,.u64⟩],rfl,ai,?_,.inr ⟨g,0,rfl,λi x l' hx hl=>?_⟩⟩,⟨?_,λa ha=>?_,λa ha=>?_⟩⟩;{
 induction(List.range ss.length)with
 |nil=>rfl
 |cons i r ih=>rw[iM,iM,tY,<-ih];rfl}
 {
 obtain⟨hi,e⟩:=bf.1 hl;simp at e;rw[<-e,Dc,kS]
 rfl}
 {rw[qX,List.Nodup,D7];exact ae8.imp (λ{i j}kr=>by simpa using kr)};{obtain⟨i,hi,rfl⟩:=ji.1 ha;exact hb};{obtain⟨i,hi,rfl⟩:=ji.1 ha;obtain⟨h1,h2⟩:=hc i (by simpa using hi);exact⟨⟨_,h1⟩,h2⟩}}
theorem tA:∀{l m:LI},l.Pairwise (·<·)->m.Pairwise (·<·)->(∀x,x∈l↔x∈m)->l=m
 |[],[],_,_,_=>rfl
 |[],b::m,_,_,h=>absurd ((h b).2 ai) ai
 |a::l,[],_,_,h=>absurd ((h a).1 ai) ai
 |a::l,b::m,h1,h2,h=>by
  rw[Al]at h1 h2;have Sy:a=b:=by rcases jG.1 ((h a).1 ai)with e|e;{exact e};{rcases jG.1 ((h b).2 ai)with e'|e';{exact e'.symm};{have:=h2.1 a e;have:=h1.1 b e';omega}}
  subst Sy;rw[tA h1.2 h2.2 (λx=>?_)];constructor;{intro hx;rcases jG.1 ((h x).1 (by simp[hx]))with e|e;{have:=h1.1 x hx;omega};{exact e}};{intro hx;rcases jG.1 ((h x).2 (by simp[hx]))with e|e;{have:=h2.1 x hx;omega};{exact e}}
def FG{ss:LI}(h:dH D s)(hs:s.Pairwise (·<·))(ha:Q.Asc D ss):ss=s:=by
 refine tA ha.lt hs λx=>?_;rw[ha.mem x,h];constructor;{rintro⟨i,hi,e⟩;simp only[CN,Mm]at e;rw[e];exact hi};{intro hx;exact⟨x,hx,rfl⟩}
structure KN(w:World)(g h u:Nat)(V:Value)(nd:aC):Prop where
 blk:w.heap[g]?=some (.cells #[V,.U nd.owner,.I nd.mode,.map (some h),.U nd.aJ,.U nd.gen,.map (some u)] 142)
 val:Rd w V nd.value
 Wv:∃D,w.ownsMap Tryz.prog 31 unitElem h nd.holders.length D/\dH D nd.holders
 WT:∃D,w.ownsMap Tryz.prog 31 unitElem u nd.watchers.length D/\dH D nd.watchers
structure PB(w:World)(M N:Nat)(v:Value)(xs:LI)(A:List Lf):Prop where
 rd:Rd w v xs
 cap:tQ v
 lv:SK v xs A
 ap:nI M w A
 hi:∀a∈A,a.b<N
structure PU(w:World)(M N:Nat)(v:Value)(xs:LI)(A:List Lf):Prop where
 rd:rD w v xs
 lv:YC v xs A
 ap:nI M w A
 hi:∀a∈A,a.b<N
def PB.below{w w':World}(h:PB w M N v xs A)(hb:Bw w w'):PB w' M N v xs A:=
 ⟨h.rd.below hb,h.cap,h.lv,h.ap.keep (λa ha=>hb.block _ (h.ap.uV.lt ha)),h.hi⟩
def PU.below{w w':World}(h:PU w M N v xs A)(hb:Bw w w'):PU w' M N v xs A:=
 ⟨h.rd.below hb,h.lv,h.ap.keep (λa ha=>hb.block _ (h.ap.uV.lt ha)),h.hi⟩
def Own.pb{w:World}{n c:Nat}(h:Own B w (.S p n c) l):∃A,PB w B w.heap.size (.S p n c) l A:=by
 obtain⟨A,q1,q2,q3,q4⟩:=BI (kd:=.u8) h;exact⟨A,h.rd,⟨_,_,_,rfl,h.cap,h.vt⟩,q1,q2,λa ha=>q2.uV.lt ha⟩
def nI.bh8{w:World}{A2:List Lf}(h:nI B w A)(h2:nI B w A2)(hd:∀a∈A,∀a2∈A2,a.b≠a2.b):nI B w (A++A2):=by
 refine⟨?_,λa ha=>?_,db.app.2 ⟨h.uV,h2.uV⟩⟩;{rw[kT,BS];refine⟨h.nd,h2.nd,λx hx y hy=>?_⟩;obtain⟨a,ha,rfl⟩:=ji.1 hx;obtain⟨a2,Ax,rfl⟩:=ji.1 hy;intro e;simp only[fQ]at e;exact hd a ha a2 Ax e.1};{rcases gM.1 ha with ha|ha;{exact h.lo a ha};{exact h2.lo a ha}}
def Yu(hB:aN l)(hj:j<l.length):(((aO l).data.toList.getD j 0).toNat:Int)=l.getD j 0:=by
 have hj':j<(aO l).size:=by rw[ik];exact hj
 have h:=Ry hB hj';rw[<-h];have hl:j<(aO l).data.toList.length:=by rw[kh];simpa using hj
 rw[gK,bD hl]
 rfl
theorem aJ3(w:World)(hB:aN l)(hl:Mg l.length):∃p' c' W A,(convert 9 22 (.string (aO l))).run prog w=.ok (.S p' l.length c') W/\PB W w.heap.size W.heap.size (.S p' l.length c') l A/\Bw w W:=by
 have dN:=Lib.run_convert_string_bytes (P:=prog) w 9 22 5 (aO l) underlying9 underlying22 underlying5;rw[ik]at dN;obtain⟨W,hW⟩:=az (Lib.bytesWorld w 5 (aO l));have jI:W.heap.size=w.heap.size+1:=by rw[hW];exact Lib.bytesWorld_size _ _ _
 have cW:∀j,j<l.length->W.cell? (Ad w.heap.size (0+j))=some (.int .u8 (l.getD j 0)):=λj hj=>by rw[hW,kS,Lib.bytesWorld_cell _ _ _ _ (by rw[ik];exact hj),Yu hB hj]
 have hfz:∀j,j<l.length->W.frozen? (Ad w.heap.size (0+j))=false:=λj hj=>by
  have hn:=Lib.bytesWorld_at_new w 5 (aO l);have hs:j<(Lib.bytesCells w 5 (aO l)).size:=by simp only[Lib.bytesCells,aN5,Array.size_map];have:(aO l).data.size=l.length:=ik (l:=l);omega
  rw[hW,kS];simp only[World.frozen?,hn];simp;omega
 have hb:Bw w W:=by refine⟨by rw[hW];rfl,by rw[hW];rfl,by rw[hW];rfl,ae,λk hk=>by rw[hW];exact Lib.bytesWorld_at_old _ _ _ _ hk⟩
 have Eh:tQ (.T w.heap.size l.length (grownCap w l.length 0 5)):=⟨_,_,_,rfl,aN8 _ _ _ _,aN7 _ _ _ _ iF⟩;rw[<-hW]at dN;refine⟨_,_,_,(List.range l.length).map λi=>⟨w.heap.size,0+i,.u8⟩,dN,⟨⟨_,_,rfl,.inr ⟨w.heap.size,0,rfl,cW⟩⟩,Eh,⟨some (Ad w.heap.size 0),_,(List.range l.length).map λi=>[⟨w.heap.size,0+i,.u8⟩],rfl,ai,?_,.inr ⟨w.heap.size,0,rfl,λi x l' hx hl=>?_⟩⟩,⟨?_,λa ha=>?_,λa ha=>?_⟩,λa ha=>?_⟩,hb⟩;{
 induction(List.range l.length)with
 |nil=>rfl
 |cons i r ih=>rw[iM,iM,tY,<-ih];rfl}
 {
 obtain⟨hi,e⟩:=bf.1 hl;simp at e;rw[<-e,Dc,kS]
 rfl}
 {rw[qX,List.Nodup,D7];exact ae8.imp (λ{i j}kr=>by simpa using kr)};{obtain⟨i,hi,rfl⟩:=ji.1 ha;exact iP _};{obtain⟨i,hi,rfl⟩:=ji.1 ha;exact⟨⟨_,cW i (by simpa using hi)⟩,hfz i (by simpa using hi)⟩};{obtain⟨i,hi,rfl⟩:=ji.1 ha;simp only;omega}
def Tg{w:World}{ops:Array Oper}{o:Oper}{a:Act}{K:Act->World->Prop}{Q:Exit->Act->World->Prop}{E:Prop}(mW:o.guard=none){x:Operand}(Jn:o.op=Op.convert 9 22 x)(hx:a.eval x=.string (aO l))(hB:aN l)(hl:Mg l.length)(hK:∀p' c' w' A,PB w' w.heap.size w'.heap.size (.S p' l.length c') l A->Bw w w'->K (a.put o.dst (.S p' l.length c')) w'):if Region.wanted o (yielded ops a.tmps)=true then Oper.wp prog o a w K Q else E:=by
 have hw:Region.wanted o (yielded ops a.tmps)=true:=by simp[Region.wanted,mW]
 rw[bN hw];obtain⟨p',c',W,A,dN,hP,hb⟩:=aJ3 w hB hl;unfold Oper.wp;simp only[execOp,Jn,hx,ac8,Qc,Result.andThen_ok,dN,Result.andThen];exact hK _ _ _ _ hP hb
def jC.mk4{w:World}{p0 p1 p4 p7:OA}{c0 c1 c4 c7 M0 N0 M1 N1 M4 N4 M7 N7:Nat}{l0 l1 l4 l7:List Lf}(h0:PB w M0 N0 (.S p0 nd.path.length c0) nd.path l0)(h1:PB w M1 N1 (.S p1 nd.value.length c1) nd.value l1)(h4:PU w M4 N4 (.S p4 nd.holders.length c4) nd.holders l4)(h7:PU w M7 N7 (.S p7 nd.watchers.length c7) nd.watchers l7)(b0:B<=M0)(b1:B<=M1)(b4:B<=M4)(b7:B<=M7)(d01:N0<=M1\/N1<=M0)(d04:N0<=M4\/N4<=M0)(d07:N0<=M7\/N7<=M0)(d14:N1<=M4)(d17:N1<=M7)(d47:N4<=M7):jC w nd [.S p0 nd.path.length c0,.S p1 nd.value.length c1,.U nd.owner,.I nd.mode,.S p4 nd.holders.length c4,.U nd.aJ,.U nd.gen,.S p7 nd.watchers.length c7] (l0++(l1++(l4++l7)))/\nI B w (l0++(l1++(l4++l7))):=by
 refine⟨⟨p0,c0,p1,c1,p4,c4,p7,c7,l0,l1,l4,l7,rfl,rfl,⟨h0.rd,h0.cap,h0.lv⟩,⟨h1.rd,h1.lv⟩,⟨h4.rd,h4.lv⟩,⟨h7.rd,h7.lv⟩⟩,?_⟩;refine(h0.ap.mono b0).bh8 ((h1.ap.mono b1).bh8 ((h4.ap.mono b4).bh8 (h7.ap.mono b7) λa ha a2 Ax e=>?_) λa ha a2 Ax e=>?_) λa ha a2 Ax e=>?_;{have:=h4.hi a ha;have:=h7.ap.lo a2 Ax;omega};{rcases gM.1 Ax with Ax|Ax;{have:=h1.hi a ha;have:=h4.ap.lo a2 Ax;omega};{have:=h1.hi a ha;have:=h7.ap.lo a2 Ax;omega}};{rcases gM.1 Ax with Ax|Ax;{have:=h0.hi a ha;have:=h0.ap.lo a ha;have:=h1.hi a2 Ax;have:=h1.ap.lo a2 Ax;omega};{rcases gM.1 Ax with Ax|Ax;{have:=h0.hi a ha;have:=h0.ap.lo a ha;have:=h4.hi a2 Ax;have:=h4.ap.lo a2 Ax;omega};{have:=h0.hi a ha;have:=h0.ap.lo a ha;have:=h7.hi a2 Ax;have:=h7.ap.lo a2 Ax;omega}}}
theorem ab5{w:World}(hk:KN w g h u V nd)(hh:nd.holders.Pairwise (·<·))(hu:nd.watchers.Pairwise (·<·))(l1:nd.path.length<=1048576)(l2:nd.value.length<=1048576)(l3:nd.holders.length<=1048576)(l4:nd.watchers.length<=1048576)(gq:aN nd.path):Calls prog 94 #[.pointer (some (Ad g 0)),.string (aO nd.path)] w λr w'=>∃c l,r=.returned (.agg c)/\jC w' nd c.toList l/\nI w.heap.size w' l/\Bw w w':=by
 obtain⟨jB,Ec,⟨D1,o1,s1⟩,⟨D2,o2,s2⟩⟩:=hk;obtain⟨pv,cv,nv,rfl,ev⟩:=Ec.iK;have hA7:sG w g (.S pv nv cv) (.U nd.owner) (.I nd.mode) (.map (some h)) (.U nd.aJ) (.U nd.gen) (.map (some u)):=⟨aq jB 0,aq jB 1,aq jB 2,aq jB 3,aq jB 4,aq jB 5,aq jB 6⟩;obtain⟨W0,dP⟩:=az (w.alloc (.cells #[.S none 0 0,.S none 0 0,.U 0,.I 0,.S none 0 0,.U 0,.U 0,.S none 0 0] 119));have b0:=ew dP;have z0:W0.heap.size=w.heap.size+1:=by rw[dP];simp
 have r0:al W0 w.heap.size [.S none 0 0,.S none 0 0,.U 0,.I 0,.S none 0 0,.U 0,.U 0,.S none 0 0]:=by rw[dP];exact al.alloc w #[.S none 0 0,.S none 0 0,.U 0,.I 0,.S none 0 0,.U 0,.U 0,.S none 0 0] _
 have SZ1:=af (dQ o1.size_le l3);have SZ2:=af (dQ o2.size_le l4);obtain⟨ow,mo,ep,ge,e1,e2,e3,e4⟩:∃a b c d,nd.owner=a/\nd.mode=b/\nd.aJ=c/\nd.gen=d:=⟨_,_,_,_,rfl,rfl,rfl,rfl⟩
 rw[e1,e2,e3,e4]at hA7;have HE:=af (ah e1 (ah e2 (ah e3 e4)));clear e1 e2 e3 e4
 go_in
 go_wp2_with fail;rw[<-dP];obtain⟨v,mL⟩:=az W0.drew;have bv:Bw w v:=by rw[mL];exact b0.drew
 have zv:w.heap.size<v.heap.size:=by rw[mL];show w.heap.size<W0.heap.size;omega
 have R:Hid (al v w.heap.size [.S none 0 0,.S none 0 0,.U 0,.I 0,.S none 0 0,.U 0,.U 0,.S none 0 0]):=by rw[mL];exact r0
 have S:=af (hA7.below bv);refine dC (λw'=>sG w' g (.S pv nv cv) (.U ow) (.I mo) (.map (some h)) (.U ep) (.U ge) (.map (some u))) (by rw[<-mL];exact aa S) λhS=>?_;rw[<-mL]at hS⊢;have BW:=af bv;have OH:=af (o1.kept (aB bv none) ai);have OU:=af (o2.kept (aB bv none) ai);have RV:=af (Ec.below bv);have T1:=af s1;have T2:=af s2;have HH:=af hh;have HU:=af hu;have HBY:=af gq;clear mL dP b0 z0 r0 jB Ec o1 o2 hA7 s1 s2 hh hu gq bv;refine nK 0 2 3 4 5 8 9 10 hS ?_;refine nK 11 12 13 14 15 16 17 18 hS ?_;refine nK 19 20 21 22 23 24 25 26 hS ?_;refine mU 27 29 30 31 hS ?_;refine tn 32 hS ?_
 iterate 5 (
  all_goals(first|refine IW 1 (λKK hK=>?_)|refine Sl 1 6 (λKK hK=>?_) (λKK hK=>?_)|refine IW 6 (λKK hK=>?_)|refine Sl 1 7 (λKK hK=>?_) (λKK hK=>?_)|refine IW 7 (λKK hK=>?_)|refine Sl 1 28 (λKK hK=>?_) (λKK hK=>?_)|refine IW 28 (λKK hK=>?_)|refine Sl 1 33 (λKK hK=>?_) (λKK hK=>?_)|refine IW 33 (λKK hK=>?_))
  all_goals(first
   |(
    refine Tag.go 1 ?_;refine Tg aH aH (l:=nd.path) aH HBY l1 ?_;intro pC cC v' lC fC hb;have FC:=af fC;clear fC)
   | (
    refine Tag.go 6 ?_;go_simp;obtain⟨v',hv⟩:=az (v.alloc (.cells #[.S pv nv cv] 22));have hb:=ew hv;have HP:Hid (lQ v' v.heap.size [.S pv nv cv] [nd.value]):=⟨rfl,λj y x q1 q2=>by
     match j,q1,q2 with
     |0,q1,q2=>simp at q1 q2;subst q1 q2;exact⟨by rw[hv];simp,RV.below hb⟩⟩
    rw[<-hv];obtain⟨GB,hGB⟩:=az v.heap.size;rw[<-hGB]at HP⊢;clear hv hGB)
   |(
    refine Tag.go 7 ?_;refine jv (gv (g:=GB) (vs:=[.S pv nv cv]) [nd.value] (lm:=nd.value) (n:=nd.value.length) 1 rfl (by show _=_;simp[cat]) bq (aa HP) ae ae) ?_;rintro r v'⟨pJ,cJ,rfl,oJ,hb⟩;refine⟨_,rfl,?_⟩;obtain⟨lJ,fJ⟩:=Own.pb oJ;have FJ:=af fJ;clear fJ oJ HP)
   |(
    refine Tag.go 28 ?_;refine jv (Q.sJ h _ D1 _ OH SZ1) ?_;rintro r v'⟨y,ss,rfl,SJ,Oa,hb⟩;refine⟨_,rfl,?_⟩;rw[FG (aa T1) (aa HH) SJ]at Oa;obtain⟨pH,cH,lH,rfl,q1,q2,q3⟩:=L8 Oa;have FH:Hid (PU v' v.heap.size v'.heap.size (.S pH nd.holders.length cH) nd.holders lH):=⟨q1,q2,q3,λa ha=>q3.uV.lt ha⟩;clear SJ Oa q1 q2 q3)
   |(
    refine Tag.go 33 ?_;refine jv (Q.sJ u _ D2 _ OU SZ2) ?_;rintro r v'⟨y,ss,rfl,SJ,Oa,hb⟩;refine⟨_,rfl,?_⟩;rw[FG (aa T2) (aa HU) SJ]at Oa;obtain⟨pU,cU,lU,rfl,q1,q2,q3⟩:=L8 Oa;have FU:Hid (PU v' v.heap.size v'.heap.size (.S pU nd.watchers.length cU) nd.watchers lU):=⟨q1,q2,q3,λa ha=>q3.uV.lt ha⟩;clear SJ Oa q1 q2 q3))
  all_goals(
   have S:=af (S.below hb);have BW:=af (aj BW hb);have OH:=af (OH.kept (aB hb none) ai);have OU:=af (OU.kept (aB hb none) ai);have RV:=af (RV.below hb);have R:=af (R.below ae hb);have z:v.heap.size<=v'.heap.size:=hb.size
   try have HP:=af (HP.below hb)
   try have FC:=af (FC.below hb)
   try have FJ:=af (FJ.below hb)
   try have FH:=af (FH.below hb)
   try have FU:=af (FU.below hb)
   refine gr hK (by exact S) λhS=>?_;clear hK KK hb
   rename World=>v
   skip))
 all_goals(
  refine tn 34 hS ?_;have rc0:=R.1 0 _ rfl;have rc1:=R.1 1 _ rfl;have rc2:=R.1 2 _ rfl;have rc3:=R.1 3 _ rfl;have rc4:=R.1 4 _ rfl;have rc5:=R.1 5 _ rfl;have rc6:=R.1 6 _ rfl;have rc7:=R.1 7 _ rfl;have rf:=R.2;refine ry [35] (cn (λKK hK=>?_) eG);go_simp;obtain⟨Z,hZ⟩:=az ((((((((v.setCell (Ad w.heap.size 0) (.S pC nd.path.length cC)).setCell (Ad w.heap.size 1) (.S pJ nd.value.length cJ)).setCell (Ad w.heap.size 2) (.U ow)).setCell (Ad w.heap.size 3) (.I mo)).setCell (Ad w.heap.size 4) (.S pH nd.holders.length cH)).setCell (Ad w.heap.size 5) (.U ep)).setCell (Ad w.heap.size 6) (.U ge)).setCell (Ad w.heap.size 7) (.S pU nd.watchers.length cU));have YV:∀b,b≠w.heap.size->Z.heap[b]?=v.heap[b]?:=λb hb=>by
   rw[hZ]
   iterate 8 rw[fW _ _ _ _ hb]
  have cZ:=(al.fG (al.fG (al.fG (al.fG (al.fG (al.fG (al.fG (al.fG (aa R) 0 ai (.S pC nd.path.length cC)) 1 ai (.S pJ nd.value.length cJ)) 2 ai (.U ow)) 3 ai (.I mo)) 4 ai (.S pH nd.holders.length cH)) 5 ai (.U ep)) 6 ai (.U ge)) 7 ai (.S pU nd.watchers.length cU));rw[<-hZ]at cZ;have hbZ:Bw w Z:=by rw[hZ];exact((((((((BW.setCell ao _).setCell ao _).setCell ao _).setCell ao _).setCell ao _).setCell ao _).setCell ao _).setCell ao _)
  obtain⟨en,apn⟩:=jC.mk4 (B:=w.heap.size+1) FC FJ FH FU ae ae ae ae ae ae ae ae ae ae;have fh:∀y∈lC++(lJ++(lH++lU)),Z.heap[y.b]?=v.heap[y.b]?:=λy hy=>YV _ (aG (apn.lo y hy));have EN:=af (ah (jC.keep _ Z _ _ _ en fh) (ah ((apn.keep fh).mono (B':=w.heap.size) ae) hbZ));have SZg:sG Z g (.S pv nv cv) (.U ow) (.I mo) (.map (some h)) (.U ep) (.U ge) (.map (some u)):=by
   have cg:g≠w.heap.size:=λe=>by have h1:=R.1 0 _ rfl;have h2:=S.2.1;rw[e]at h2;have h3:=R.1 1 _ rfl;rw[h2]at h3;simp at h3
   obtain⟨s0,s1,s2,s3,s4,s5,s6⟩:=aa S;have hz:=aF (YV g cg);exact⟨(hz _).trans s0,(hz _).trans s1,(hz _).trans s2,(hz _).trans s3,(hz _).trans s4,(hz _).trans s5,(hz _).trans s6⟩
  rw[<-hZ];refine gr hK (by exact SZg) λhS=>?_;have zc0:=cZ.1 0 _ rfl;have zc1:=cZ.1 1 _ rfl;have zc2:=cZ.1 2 _ rfl;have zc3:=cZ.1 3 _ rfl;have zc4:=cZ.1 4 _ rfl;have zc5:=cZ.1 5 _ rfl;have zc6:=cZ.1 6 _ rfl;have zc7:=cZ.1 7 _ rfl;clear hK KK hZ YV hbZ en apn fh SZg cZ rc0 rc1 rc2 rc3 rc4 rc5 rc6 rc7 rf;refine dw ?_;clear hS;obtain⟨e1,e2,e3,e4⟩:=aa HE;go_wp2;refine dD (v:=.agg #[.S pC nd.path.length cC,.S pJ nd.value.length cJ,.U ow,.I mo,.S pH nd.holders.length cH,.U ep,.U ge,.S pU nd.watchers.length cU]) (by simp[results,results94,go_sem,zc0,zc1,zc2,zc3,zc4,zc5,zc6,zc7]) rfl ⟨_,lC++(lJ++(lH++lU)),rfl,?_,EN.2.1,EN.2.2⟩;have Ef:=EN.1;rw[e1,e2,e3,e4]at Ef;exact Ef
  skip)
open Go.Maps
structure Yw(w:World)(bs:Nat)(ss:List aP)(SB:List Nat):Prop where
 len:SB.length=ss.length
 own:∃D n,w.ownsMap prog 31 aV bs n D/\n<=1048576/\gP D (List.zipWith (λ(s:aP)g=>(Lit.U s.1,g)) ss SB)
 blk:∀(i:Nat)(s:aP)(g:Nat),ss[i]?=some s->SB[i]?=some g->∃u,w.heap[g]?=some (.cells #[.U s.1,.I s.2.1,u] 84)/\rE w u s.2.2
structure YA(w:World)(bn:Nat)(ns:List aC)(NB:List Nat):Prop where
 len:NB.length=ns.length
 own:∃D n,w.ownsMap prog 9 aV bn n D/\n<=1048576/\gP D (List.zipWith (λ(nd:aC)g=>(cL nd.path,g)) ns NB)
 blk:∀(i:Nat)(nd:aC)(g:Nat),ns[i]?=some nd->NB[i]?=some g->∃V h u,KN w g h u V nd
def KN.below{w w':World}(k:KN w g h u V nd)(hb:Bw w w'):KN w' g h u V nd:=by
 obtain⟨h1,h2,⟨D1,o1,s1⟩,⟨D2,o2,s2⟩⟩:=k;exact⟨(hb.block g (aQ h1)).trans h1,h2.below hb,⟨D1,o1.kept (aB hb none) ai,s1⟩,⟨D2,o2.kept (aB hb none) ai,s2⟩⟩
def Yw.below{w w':World}(h:Yw w bs ss SB)(hb:Bw w w'):Yw w' bs ss SB:=by
 obtain⟨h1,⟨D,n,o,hn,m⟩,h3⟩:=h;refine⟨h1,⟨D,n,o.kept (aB hb none) ai,hn,m⟩,λi s g hs hg=>?_⟩;obtain⟨u,q1,q2⟩:=h3 i s g hs hg;exact⟨u,(hb.block g (aQ q1)).trans q1,q2.below hb⟩
def YA.below{w w':World}{NB:List Nat}(h:YA w bn ns NB)(hb:Bw w w'):YA w' bn ns NB:=by
 obtain⟨h1,⟨D,n,o,hn,m⟩,h3⟩:=h;refine⟨h1,⟨D,n,o.kept (aB hb none) ai,hn,m⟩,λi s g hs hg=>?_⟩;obtain⟨V,h,u,q⟩:=h3 i s g hs hg;exact⟨V,h,u,q.below hb⟩
structure Sto(w:World)(b bs bn:Nat)(e g x t:Int)(ss:List aP)(ns:List aC)(SB NB:List Nat):Prop where
 hd:w.heap[b]?=some (.cells #[.U e,.U g,.U x,.I t,.map (some bs),.map (some bn)] 135)
 Tv:Yw w bs ss SB
 qj:YA w bn ns NB
def Sto.below{w w':World}{g:Int}{SB NB:List Nat}(h:Sto w b bs bn e g x t ss ns SB NB)(hb:Bw w w'):Sto w' b bs bn e g x t ss ns SB NB:=
 ⟨(hb.block b (aQ h.hd)).trans h.hd,h.Tv.below hb,h.qj.below hb⟩
def Hc{w:World}(h:Yw w bs ss SB){s:aP}(hs:ss[i]?=some s):∃g,SB[i]?=some g/\(Lit.U s.1,g)∈List.zipWith (λ(s:aP)g=>(Lit.U s.1,g)) ss SB:=by
 have hi:=(bf.1 hs).1;obtain⟨g,hg⟩:∃g,SB[i]?=some g:=⟨_,bD (h.len▸hi)⟩;refine⟨g,hg,aY (i:=i) ?_⟩;rw[nw,hs,hg]
def Hd{w:World}{NB:List Nat}(h:YA w bn ns NB)(hs:ns[i]?=some nd):∃g,NB[i]?=some g/\(cL nd.path,g)∈List.zipWith (λ(nd:aC)g=>(cL nd.path,g)) ns NB:=by
 have hi:=(bf.1 hs).1;obtain⟨g,hg⟩:∃g,NB[i]?=some g:=⟨_,bD (h.len▸hi)⟩;refine⟨g,hg,aY (i:=i) ?_⟩;rw[nw,hs,hg]
theorem VI{α β γ:Type}{f:α->β->γ}{l:List α}{m:List β}{z:γ}(h:z∈List.zipWith f l m):∃a∈l,∃b,z=f a b:=by
 induction l generalizing m with
 |nil=>simp at h
 | cons a l ih=>
  cases m with
  |nil=>simp at h
  |cons b m=>
   simp only[aO9,jG]at h;rcases h with rfl|h;{exact⟨a,ai,b,rfl⟩};{obtain⟨a',ha,b',e⟩:=ih h;exact⟨a',by simp[ha],b',e⟩}
def Tt{w:World}(h:Yw w bs ss SB)(hs:ss.Pairwise (λs s'=>s.1<s'.1))(m:gP D (List.zipWith (λ(s:aP)g=>(Lit.U s.1,g)) ss SB)){ids:LI}(ha:Q.Asc D ids):ids=ss.map (·.1):=by
 refine tA ha.lt (D7.2 hs) λx=>?_;rw[ha.mem x,m.hs];constructor;{rintro⟨p,hp,e⟩;obtain⟨s,Hg,g,rfl⟩:=VI hp;simp only[CN,Mm]at e;exact ji.2 ⟨s,Hg,e⟩};{intro hx;obtain⟨s,Hg,rfl⟩:=ji.1 hx;obtain⟨i,hi,e⟩:=Df Hg;obtain⟨g,hg,hm⟩:=Hc h (i:=i) (s:=s) (by rw[bD hi,e]);exact⟨_,hm,rfl⟩}
def rz(l:LI):List UInt8:=l.map λn=>UInt8.ofNat n.toNat
theorem JX{α:Type}[LT α](irr:∀a:α,¬a<a)(tr:∀a b c:α,a<b->b<c->a<c):∀{l m:List α},l.Pairwise (·<·)->m.Pairwise (·<·)->(∀x,x∈l↔x∈m)->l=m
 |[],[],_,_,_=>rfl
 |[],b::m,_,_,h=>absurd ((h b).2 ai) ai
 |a::l,[],_,_,h=>absurd ((h a).1 ai) ai
 |a::l,b::m,h1,h2,h=>by
  rw[Al]at h1 h2;have Sy:a=b:=by rcases jG.1 ((h a).1 ai)with e|e;{exact e};{rcases jG.1 ((h b).2 ai)with e'|e';{exact e'.symm};{exact absurd (tr _ _ _ (h2.1 a e) (h1.1 b e')) (irr _)}}
  subst Sy;rw[JX irr tr h1.2 h2.2 (λx=>?_)];constructor;{intro hx;rcases jG.1 ((h x).1 (by simp[hx]))with e|e;{subst e;exact absurd (h1.1 _ hx) (irr _)};{exact e}};{intro hx;rcases jG.1 ((h x).2 (by simp[hx]))with e|e;{subst e;exact absurd (h2.1 _ hx) (irr _)};{exact e}}
def xJ{w:World}{NB:List Nat}(h:YA w bn ns NB)(hs:(ns.map λnd=>rz nd.path).Pairwise (·<·))(m:gP D (List.zipWith (λ(nd:aC)g=>(cL nd.path,g)) ns NB)){ks:List (List UInt8)}(ha:T.Asc D ks):ks=ns.map λnd=>rz nd.path:=by
 refine JX (λa=>List.lt_irrefl a) (λa b c=>List.lt_trans) ha.lt hs λx=>?_;rw[ha.mem x,m.hs];constructor;{rintro⟨p,hp,e⟩;obtain⟨s,Hg,g,rfl⟩:=VI hp;simp only[cL,ac9]at e;exact ji.2 ⟨s,Hg,e⟩};{intro hx;obtain⟨s,Hg,rfl⟩:=ji.1 hx;obtain⟨i,hi,e⟩:=Df Hg;obtain⟨g,hg,hm⟩:=Hd h (i:=i) (nd:=s) (by rw[bD hi,e]);exact⟨_,hm,rfl⟩}
def Ou{w:World}:(zeroValue 136).run prog w=.ok (.pointer none) w:=by kernel_rfl
def ag2{w:World}{bs n:Nat}{l:List (Lit×Nat)}(o:w.ownsMap prog 31 aV bs n D)(m:gP D l){I:Int}(hp:(Lit.U I,g)∈l)(hI:0<=I/\I<18446744073709551616):(Instr.lookup 132 (.map (some bs)) (.U I) false).run prog w=.ok (.pointer (some (Ad g 0))) w:=by
 obtain⟨v,ps,hr,hv⟩:=o.lookup iO underlying132 (Ou (w:=w)) (zd:=.nil) (zp:=[]) rfl (key:=.U I) (keyOf_int_mk underlying31 (oY hI));rw[m.at' _ hp]at hv;obtain rfl:=kn hv;exact hr
def Qy{w:World}{bn n:Nat}{l:List (Lit×Nat)}(o:w.ownsMap prog 9 aV bn n D)(m:gP D l){P:LI}(hp:(cL P,g)∈l)(hP:Mg P.length):(Instr.lookup 133 (.map (some bn)) (.string (aO P)) false).run prog w=.ok (.pointer (some (Ad g 0))) w:=by
 obtain⟨v,ps,hr,hv⟩:=o.lookup oe underlying133 (oG w) (zd:=.nil) (zp:=[]) rfl (key:=.string (aO P)) (kl:=cL P) (by rw[WideMaps.keyOf_string_mk underlying9 (by rw[ik];unfold maxLen;omega),oR])
 rw[m.at' _ hp]at hv;obtain rfl:=kn hv;exact hr
def jq{w w1 w2:World}(h:w.grownBy w1 (some sb))(k:w1.grownBy w2 row)(hr:∀b,row=some b->w.heap.size<=b\/b=sb):w.grownBy w2 (some sb):=
 ⟨k.os.trans h.os,k.tape.trans h.tape,k.output.trans h.output,dQ h.size k.size,λi hi cg=>(k.block i (gQ hi h.size) (λe=>by rcases hr i e.symm with h'|h';{omega};{exact cg (by rw[h'])})).trans (h.block i hi cg)⟩
def aE(w:World)(a:Addr)(v:Value):w.grownBy (w.setCell a v) (some a.block):=
 ⟨rfl,rfl,rfl,ai,λk _ hk=>fW _ _ _ _ (λe=>hk (by rw[e]))⟩
def tz{w w1 w2:World}(h:Bw w w1)(k:w1.grownBy w2 (some sb))(hs:w.heap.size<=sb):Bw w w2:=h.grown k h.size (λb e=>by cases e;exact hs)
def zF{w w':World}{k:TypeId}{R:Value->Option (DataW Unit×List MemPlace)}{b n:Nat}(h:w.ownsMap prog k R b n D)(hh:w'.heap[b]?=w.heap[b]?):w'.ownsMap prog k R b n D:=by
 obtain⟨es,clock,h1,h2⟩:=h;exact⟨es,clock,hh.trans h1,h2⟩
def al.grown{w w':World}{vs:List Value}(h:al w b vs)(hb:b<w.heap.size)(hg:w.grownBy w' row)(cg:some b≠row):al w' b vs:=by
 have hh:=hg.block b hb cg;refine⟨λi v hi=>(aF hh _).trans (h.1 i v hi),λo=>?_⟩;have:w'.frozen? (Ad b o)=w.frozen? (Ad b o):=sj hh;rw[this];exact h.2 o
theorem as3(l:LI):(⟨(rz l).toArray⟩:ByteArray)=aO l:=by
 have h:(aO l).data=(rz l).toArray:=by rw[<-Wc];simpa[rz]using kh (l:=l)
 cases hb:aO l with
 |mk d=>rw[hb]at h;simp only at h;rw[h]
def L6{w:World}(h:T.RdK B w v (ns.map λnd=>rz nd.path)):∃p c,v=.S p ns.length c/\(ns=[]\/∃g,p=some (Ad g 0)/\B<=g/\g<w.heap.size/\∀(j:Nat)(nd:aC),ns[j]?=some nd->w.cell? (Ad g (0+j))=some (.string (aO nd.path))):=by
 rcases h with⟨rfl,h0⟩|⟨g,cap,rfl,hb,hl,hH⟩;{
 have:ns=[]:=by simpa using h0
 subst this;exact⟨none,0,rfl,.inl rfl⟩};{
 refine⟨some (Ad g 0),cap,by rw[dZ],.inr ⟨g,rfl,hb,hl,λj nd hj=>?_⟩⟩;have Ck:=(bf.1 hj).1;have:=(hH j (by simpa using Ck)).1;rw[this,<-as3];have e:(ns.map λnd=>rz nd.path).toArray[j]! = rz nd.path:=by have e2:ns[j]=nd:=(bf.1 hj).2;simp[Ck,e2]
 rw[e]}
def jC.cells{w:World}{c:Array Value}{l:List Lf}(h:jC w nd c.toList l):∃q0 q1 q2 q3 q4 q5 q6 q7,c=#[q0,q1,q2,q3,q4,q5,q6,q7]/\∀u∈[q0,q1,q2,q3,q4,q5,q6,q7],u.oneCell'=true:=by
 obtain⟨p0,c0,p1,c1,p4,c4,p7,c7,l0,l1,l4,l7,-,h2,-⟩:=h;refine⟨_,_,_,_,_,_,_,_,by rw[<-Wc,h2],λu hu=>?_⟩;simp only[jG,Ki,uP]at hu;rcases hu with rfl|rfl|rfl|rfl|rfl|rfl|rfl|rfl<;>rfl
def Bv{g:Int}{SB NB:List Nat}{w:World}(h:Sto w b bs bn e g x t ss ns SB NB)(hs:Hid (ss.Pairwise (λs s'=>s.1<s'.1)))(hn:Hid ((ns.map λnd=>rz nd.path).Pairwise (·<·)))(ls:Mg ss.length)(ln:Mg ns.length)(hls:Hid (∀s∈ss,(0<=s.1/\s.1<18446744073709551616)/\s.2.2.length<=0/\∀e∈s.2.2,e.2.length<=1048576))(hln:Hid (∀nd∈ns,aN nd.path/\nd.path.length<=1048576/\nd.value.length<=1048576/\nd.holders.length<=1048576/\nd.watchers.length<=1048576/\nd.holders.Pairwise (·<·)/\nd.watchers.Pairwise (·<·))):Calls prog 50 #[.pointer (some (Ad b 0))] w λr w'=>∃p c q d A1 A2,r=.returned (ft e g x t (.S p ss.length c) (.S q ns.length d))/\mg w' (.S p ss.length c) ss/\oU w' (.S q ns.length d) ns/\wS w' (.S p ss.length c) ss A1/\xy w' (.S q ns.length d) ns A2/\nI w.heap.size w' (A1++A2)/\Bw w w':=by
 have k0:w.cell? (Ad b 0)=some (.U e):=aq h.hd 0;have k1:w.cell? (Ad b 1)=some (.U g):=aq h.hd 1;have k2:w.cell? (Ad b 2)=some (.U x):=aq h.hd 2;have k3:w.cell? (Ad b 3)=some (.I t):=aq h.hd 3;obtain⟨is,his,sz0,sz1,sz2⟩:=gh Tryz.infoSes;obtain⟨io,hio,oz0,oz1,oz2⟩:=gh Tryz.infoNod;obtain⟨W0,dP⟩:=az (w.alloc (.cells #[.U 0,.U 0,.U 0,.I 0,.S none 0 0,.S none 0 0] 35));have b0:=ew dP;have z0:W0.heap.size=w.heap.size+1:=by rw[dP];simp
 have r0:al W0 w.heap.size [.U 0,.U 0,.U 0,.I 0,.S none 0 0,.S none 0 0]:=by rw[dP];exact al.alloc w #[.U 0,.U 0,.U 0,.I 0,.S none 0 0,.S none 0 0] _
 go_in
 go_wp2_with fail;rw[<-dP];obtain⟨v0,mL⟩:=az W0.drew;have bv:Bw w v0:=mL▸b0.drew;have zv:v0.heap.size=w.heap.size+1:=mL▸z0;have R0:Hid (al v0 w.heap.size [.U 0,.U 0,.U 0,.I 0,.S none 0 0,.S none 0 0]):=mL▸r0;have S0:=af (ah (ag k0 bv) (ah (ag k1 bv) (ah (ag k2 bv) (ag k3 bv))));have H0:=af (h.below bv);have ZV:=af zv;refine dC (λw'=>w'.cell? (Ad b 0)=some (.U e)/\w'.cell? (Ad b 1)=some (.U g)/\w'.cell? (Ad b 2)=some (.U x)/\w'.cell? (Ad b 3)=some (.I t)) (mL▸aa S0) λhS=>?_;rw[<-mL]at hS⊢;clear mL dP b0 z0 r0 k0 k1 k2 k3 zv;refine nK 0 1 2 3 4 5 6 7 hS ?_;refine nK 8 9 10 11 12 13 14 15 hS ?_;refine tn 16 hS ?_;refine dM 17 λKK hK=>?_;go_simp;obtain⟨v1,YP⟩:=az (v0.alloc (.cells #[.U 0,.U 0,.U 0,.I 0,.S none 0 0,.S none 0 0] 35));have aA:=ew YP;have c1:al v1 v0.heap.size [.U 0,.U 0,.U 0,.I 0,.S none 0 0,.S none 0 0]:=by rw[YP];exact al.alloc v0 #[.U 0,.U 0,.U 0,.I 0,.S none 0 0,.S none 0 0] _
 have z1:v1.heap.size=v0.heap.size+1:=by rw[YP];simp
 rw[<-YP];obtain⟨sb,Ui⟩:=az v0.heap.size;rw[<-Ui]at c1⊢;have S1:=af (ah (ag S0.1 aA) (ah (ag S0.2.1 aA) (ah (ag S0.2.2.1 aA) (ag S0.2.2.2 aA))));have H1:=af (H0.below aA);have R1:=af (R0.below (aG (aa ZV)) aA);have b1:=aj bv aA;have HZ:=af (ah (aa ZV) (ah Ui z1));refine gr hK (by exact S1) λhS=>?_;have rc0:=c1.1 0 _ rfl;have rc1:=c1.1 1 _ rfl;have rc2:=c1.1 2 _ rfl;have rc3:=c1.1 3 _ rfl;have rc4:=c1.1 4 _ rfl;have rc5:=c1.1 5 _ rfl;have rf:=c1.2;clear hK KK YP aA Ui z1;refine dM 18 λKK hK=>?_;go_simp;obtain⟨Z,hZ⟩:=az ((((((v1.setCell (Ad sb 0) (.U e)).setCell (Ad sb 1) (.U g)).setCell (Ad sb 2) (.U x)).setCell (Ad sb 3) (.I t)).setCell (Ad sb 4) (.S none 0 0)).setCell (Ad sb 5) (.S none 0 0));obtain⟨zz0,zz1,zz2⟩:=aa HZ;have CZ:al Z sb [.U e,.U g,.U x,.I t,.S none 0 0,.S none 0 0]:=by rw[hZ];exact((((((c1.fG 0 ai _).fG 1 ai _).fG 2 ai _).fG 3 ai _).fG 4 ai _).fG 5 ai _)
 have hgZ:v1.grownBy Z (some sb):=by rw[hZ];exact gL (gL (gL (gL (gL (aE _ _ _) (aE _ _ _)) (aE _ _ _)) (aE _ _ _)) (aE _ _ _)) (aE _ _ _)
 have bZ:Bw w Z:=tz b1 hgZ ae;have RZ:=R1.grown ae hgZ aU;have SZ:Z.cell? (Ad b 0)=some (.U e)/\Z.cell? (Ad b 1)=some (.U g)/\Z.cell? (Ad b 2)=some (.U x)/\Z.cell? (Ad b 3)=some (.I t):=⟨aq (h.below bZ).hd 0,aq (h.below bZ).hd 1,aq (h.below bZ).hd 2,aq (h.below bZ).hd 3⟩;have zZ:sb<Z.heap.size:=aG hgZ.size;rw[<-hZ];refine gr hK (by exact SZ) λhS=>?_;clear hK KK hZ hgZ SZ c1 rc0 rc1 rc2 rc3 rc4 rc5 rf S1 H1 R1 S0 H0 R0;refine dw ?_;have Uh:w.heap.size<sb:=ae;have CZ':=af CZ;have RZ':=af RZ;have HS:=af λ(w':World)(hb:Bw w w')=>h.below hb;have HLW:Hid (∀k s gs,ss[k]?=some s->SB[k]?=some gs->b<w.heap.size/\bs<w.heap.size/\gs<w.heap.size):=λk s gs hy YY=>by obtain⟨_,_,o,_,_⟩:=h.Tv.own;obtain⟨_,y3,_⟩:=h.Tv.blk k _ gs hy YY;exact⟨aQ h.hd,o.lt,aQ y3⟩
 have HLN:Hid (∀k s gs,ns[k]?=some s->NB[k]?=some gs->b<w.heap.size/\bn<w.heap.size/\gs<w.heap.size):=λk s gs hy YY=>by obtain⟨_,_,o,_,_⟩:=h.qj.own;obtain⟨_,_,_,y3⟩:=h.qj.blk k _ gs hy YY;exact⟨aQ h.hd,o.lt,aQ y3.blk⟩
 have BZ:=af bZ;clear hS CZ RZ h bv b1 zz0 zz1 zz2 HZ ZV;obtain⟨hHd,bd7,an3⟩:=aa HS _ BZ;obtain⟨D,nD,oD,hnD,mD⟩:=id bd7.own;have k4:Z.cell? (Ad b 4)=some (.map (some bs)):=aq hHd 4;have MD:=af mD;have OD:=af oD;clear hHd an3 mD;go_wp2_with fail;refine(Q.kH bs nD D _ oD (dQ oD.size_le hnD)).mono ?_;rintro r w1⟨kv,ids,rfl,SJ,Oa,aA⟩;obtain rfl:=Tt bd7 hs MD SJ;obtain⟨pk,ck,Ak,rfl,rk,lk,ak⟩:=L8 Oa;have Wu:(ss.map (·.1)).length=ss.length:=dZ _;obtain⟨nk,enk⟩:=az ((ss.map (·.1)).length);rw[<-enk]at rk lk⊢;have bI5:nk=ss.length:=by rw[enk,Wu]
 have ENK:=af bI5;have dF4:nk<=1048576:=ae;have HKV:=af (ah rk (ah lk ak));have b1:=aj BZ aA;have z1:=aA.size;have C1:=af (CZ'.below zZ aA);have R1:=af (RZ'.below ae aA);clear rk lk ak Oa SJ aA k4 bd7 oD enk bI5 Wu CZ' RZ';go_wp2_with fail
 go_loopw[31](λiv wr=>∃(k:Nat)(Sv:Value)(Ls:List (List Lf)),k<=nk/\iv=.I k/\Hid (al wr sb [.U e,.U g,.U x,.I t,Sv,.S none 0 0]/\OwnT lp 84 3 w1.heap.size wr Sv (ss.take k) Ls)/\Hid (w1.grownBy wr (some sb))) (λiv _=>nk-(intOf iv).toNat)
 exact⟨0,_,[],fN _,rfl,⟨C1,OwnT.nil _ _ _ _ _⟩,qe⟩;{
 obtain⟨k,Sv,Ls,hk,rfl,ka,yI⟩:=hrel;have BB:=tz b1 yI ae;by_cases aT:k<nk;{
 have bu:=aS k nk;have fh:k<ss.length:=aa ENK▸aT;obtain⟨⟨I,Dl,Qu⟩,hy⟩:=mR fh;obtain⟨hH,hSe,-⟩:=aa HS _ BB;obtain⟨gs,YY,jl⟩:=Hc hSe hy;obtain⟨u,hbu,hru⟩:=hSe.blk k _ gs hy YY;dsimp only at hbu hru jl;obtain⟨pq,cq,rfl,-⟩:=id hru;obtain⟨nq,enq⟩:=aI Qu.length;rw[enq]at hru hbu;have ENQ:=af enq;obtain⟨hI,hq1,hq2⟩:=aa hls _ (aY hy);dsimp only at hI hq1 hq2;have hnq:nq<=0:=enq▸hq1;have HQ2:Hid (∀e∈Qu,e.2.length<=1048576):=hq2;obtain⟨gk,ok,rfl,hck⟩:∃gk ok,pk=some (Ad gk ok)/\wr.cell? (Ad gk (ok+k))=some (.U I):=by obtain⟨rk,lk,ak⟩:=aa HKV;have rk':=rk.dR lk (w':=wr) (λa ha=>yI.block a.b (ak.uV.lt ha) (by have:=ak.lo a ha;simp;omega));obtain⟨p',c',ee,hd⟩:=rk';obtain⟨rfl,-,-⟩:=js ee;rcases hd with hd|⟨b',o',rfl,hd⟩;{have:=uO List.length hd;simp at this;rw[this]at fh;simp at fh};{refine⟨b',o',rfl,?_⟩;rw[hd k (by simpa using fh)];simp[gK,hy]}
 have HY:=af hy;obtain⟨hC,hO⟩:=aa ka;have cS4:=hC.1 4 _ rfl;have kb4:wr.cell? (Ad b 4)=some (.map (some bs)):=aq hH 4;obtain⟨D',n',oD',hn',mD'⟩:=hSe.own;have HLK:=af (ah mD' (ah jl hI));have hLT:b<w1.heap.size/\bs<w1.heap.size/\gs<w1.heap.size:=by obtain⟨y1,y2,-⟩:=aa HS _ b1;obtain⟨_,_,o,_,_⟩:=y2.own;obtain⟨_,y3,_⟩:=y2.blk k _ gs hy YY;exact⟨aQ y1,o.lt,aQ y3⟩
 have HLT:=af hLT;have hLW:b<w.heap.size/\bs<w.heap.size/\gs<w.heap.size:=aa HLW k _ gs hy YY;have t3b:b≠sb:=ae;have t4b:bs≠sb:=ae;have t5b:gs≠sb:=ae;obtain⟨vA,jH⟩:=az wr.drew;have gS:=nH jH;have SXA:=af (ah (ag kb4 gS) (ah (oD'.kept (aB gS none) ai) (ah (ag (aq hbu 0) gS) (ah (ag (aq hbu 1) gS) (ag (aq hbu 2) gS)))));have RQ:=af (hru.below gS);have OA:=af (hO.below lp.keep gS);have CXA:=af (hC.below (aG yI.size) gS);have gA:Hid (w1.grownBy vA (some sb)):=jq yI (aB gS none) (λb e=>by cases e);have BXA:=af (cR vA.heap.size vA);have zxA:sb<vA.heap.size:=aG gA.size;clear enq hq1 hq2 fh YY hLT hLW cS4;go_wp2_with fail;clear hck;refine dC (λw'=>w'.cell? (Ad b 4)=some (.map (some bs))/\w'.ownsMap prog 31 aV bs n' D'/\w'.cell? (Ad gs 0)=some (.U I)/\w'.cell? (Ad gs 1)=some (.I Dl)/\w'.cell? (Ad gs 2)=some (.S pq nq cq)) (jH▸aa SXA) λhS=>?_;rw[<-jH]at hS⊢;clear jH gS hbu hru jl hI oD' mD' hC hO kb4 hH hSe;refine mU 0 2 3 4 hS ?_;refine kG 5 6 hS ?_;refine xh (i:=7) (oi:=_) (v:=?_) (by simp only[xQ,BQ,BO];rfl) bg bg bg (λ_ _ _ h=>h) (Or.inl ⟨aH,?_⟩) hS ?_;rotate_left;{(intro w' xt;(try dsimp only at xt);(have hlk:=ag2 xt.2.1 HLK.1 HLK.2.1 HLK.2.2);go_simp;try with_reducible rfl)}
 simp only[Act.put,xa,xb,xc];refine kG 8 9 hS ?_;refine ry [1,10] (cn (λKK hK=>?_) (cn (λKK hK=>?_) eG));have cl:=CXA.1 4 _ rfl;go_simp;refine gr hK (by exact SXA) λhS=>?_;refine ry [10] (cn (λKK hK=>?_) eG)
 all_goals(
  refine jv (UQ I Dl pq cq nq Qu ENQ _ (RQ.below BXA) hnq HQ2) ?_;rintro r v1⟨pe,ce,Ae,rfl,Z9,YM,JC,aA⟩;refine⟨_,rfl,?_⟩;have HE1:=af (ah Z9 (ah YM (JC.mono (B':=vA.heap.size) BXA.size)));obtain⟨s1,s2,s3,s4,s5⟩:=aa SXA;have SX1:=af (ah (ag s1 aA) (ah (s2.kept (aB aA none) ai) (ah (ag s3 aA) (ah (ag s4 aA) (ag s5 aA)))));have CX1:=af (CXA.below ae aA);have AO:=af (aj BXA aA);have zx1:vA.heap.size<=v1.heap.size:=AO.size;refine gr hK (by exact SX1) λhS=>?_
  skip)
 refine ry [11] (cn (λKK hK=>?_) eG);rotate_left;refine ry [1,11] (cn (λKK hK=>?_) (cn (λKK hK=>?_) eG));have cl:=CX1.1 4 _ rfl;go_simp;refine gr hK (by exact SX1) λhS=>?_;refine ry [11] (cn (λKK hK=>?_) eG)
 all_goals(
  go_simp;obtain⟨v2,Uf⟩:=az (v1.alloc (.cells #[.U I,.I Dl,.S pe nq ce] 84));have aD:=ew Uf;have Dy:∀j u,([.U I,.I Dl,.S pe nq ce]:List Value)[j]?=some u->v2.cell? (Ad v1.heap.size j)=some u:=λj u hu=>by rw[Uf];exact(al.alloc v1 #[.U I,.I Dl,.S pe nq ce] 84).1 j u (by simpa using hu)
  rw[<-Uf];obtain⟨gE,hgE⟩:=az v1.heap.size;rw[<-hgE]at Dy⊢;obtain⟨Z9,YM,JC⟩:=aa HE1;have kE:∀a∈Ae,v2.heap[a.b]?=v1.heap[a.b]?:=λa ha=>aD.block _ (JC.uV.lt ha);have EL2:Hid (lp v2 (I,Dl,Qu) [.U I,.I Dl,.S pe nq ce] Ae/\nI vA.heap.size v2 Ae):=⟨⟨pe,ce,by rw[aa ENQ],by rw[aa ENQ];exact Z9.dR YM kE,by rw[aa ENQ];exact Ep.keep YM kE⟩,JC.keep kE⟩
  have vW:=af Dy;obtain⟨s1,s2,s3,s4,s5⟩:=aa SX1;have SX2:=af (ah (ag s1 aD) (ah (s2.kept (aB aD none) ai) (ah (ag s3 aD) (ah (ag s4 aD) (ag s5 aD)))));have CX2:=af (CX1.below ae aD);have Zi:=af (aj AO aD);have zx2:vA.heap.size<=v2.heap.size:=Zi.size;refine gr hK (by exact SX2) λhS=>?_;clear hK KK Uf aD Dy hgE Z9 YM JC kE
  skip)
 rotate_left;refine ry [1] (cn (λKK hK=>?_) eG);have cl:=CX2.1 4 _ rfl;go_simp;refine gr hK (by exact SX2) λhS=>?_;clear hK KK cl
 all_goals(
  have OC:=OA.below lp.keep Zi;obtain⟨elC,apC⟩:=aa EL2;obtain⟨cs,g1,g2,g3,g4,g5,g6,g7⟩:=id OC;have hlA:=OA.lt;have hle:(ss.take k).length<=1048576:=by rw[od];omega
  have zA1:=gA.size;have zA:w1.heap.size<=v2.heap.size:=ae;refine ry [12] ?_;refine cn (λKK hK=>?_) ?_;{
 refine pf aH aH is 3 underlying32 his sz0 sz1 sz2 rfl aZ aH g4 1 1 [.U I,.I Dl,.S pe nq ce] aH rfl (aa vW) (λu hu=>by simp at hu;rcases hu with rfl|rfl|rfl<;>rfl) iF ae zA ?_;intro v' w9 du hg mX;have sn:=OwnT.snoc g1 g2 g3 g5 g6 g7 lp.keep elC rfl apC zA1 (λa ha=>(hlA.2 a ha).2) (λb hb=>(hlA.1 b hb).2) du hg mX;rw[<-vH (aa HY)]at sn;obtain⟨pN,cN,evN,-⟩:=id sn.read;obtain⟨lN,hlN⟩:=az ((ss.take (k+1)).length);rw[<-hlN]at evN;subst evN;clear hlN;have Jp:∀z,z<w1.heap.size->some z≠Sv.ownBlock:=λz hz e=>by have:=(hlA.1 z e.symm).1;omega
 have AW:w1.grownBy w9 (some sb):=jq (jq gA (aB Zi none) (λb e=>by cases e)) hg (λb e=>.inl (hlA.1 b e).1);have C9:=CX2.grown ae hg (Jp sb ae);obtain⟨t1,t2,t3⟩:=aa HLT;obtain⟨s1,s2,s3,s4,s5⟩:=aa SX2;have S9:=af (ah (hg.cell s1 (Jp (b) t1)) (ah (s2.kept hg (Jp (bs) t2)) (ah (hg.cell s3 (Jp (gs) t3)) (ah (hg.cell s4 (Jp (gs) t3)) (hg.cell s5 (Jp (gs) t3))))));refine gr hK (by exact S9) λhS=>?_;have SN:=af sn;have cc:=C9.1 4 _ rfl;have cf:=C9.2;have hlS:=sn.lt;clear hK KK sn du mX g1 g2 g3 g4 g5 g6 g7 elC apC OC s1 s2 s3 s4 s5;refine tn 13 hS ?_;refine dM 14 λKK hK=>?_;go_simp;obtain⟨wT,hwT⟩:=az (w9.setCell (Ad sb 4) (.S pN lN cN));have CT:=C9.fG 4 ai (.S pN lN cN);have hkT:∀z,z≠sb->wT.heap[z]?=w9.heap[z]?:=λz hz=>by rw[hwT];exact fW _ _ _ _ hz
 have gT:Hid (w1.grownBy wT (some sb)):=by show World.grownBy _ _ _;rw[hwT];exact gL AW (aE _ _ _)
 have zT:w9.heap.size<=wT.heap.size:=by rw[hwT];simp
 have OT:Hid (OwnT lp 84 3 w1.heap.size wT (.S pN lN cN) (ss.take (k+1)) (Ls++[Ae])):=SN.keep (lp.keep _ _) zT (λz hz=>hkT z (aG (hlS.1 z hz).1)) (λy hy=>hkT _ (aG (hlS.2 y hy).1));rw[<-hwT]at CT⊢;have hcT:=λz(hz:z≠sb)o=>aF (hkT z hz) o;obtain⟨s1,s2,s3,s4,s5⟩:=aa S9;have ST:=ah ((hcT _ t3b _).trans s1) (ah (zF s2 (hkT _ t4b)) (ah ((hcT _ t5b _).trans s3) (ah ((hcT _ t5b _).trans s4) ((hcT _ t5b _).trans s5))));refine gr hK (by exact ST) λhS=>?_;have CT2:=af CT;clear hK KK hwT hkT hcT C9 cc cf CT hg AW zT ST s1 s2 s3 s4 s5;refine dw ?_;clear hS hlS hlA;go_wp2;go_roundw;exact⟨k+1,_,_,ae,by go_num,⟨CT2,OT⟩,gT⟩;exact bM};exact eG
  skip)}
 {
 have bu:=dm k nk;have yx:k=nk:=ae;subst yx;obtain⟨hC,hO⟩:=aa ka;rw[ke (aa ENK▸iP _)]at hO;obtain⟨w2,ew2⟩:=az wr;subst ew2;have R2:=af (R1.grown ae (aa yI) aU);obtain⟨pS,cS,evS,-⟩:=id hO.read;obtain⟨lS,hlS⟩:=az ss.length;rw[<-hlS]at evS;subst evS;have HLS:=af hlS;obtain⟨rdS,A1,lvS,apS⟩:=hO.se;have HA1:=af λa ha=>apS.uV.lt (a:=a) ha;have OS:=af (ah rdS (ah lvS apS));clear rdS lvS apS;have CS:=af hC;have z12:=yI.size;obtain⟨hHd,-,an3⟩:=aa HS _ BB;obtain⟨DN,nN,oN,hnN,mN⟩:=id an3.own;have k5:w2.cell? (Ad b 5)=some (.map (some bn)):=aq hHd 5;have MN:=af mN;clear hO hC hlS hHd mN ka hk aT bu R1 C1 HKV yI;go_wp2_with fail;refine(T.kH bn nN DN _ oN (dQ oN.size_le hnN)).mono ?_;rintro r w3⟨kv,ks,rfl,SJ,Oa,aL⟩;obtain rfl:=xJ an3 hn MN SJ;obtain⟨pk2,ck2,rfl,Hm⟩:=L6 Oa;obtain⟨nk2,bf6⟩:=az ns.length;rw[<-bf6];have bQ3:=af bf6;have cW9:nk2<=1048576:=ae;have HKN:=af Hm;have b3:=aj BB aL;have z3:=aL.size;have C3:=af (CS.below ae aL);have R3:=af (R2.below ae aL);have kS3:∀a∈A1,w3.heap[a.b]?=w2.heap[a.b]?:=λa ha=>aL.block _ (aa HA1 a ha);have O3:=af (ah (OS.1.dR OS.2.1 kS3) (ah (wS.keep OS.2.1 kS3) (OS.2.2.keep kS3)));clear Hm Oa SJ aL k5 an3 oN bf6 CS R2 OS BB kS3;go_wp2_with fail
 go_loopw[56](λiv wr=>∃(k:Nat)(Sv:Value)(Ls:List (List Lf)),k<=nk2/\iv=.I k/\Hid (al wr sb [.U e,.U g,.U x,.I t,.S pS lS cS,Sv]/\OwnT jC 119 8 w3.heap.size wr Sv (ns.take k) Ls)/\Hid (w3.grownBy wr (some sb))) (λiv _=>nk2-(intOf iv).toNat)
 exact⟨0,_,[],fN _,rfl,⟨C3,OwnT.nil _ _ _ _ _⟩,qe⟩;{
 obtain⟨k,Sv,Ls,hk,rfl,ka,yI⟩:=hrel;have BB:=tz b3 yI ae;by_cases aT:k<nk2;{
 have bu:=aS k nk2;have fh:k<ns.length:=aa bQ3▸aT;obtain⟨nd,hy⟩:=mR fh;obtain⟨hH,-,hNo⟩:=aa HS _ BB;obtain⟨gs,YY,jl⟩:=Hd hNo hy;obtain⟨Vb,hb,ub,hkn⟩:=hNo.blk k _ gs hy YY;obtain⟨KJ,KI,EO,Cj,hl5,hl6,hl7⟩:=aa hln _ (aY hy);obtain⟨gk,rfl,hck⟩:∃gk,pk2=some (Ad gk 0)/\wr.cell? (Ad gk k)=some (.string (aO nd.path)):=by rcases aa HKN with h0|⟨gk,rfl,h1,h2,h3⟩;{rw[h0]at fh;simp at fh};{exact⟨gk,rfl,(aF (yI.block gk h2 aU) _).trans (by have:=h3 k nd hy;rwa [kS]at this)⟩}
 have HY:=af hy;obtain⟨hC,hO⟩:=aa ka;have kb4:wr.cell? (Ad b 5)=some (.map (some bn)):=aq hH 5;obtain⟨D',n',oD',hn',mD'⟩:=hNo.own;have HLK:=af (ah mD' (ah jl KI));have hLW:b<w.heap.size/\bn<w.heap.size/\gs<w.heap.size:=aa HLN k _ gs hy YY;have hLT:b<w3.heap.size/\bn<w3.heap.size/\gs<w3.heap.size:=aG b3.size;have HLT:=af hLT;have t3b:b≠sb:=ae;have t4b:bn≠sb:=ae;have t5b:gs≠sb:=ae;obtain⟨vA,jH⟩:=az wr.drew;have gS:=nH jH;have SXA:=af (ah (ag kb4 gS) (oD'.kept (aB gS none) ai));have RQ:=af (hkn.below gS);have OA:=af (hO.below jC.keep gS);have CXA:=af (hC.below (aG yI.size) gS);have gA:Hid (w3.grownBy vA (some sb)):=jq yI (aB gS none) (λb e=>by cases e);have BXA:=af (cR vA.heap.size vA);have zxA:sb<vA.heap.size:=aG gA.size;clear fh YY hLT hLW;go_wp2_with fail;clear hck;refine dC (λw'=>w'.cell? (Ad b 5)=some (.map (some bn))/\w'.ownsMap prog 9 aV bn n' D') (jH▸aa SXA) λhS=>?_;rw[<-jH]at hS⊢;clear jH gS hkn jl oD' mD' hC hO kb4 hH hNo;refine mU 0 2 3 4 hS ?_;refine kG 5 6 hS ?_;refine xh (i:=7) (oi:=_) (v:=?_) (by simp only[xQ,BQ,BO];rfl) bg bg bg (λ_ _ _ h=>h) (Or.inl ⟨aH,?_⟩) hS ?_;rotate_left;{(intro w' xt;(try dsimp only at xt);(have hlk:=Qy xt.2 HLK.1 HLK.2.1 HLK.2.2);go_simp;try with_reducible rfl)}
 simp only[Act.put,xa,xb,xc];refine tn 8 hS ?_;refine ry [1,9] (cn (λKK hK=>?_) (cn (λKK hK=>?_) eG));have cl:=CXA.1 5 _ rfl;go_simp;refine gr hK (by exact SXA) λhS=>?_;clear hK KK cl;refine ry [9] (cn (λKK hK=>?_) eG)
 all_goals(
  refine yZ (ab5 (RQ.below BXA) hl6 hl7 KI EO Cj hl5 KJ) ?_;rintro r v1⟨cn,Ae,rfl,Yc,JC,aA⟩;obtain⟨q0,q1,q2,q3,q4,q5,q6,q7,ecn,one⟩:=Yc.cells;subst ecn;refine⟨_,rfl,?_⟩;have HE1:=af (ah Yc (ah one (JC.mono (B':=vA.heap.size) BXA.size)));obtain⟨s1,s2⟩:=aa SXA;have SX1:=af (ah (ag s1 aA) (s2.kept (aB aA none) ai));have CX1:=af (CXA.below ae aA);have AO:=af (aj BXA aA);have zx1:vA.heap.size<=v1.heap.size:=AO.size;clear s1 s2;refine gr hK (by exact SX1) λhS=>?_;clear hK KK aA Yc JC one
  skip)
 refine ry [10] (cn (λKK hK=>?_) eG);rotate_left;refine ry [1,10] (cn (λKK hK=>?_) (cn (λKK hK=>?_) eG));have cl:=CX1.1 5 _ rfl;go_simp;refine gr hK (by exact SX1) λhS=>?_;clear hK KK cl;refine ry [10] (cn (λKK hK=>?_) eG)
 all_goals(
  go_simp;obtain⟨v2,Uf⟩:=az (v1.alloc (.cells #[q0,q1,q2,q3,q4,q5,q6,q7] 119));have aD:=ew Uf;have Dy:∀j u,([q0,q1,q2,q3,q4,q5,q6,q7]:List Value)[j]?=some u->v2.cell? (Ad v1.heap.size j)=some u:=λj u hu=>by rw[Uf];exact(al.alloc v1 #[q0,q1,q2,q3,q4,q5,q6,q7] 119).1 j u (by simpa using hu)
  rw[<-Uf];obtain⟨gE,hgE⟩:=az v1.heap.size;rw[<-hgE]at Dy⊢;obtain⟨Yc,one,JC⟩:=aa HE1;have kE:∀a∈Ae,v2.heap[a.b]?=v1.heap[a.b]?:=λa ha=>aD.block _ (JC.uV.lt ha);have EL2:Hid (jC v2 nd [q0,q1,q2,q3,q4,q5,q6,q7] Ae/\nI vA.heap.size v2 Ae):=⟨jC.keep _ _ _ _ _ Yc kE,JC.keep kE⟩
  have ONE:=af one;have vW:=af Dy;obtain⟨s1,s2⟩:=aa SX1;have SX2:=af (ah (ag s1 aD) (s2.kept (aB aD none) ai));have CX2:=af (CX1.below ae aD);have Zi:=af (aj AO aD);have zx2:vA.heap.size<=v2.heap.size:=Zi.size;clear s1 s2;refine gr hK (by exact SX2) λhS=>?_;clear hK KK Uf aD Dy hgE Yc JC kE one
  skip)
 rotate_left;refine ry [1] (cn (λKK hK=>?_) eG);have cl:=CX2.1 5 _ rfl;go_simp;refine gr hK (by exact SX2) λhS=>?_;clear hK KK cl
 all_goals(
  have OC:=OA.below jC.keep Zi;obtain⟨elC,apC⟩:=aa EL2;obtain⟨cs,g1,g2,g3,g4,g5,g6,g7⟩:=id OC;have hlA:=OA.lt;have hle:(ns.take k).length<=1048576:=by rw[od];omega
  have zA1:=gA.size;have zA:w3.heap.size<=v2.heap.size:=ae;refine ry [11] ?_;refine cn (λKK hK=>?_) ?_;{
 refine pf aH aH io 8 underlying33 hio oz0 oz1 oz2 rfl aZ aH g4 1 1 [q0,q1,q2,q3,q4,q5,q6,q7] aH rfl vW ONE iF ae zA ?_;intro v' w9 du hg mX;have sn:=OwnT.snoc g1 g2 g3 g5 g6 g7 jC.keep elC rfl apC zA1 (λa ha=>(hlA.2 a ha).2) (λb hb=>(hlA.1 b hb).2) du hg mX;rw[<-vH (aa HY)]at sn;obtain⟨pN,cN,evN,-⟩:=id sn.read;obtain⟨lN,hlN⟩:=az ((ns.take (k+1)).length);rw[<-hlN]at evN;subst evN;clear hlN;have Jp:∀z,z<w3.heap.size->some z≠Sv.ownBlock:=λz hz e=>by have:=(hlA.1 z e.symm).1;omega
 have AW:w3.grownBy w9 (some sb):=jq (jq gA (aB Zi none) (λb e=>by cases e)) hg (λb e=>.inl (hlA.1 b e).1);have C9:=CX2.grown ae hg (Jp sb ae);obtain⟨t1,t2,t3⟩:=aa HLT;obtain⟨s1,s2⟩:=aa SX2;have S9:=af (ah (hg.cell s1 (Jp (b) t1)) (s2.kept hg (Jp (bn) t2)));refine gr hK (by exact S9) λhS=>?_;have SN:=af sn;have cc:=C9.1 5 _ rfl;have cf:=C9.2;have hlS:=sn.lt;clear hK KK sn du mX g1 g2 g3 g4 g5 g6 g7 elC apC OC s1 s2;refine tn 12 hS ?_;refine dM 13 λKK hK=>?_;go_simp;obtain⟨wT,hwT⟩:=az (w9.setCell (Ad sb 5) (.S pN lN cN));have CT:=C9.fG 5 ai (.S pN lN cN);have hkT:∀z,z≠sb->wT.heap[z]?=w9.heap[z]?:=λz hz=>by rw[hwT];exact fW _ _ _ _ hz
 have gT:Hid (w3.grownBy wT (some sb)):=by show World.grownBy _ _ _;rw[hwT];exact gL AW (aE _ _ _)
 have zT:w9.heap.size<=wT.heap.size:=by rw[hwT];simp
 have OT:Hid (OwnT jC 119 8 w3.heap.size wT (.S pN lN cN) (ns.take (k+1)) (Ls++[Ae])):=SN.keep (jC.keep _ _) zT (λz hz=>hkT z (aG (hlS.1 z hz).1)) (λy hy=>hkT _ (aG (hlS.2 y hy).1));rw[<-hwT]at CT⊢;have hcT:=λz(hz:z≠sb)o=>aF (hkT z hz) o;obtain⟨s1,s2⟩:=aa S9;have ST:=ah ((hcT _ t3b _).trans s1) (zF s2 (hkT _ t4b));refine gr hK (by exact ST) λhS=>?_;have CT2:=af CT;clear hK KK hwT hkT hcT C9 cc cf CT hg AW zT ST s1 s2;refine dw ?_;clear hS hlS hlA;go_wp2;go_roundw;exact⟨k+1,_,_,ae,by go_num,⟨CT2,OT⟩,gT⟩;exact bM};exact eG
  skip)}
 {
 have bu:=dm k nk2;have yx:k=nk2:=ae;subst yx;obtain⟨hC,hO⟩:=aa ka;rw[ke (aa bQ3▸iP _)]at hO;obtain⟨pN,cN,evN,-⟩:=id hO.read;obtain⟨lN,hlN⟩:=az ns.length;rw[<-hlN]at evN;subst evN;obtain⟨rdN,A2,lvN,apN⟩:=hO.no;obtain⟨rdS,lvS,apS⟩:=aa O3;have R4:=R3.grown ae (aa yI) aU;have c0:=hC.1 0 _ rfl;have c1:=hC.1 1 _ rfl;have c2:=hC.1 2 _ rfl;have c3:=hC.1 3 _ rfl;have c4:=hC.1 4 _ rfl;have c5:=hC.1 5 _ rfl;have r0:=R4.1 0 _ rfl;have r1:=R4.1 1 _ rfl;have r2:=R4.1 2 _ rfl;have r3:=R4.1 3 _ rfl;have r4:=R4.1 4 _ rfl;have r5:=R4.1 5 _ rfl;have rf:=R4.2;have YS:¬w.heap.size=sb:=ae;have hsn:¬sb=w.heap.size:=ae;have FIN:=af (ah rdN (ah lvN apN));have FIS:=af (ah rdS (ah lvS apS));have cL4:=af hlN;have z3r:=yI.size;clear rdN lvN apN rdS lvS apS hO hC R4 ka hlN;go_wp2;obtain⟨rdN,lvN,apN⟩:=aa FIN;obtain⟨rdS,lvS,apS⟩:=aa FIS;obtain⟨Z,hZ⟩:=az ((((((wr.setCell (Ad w.heap.size 0) (.U e)).setCell (Ad w.heap.size 1) (.U g)).setCell (Ad w.heap.size 2) (.U x)).setCell (Ad w.heap.size 3) (.I t)).setCell (Ad w.heap.size 4) (.S pS lS cS)).setCell (Ad w.heap.size 5) (.S pN lN cN));have hkZ:∀z,z≠w.heap.size->Z.heap[z]?=wr.heap[z]?:=λz hz=>by
  rw[hZ]
  iterate 6 rw[fW _ _ _ _ hz]
 have k1:∀a∈A1,Z.heap[a.b]?=w3.heap[a.b]?:=λa ha=>by have h1:=aa HA1 a ha;have h2:=apS.lo a ha;rw[hkZ _ ae];exact yI.block _ ae aU
 have k2:∀a∈A2,Z.heap[a.b]?=wr.heap[a.b]?:=λa ha=>by have h2:=apN.lo a ha;exact hkZ _ (aG b3.size)
 have hbZ:Bw w Z:=by rw[hZ];exact(((((BB.setCell ao _).setCell ao _).setCell ao _).setCell ao _).setCell ao _).setCell ao _
 have eS:=aa HLS;have eN:=aa cL4;refine dD (v:=ft e g x t (.S pS lS cS) (.S pN lN cN)) (by simp[results,results50,go_sem,r0,r1,r2,r3,r4,r5,c0,c1,c2,c3,c4,c5]) rfl ?_;rw[<-hZ];subst eS eN;refine⟨pS,cS,pN,cN,rfl,rdS.dR lvS k1,rdN.dR lvN k2,A1,wS.keep lvS k1,A2,xy.keep lvN k2,?_,hbZ⟩;exact((apS.keep k1).app (apN.keep k2) ae (λa ha=>aG (aa HA1 a ha))).mono ae}}}}
def VF{α:Type}{R:α->α->Prop}{l:List α}(h:∀(i j:Nat)(a b:α),l[i]?=some a->l[j]?=some b->i<j->R a b):l.Pairwise R:=by
 rw[Jf];intro i j hi hj kr;exact h i j _ _ (bD hi) (bD hj) kr
def aA1(h:lW x ss=true):ss.Pairwise (λs s'=>s.1<s'.1):=by
 refine VF λi j s s' hi hj kr=>?_;rw[lW,fx]at h;have:=AJ h.2 (λi j k h1 h2=>by simp at h1 h2⊢;omega) j i (bf.1 hj).1 kr;simpa only[gK,hi,hj,si,jw]using this
def aC0{g:Int}(h:kO e g ns=true):(ns.map λnd=>rz nd.path).Pairwise (·<·):=by
 rw[D7];refine VF λi j s s' hi hj kr=>?_;rw[kO,fx]at h;have:=AJ h.2 (λi j k h1 h2=>nT.2 (AI (nT.1 h1) (nT.1 h2))) j i (bf.1 hj).1 kr;simp only[gK,hi,hj,si]at this;rw[nT,T.oy,jw,fI,fI]at this;exact this
def Ip(h:RH l=true):l.Pairwise (·<·):=by
 refine VF λi j s s' hi hj kr=>?_;rw[RH]at h;have:=AJ h (λi j k h1 h2=>by simp at h1 h2⊢;omega) j i (bf.1 hj).1 kr;simpa only[gK,hi,hj,si,jw]using this
def Pz{g:Int}(h:kO e g ns=true):∀nd∈ns,nd.holders.Pairwise (·<·)/\nd.watchers.Pairwise (·<·):=by
 intro nd bj;rw[kO,fx]at h;have h1:∀y∈ns,vY e g y=true:=(mu ns gu (vY e g)).1 λi hi=>jy.1 h.1 i (Cd.2 hi);have:=h1 nd bj;simp only[vY,fx]at this;exact⟨Ip this.2.2.2.1,Ip this.2.2.2.2⟩
structure AM(ss:List aP)(ns:List aC):Prop where
 s1:ss.Pairwise (λs s'=>s.1<s'.1)
 n1:(ns.map λnd=>rz nd.path).Pairwise (·<·)
 s2:∀s∈ss,(0<=s.1/\s.1<18446744073709551616)/\s.2.2.length<=0/\∀e∈s.2.2,e.2.length<=1048576
 n2:∀nd∈ns,aN nd.path/\nd.path.length<=1048576/\nd.value.length<=1048576/\nd.holders.length<=1048576/\nd.watchers.length<=1048576/\nd.holders.Pairwise (·<·)/\nd.watchers.Pairwise (·<·)
 s3:∀(i j:Nat)(s s':aP),ss[i]?=some s->ss[j]?=some s'->i<j->s.1≠s'.1
 n3:∀(i j:Nat)(z z':aC),ns[i]?=some z->ns[j]?=some z'->i<j->z.path≠z'.path
def Fb{g:Int}(h:mY e g x t ss ns=true)(mj:∀s∈ss,s.2.2.length<=0/\∀e∈s.2.2,aN e.2/\e.2.length<=1048576)(gq:∀nd∈ns,aN nd.path/\nd.path.length<=1048576/\nd.value.length<=1048576/\nd.holders.length<=1048576/\nd.watchers.length<=1048576):AM ss ns:=by
 obtain⟨h1,h2,h3,h4,h5⟩:=(FB e g x t ss ns).1 h;have hx:x<=4611686018427387904:=by simp only[Dj,jw]at h1;exact h1.2.2.1
 refine⟨aA1 h2,aC0 h3,λs hs=>⟨Ly h2 hx s hs,(mj s hs).1,λe he=>((mj s hs).2 e he).2⟩,λnd bj=>?_,JU h2,J3 h3⟩;obtain⟨a,b,c,d,f⟩:=gq nd bj;exact⟨a,b,c,d,f,(Pz h3 nd bj).1,(Pz h3 nd bj).2⟩
def aV9{w0 w:World}{g:Int}{SB NB HB UB:List Nat}(h:mw w0 w b bs bn e g x t ss ns SB NB HB UB)(hb:Bw w0 w)(l1:Mg ss.length)(l2:Mg ns.length):Sto w b bs bn e g x t ss ns SB NB:=by
 refine⟨h.hd,⟨h.Tv.len,?_,λi s gb hs hg=>?_⟩,⟨h.qj.len,?_,λi nd gb hs hg=>?_⟩⟩;{obtain⟨D,o,m⟩:=h.Tv.own;exact⟨D,_,o,l1,m⟩};{obtain⟨-,u,q1,q2⟩:=h.Tv.blk i s gb hs hg;exact⟨u,q1,q2.below hb⟩};{obtain⟨D,o,m⟩:=h.qj.own;exact⟨D,_,o,l2,m⟩};{have hi:=(bf.1 hs).1;obtain⟨hh,og⟩:∃y,HB[i]?=some y:=⟨_,bD (h.qj.QE▸hi)⟩;obtain⟨uu,mO⟩:∃y,UB[i]?=some y:=⟨_,bD (h.qj.QD▸hi)⟩;obtain⟨-,-,-,⟨V,q1,q2⟩,q3,q4⟩:=h.qj.blk i nd gb hh uu hs hg og mO;exact⟨V,hh,uu,q1,q2.below hb,q3,q4⟩}
def AB(w0 w:World)(v:Value)(l:LI):Prop:=Rd w0 v l\/TB w v l
def AB.rd{w0 w:World}(h:AB w0 w v l)(be:Bw w0 w):Rd w v l:=by
 rcases h with h|h;{exact h.below be};{exact h.1}
def AB.fr{T:List TypeId}{w0 w w':World}(h:AB w0 w v l)(hf:Fr T w w')(ht:5∉T:=by decide):AB w0 w' v l:=by
 rcases h with h|h;{exact .inl h};{exact .inr (h.fr hf ht)}
def AQ(w0 w:World)(u:Value)(es:List Ev):Prop:=
 ∃(p:OA)(c:Nat),u=.S p es.length c/\(es=[]\/∃b o,p=some (Ad b o)/\(b<w0.heap.size\/∃cur m,w.heap[b]?=some (.cells cur 190 m))/\∀i e,es[i]?=some e->w.cell? (Ad b (o+i*2))=some (.I e.1)/\∃u,w.cell? (Ad b (o+i*2+1))=some u/\AB w0 w u e.2/\tQ u)
def AQ.rdc{w0 w:World}{u:Value}(h:AQ w0 w u es)(be:Bw w0 w):rE w u es:=by
 obtain⟨p,c,rfl,h⟩:=h;refine⟨p,c,rfl,?_⟩;rcases h with h|⟨b,o,rfl,-,h⟩;{exact .inl h};{refine .inr ⟨b,o,rfl,λi e he=>?_⟩;obtain⟨h1,u,h2,h3,h4⟩:=h i e he;exact⟨h1,u,h2,h3.rd be,h4⟩}
def AQ.of{w0 w:World}{u:Value}(h:rE w0 u es)(be:Bw w0 w):AQ w0 w u es:=by
 obtain⟨p,c,rfl,h⟩:=h;refine⟨p,c,rfl,?_⟩;rcases h with h|⟨b,o,rfl,h⟩;{exact .inl h};{by_cases h0:es=[];{exact .inl h0};{obtain⟨e0,he0⟩:∃e0,es[0]?=some e0:=⟨_,bD (VW.2 h0)⟩;refine .inr ⟨b,o,rfl,.inl (nY w0 _ (h 0 e0 he0).1),λi e he=>?_⟩;obtain⟨h1,u,h2,h3,h4⟩:=h i e he;exact⟨ag h1 be,u,ag h2 be,.inl h3,h4⟩}}
def AQ.fr{T:List TypeId}{w0 w w':World}{u:Value}(h:AQ w0 w u es)(hb:Below w0.heap.size w w')(hf:Fr T w w')(ht:5∉T/\190∉T:=by decide):AQ w0 w' u es:=by
 obtain⟨p,c,rfl,h⟩:=h;refine⟨p,c,rfl,?_⟩;rcases h with h|⟨b,o,rfl,hd,h⟩;{exact .inl h};{
 have hk:w'.heap[b]?=w.heap[b]?:=by rcases hd with hd|⟨cur,m,hd⟩;{exact hb.block b hd};{exact(hf.2 _ _ _ _ ht.2 hd).trans hd.symm}
 refine .inr ⟨b,o,rfl,hd.imp id (λ⟨cur,m,hd⟩=>⟨cur,m,hk.trans hd⟩),λi e he=>?_⟩;obtain⟨h1,u,h2,h3,h4⟩:=h i e he;exact⟨(aF hk _).trans h1,u,(aF hk _).trans h2,h3.fr hf ht.1,h4⟩}
def AQ.nil(w0 w:World):AQ w0 w (.S none 0 0) []:=⟨none,0,rfl,.inl rfl⟩
def fv{w:World}{k:TypeId}{R:Value->Option (DataW Unit×List MemPlace)}{b n:Nat}(h:w.ownsMap prog k R b n D):w.ownsMap prog k R b (Maps.size D) D:=by
 obtain⟨es,clock,hb,F,hs,rfl⟩:=h;refine⟨es,clock,hb,F,?_,rfl⟩;rw[Maps.size_eq,length_sorted];simp
def nS{w:World}{k:TypeId}{R:Value->Option (DataW Unit×List MemPlace)}{b n:Nat}(h:w.ownsMap prog k R b n D)(K:Keyed prog k):Tidy D:=by
 obtain⟨es,e,hp,-⟩:=h.entries K;exact⟨es,e,hp⟩
def sL{w:World}{k:TypeId}{R:Value->Option (DataW Unit×List MemPlace)}{b n:Nat}(h:w.ownsMap prog k R b n D)(K:Keyed prog k){L:List Lit}(hn:L.Nodup)(hh:∀x,Maps.has D x=true↔x∈L):Maps.size D=L.length:=by
 obtain⟨es,rfl,hp,hk⟩:=h.entries K;rw[Maps.size_eq,<-dZ (f:=Prod.fst)];refine List.Perm.length_eq ((List.perm_ext_iff_of_nodup (D7.2 hp) hn).2 λx=>?_);rw[<-hh x,Maps.has_eq,Kl,ji];constructor;{rintro⟨p,hp1,rfl⟩;exact⟨p,hp1,VP (hk p hp1)⟩};{rintro⟨p,hp1,hs⟩;refine⟨p,hp1,aO8 λcg=>?_⟩;rw[sameKey_ne cg]at hs;cases hs}
def SM(w:World)(h:Nat)(s:LI):Prop:=∃D n,w.ownsMap prog 31 unitElem h n D/\n<=2097152/\dH D s/\Maps.size D=s.length
structure PN(w0 w:World)(g h u:Nat)(nd:aC):Prop where
 lo:w0.heap.size<=g/\w0.heap.size<=h/\w0.heap.size<=u
 blk:∃V,w.heap[g]?=some (.cells #[V,.U nd.owner,.I nd.mode,.map (some h),.U nd.aJ,.U nd.gen,.map (some u)] 142)/\AB w0 w V nd.value
 Wv:SM w h nd.holders
 WT:SM w u nd.watchers
def PE(w0 w:World)(g:Nat)(s:aP):Prop:=w0.heap.size<=g/\∃u,w.heap[g]?=some (.cells #[.U s.1,.I s.2.1,u] 84)/\AQ w0 w u s.2.2
structure PS(w0 w:World)(b bs bn:Nat)(D:SD)(SB NB HB UB:List Nat):Prop where
 be:Bw w0 w
 hd:w.heap[b]?=some (.cells #[.U D.e,.U D.g,.U D.x,.I D.t,.map (some bs),.map (some bn)] 135)
 tR:SB.length=D.ss.length
 rT:∃M n,w.ownsMap prog 31 aV bs n M/\n<=1048576/\gP M (List.zipWith (λ(s:aP)g=>(Lit.U s.1,g)) D.ss SB)/\Maps.size M=D.ss.length
 uF:∀(i:Nat)(s:aP)(g:Nat),D.ss[i]?=some s->SB[i]?=some g->PE w0 w g s
 snd:SB.Nodup
 tT:NB.length=D.ns.length
 hlen:HB.length=D.ns.length
 uy:UB.length=D.ns.length
 lY:∃M n,w.ownsMap prog 9 aV bn n M/\n<=1048576/\gP M (List.zipWith (λ(nd:aC)g=>(cL nd.path,g)) D.ns NB)/\Maps.size M=D.ns.length
 mZ:∀(i:Nat)(nd:aC)(g h u:Nat),D.ns[i]?=some nd->NB[i]?=some g->HB[i]?=some h->UB[i]?=some u->PN w0 w g h u nd
 nnd:NB.Nodup
 lo:w0.heap.size<=b/\w0.heap.size<=bs/\w0.heap.size<=bn
 Np:(bs::bn::(HB++UB)).Nodup
def SM.of{w:World}{h n:Nat}(o:w.ownsMap prog 31 unitElem h n D)(hn:n<=2097152)(hs:dH D s)(hd:s.Nodup):SM w h s:=by
 refine⟨D,n,o,hn,hs,?_⟩;have hl:(s.map λi:Int=>Lit.U i).length=s.length:=dZ _;rw[<-hl];refine sL o iO (D7.2 (hd.imp λcg e=>cg (by simpa using e))) λx=>?_;rw[hs x,ji];constructor;{rintro⟨i,hi,rfl⟩;exact⟨i,hi,rfl⟩};{rintro⟨i,hi,rfl⟩;exact⟨i,hi,rfl⟩}
def SM.kept{w w':World}(k:SM w h s)(hk:w'.heap[h]?=w.heap[h]?):SM w' h s:=by
 obtain⟨D,n,o,h1,h2,h3⟩:=k;exact⟨D,n,uJ o (λes c hh=>hk.trans hh),h1,h2,h3⟩
def qF(h:s.Pairwise (·<·)):s.Nodup:=h.imp λhl e=>by omega
def PS.of{w0 w:World}{g:Int}{SB NB HB UB:List Nat}(h:mw w0 w b bs bn e g x t ss ns SB NB HB UB)(be:Bw w0 w)(hF:AM ss ns)(ls:Mg ss.length)(ln:Mg ns.length):PS w0 w b bs bn ⟨e,g,x,t,ss,ns⟩ SB NB HB UB:=by
 refine⟨be,h.hd,h.Tv.len,?_,λi s gb hs hg=>?_,h.Tv.qj,h.qj.len,h.qj.QE,h.qj.QD,?_,λi nd gb hh uu hs hg h1 h2=>?_,h.qj.qj,h.lo,h.Np⟩;{obtain⟨D,o,m⟩:=h.Tv.own;refine⟨D,_,o,ls,m,?_⟩;have hl:(ss.map λs=>Lit.U s.1).length=ss.length:=dZ _;rw[<-hl];refine sL o iO (D7.2 (hF.s1.imp λaT e=>by simp at e;omega)) λk=>?_;rw[m.hs k,ji];constructor;{rintro⟨p,hp,rfl⟩;obtain⟨i,s,y,h1,-,rfl⟩:=gR hp;exact⟨s,aY h1,rfl⟩};{rintro⟨s,hs,rfl⟩;obtain⟨i,hi⟩:=gH.1 hs;obtain⟨y,hy⟩:∃y,SB[i]?=some y:=⟨_,bD (h.Tv.len▸(bf.1 hi).1)⟩;exact⟨_,aY (i:=i) (by rw[nw,hi,hy]),rfl⟩}};{obtain⟨q0,u,q1,q2⟩:=h.Tv.blk i s gb hs hg;exact⟨q0,u,q1,AQ.of q2 be⟩};{obtain⟨D,o,m⟩:=h.qj.own;refine⟨D,_,o,ln,m,?_⟩;have hl:(ns.map λnd=>cL nd.path).length=ns.length:=dZ _;rw[<-hl];refine sL o oe (D7.2 (VF λi j a c ha hc kr e=>hF.n3 i j a c ha hc kr (mH (hF.n2 a (aY ha)).1 (hF.n2 c (aY hc)).1 e))) λk=>?_;rw[m.hs k,ji];constructor;{rintro⟨p,hp,rfl⟩;obtain⟨i,s,y,h1,-,rfl⟩:=gR hp;exact⟨s,aY h1,rfl⟩};{rintro⟨s,hs,rfl⟩;obtain⟨i,hi⟩:=gH.1 hs;obtain⟨y,hy⟩:∃y,NB[i]?=some y:=⟨_,bD (h.qj.len▸(bf.1 hi).1)⟩;exact⟨_,aY (i:=i) (by rw[nw,hi,hy]),rfl⟩}};{obtain⟨q0,q1,q2,⟨V,q3,q4⟩,⟨D1,o1,m1⟩,⟨D2,o2,m2⟩⟩:=h.qj.blk i nd gb hh uu hs hg h1 h2;obtain⟨-,-,-,l1,l2,n1,n2⟩:=hF.n2 nd (aY hs);exact⟨⟨q0,q1,q2⟩,⟨V,q3,.inl q4⟩,SM.of o1 ae m1 (qF n1),SM.of o2 ae m2 (qF n2)⟩}
def PS.sto{w0 w:World}{D:SD}{SB NB HB UB:List Nat}(h:PS w0 w b bs bn D SB NB HB UB):Sto w b bs bn D.e D.g D.x D.t D.ss D.ns SB NB:=by
 refine⟨h.hd,⟨h.tR,?_,λi s gb hs hg=>?_⟩,⟨h.tT,?_,λi nd gb hs hg=>?_⟩⟩;{obtain⟨M,n,o,hn,m,-⟩:=h.rT;exact⟨M,n,o,hn,m⟩};{obtain⟨-,u,q1,q2⟩:=h.uF i s gb hs hg;exact⟨u,q1,q2.rdc h.be⟩};{obtain⟨M,n,o,hn,m,-⟩:=h.lY;exact⟨M,n,o,hn,m⟩};{have hi:=(bf.1 hs).1;obtain⟨hh,og⟩:∃y,HB[i]?=some y:=⟨_,bD (h.hlen▸hi)⟩;obtain⟨uu,mO⟩:∃y,UB[i]?=some y:=⟨_,bD (h.uy▸hi)⟩;obtain⟨-,⟨V,q1,q2⟩,⟨D1,n1,o1,-,s1,z1⟩,⟨D2,n2,o2,-,s2,z2⟩⟩:=h.mZ i nd gb hh uu hs hg og mO;exact⟨V,hh,uu,q1,q2.rd h.be,⟨D1,z1▸fv o1,s1⟩,⟨D2,z2▸fv o2,s2⟩⟩}
structure One(w0 w w':World)(g:Nat):Prop where
 b:Below w0.heap.size w w'
 k:∀z,z<w.heap.size->z≠g->w'.heap[z]?=w.heap[z]?
 t:∀cur ty m,w.heap[g]?=some (.cells cur ty m)->ty∈[84,142,135]
def One.fr{w0 w w':World}(h:One w0 w w' g):Fr [84,142,135] w w':=by
 refine⟨h.b.size,λb cur ty m hn hb=>?_⟩;by_cases e:b=g;{subst e;exact absurd (h.t _ _ _ hb) hn};{exact(h.k b (aQ hb) e).trans hb}
def One.obj{w0 w w':World}{o:Obj}(h:One w0 w w' g)(hz:w.heap[z]?=some o)(cg:z≠g):w'.heap[z]?=some o:=(h.k z (aQ hz) cg).trans hz
def ownsMap_at{w:World}{k:TypeId}{R:Value->Option (DataW Unit×List MemPlace)}{b n:Nat}(h:w.ownsMap prog k R b n D):∃es c,w.heap[b]?=some (.map es c):=by
 obtain⟨es,c,h1,-⟩:=h;exact⟨es,c,h1⟩
def One.map{w0 w w':World}{g z n:Nat}{k:TypeId}{R:Value->Option (DataW Unit×List MemPlace)}(h:One w0 w w' g)(hz:w.ownsMap prog k R z n D)(cg:z≠g):w'.ownsMap prog k R z n D:=
 uJ hz (λes c hh=>h.obj hh cg)
def SM.keep{w0 w w':World}(k:SM w h s)(O:One w0 w w' g)(cg:h≠g):SM w' h s:=by
 obtain⟨D,n,o,h1,h2,h3⟩:=k;exact⟨D,n,O.map o cg,h1,h2,h3⟩
def SM.at{w:World}(k:SM w h s):∃es c,w.heap[h]?=some (.map es c):=by
 obtain⟨D,n,o,-⟩:=k;exact ownsMap_at o
def PE.keep{w0 w w':World}{s:aP}(h:PE w0 w gb s)(O:One w0 w w' g)(cg:gb≠g):PE w0 w' gb s:=by
 obtain⟨h0,u,h1,h2⟩:=h;exact⟨h0,u,O.obj h1 cg,h2.fr O.b O.fr aZ⟩
def PN.keep{w0 w w':World}(h:PN w0 w gb hh uu nd)(O:One w0 w w' g)(h1:gb≠g)(h2:hh≠g)(h3:uu≠g):PN w0 w' gb hh uu nd:=by
 obtain⟨h0,⟨V,q1,q2⟩,q3,q4⟩:=h;exact⟨h0,⟨V,O.obj q1 h1,q2.fr O.fr⟩,q3.keep O h2,q4.keep O h3⟩
section
variable {w0 w w':World}{b bs bn:Nat}{D:SD}{SB NB HB UB:List Nat}
def PS.nat(h:PS w0 w b bs bn D SB NB HB UB)(hi:D.ns[i]?=some nd):∃g hh uu,NB[i]?=some g/\HB[i]?=some hh/\UB[i]?=some uu/\PN w0 w g hh uu nd:=by
 have hl:=(bf.1 hi).1;obtain⟨g,hg⟩:∃y,NB[i]?=some y:=⟨_,bD (h.tT▸hl)⟩;obtain⟨hh,og⟩:∃y,HB[i]?=some y:=⟨_,bD (h.hlen▸hl)⟩;obtain⟨uu,mO⟩:∃y,UB[i]?=some y:=⟨_,bD (h.uy▸hl)⟩;exact⟨g,hh,uu,hg,og,mO,h.mZ i nd g hh uu hi hg og mO⟩
def PS.sat(h:PS w0 w b bs bn D SB NB HB UB){s:aP}(hi:D.ss[i]?=some s):∃g,SB[i]?=some g/\PE w0 w g s:=by
 have hl:=(bf.1 hi).1;obtain⟨g,hg⟩:∃y,SB[i]?=some y:=⟨_,bD (h.tR▸hl)⟩;exact⟨g,hg,h.uF i s g hi hg⟩
def PS.bu5(h:PS w0 w b bs bn D SB NB HB UB)(hg:NB[i]?=some g):∃nd,D.ns[i]?=some nd:=⟨_,bD (h.tT▸(bf.1 hg).1)⟩
def PS.below(h:PS w0 w b bs bn D SB NB HB UB)(hb:Bw w w'):PS w0 w' b bs bn D SB NB HB UB:=by
 have O:One w0 w w' w.heap.size:=⟨hb.mono h.be.size,λz hz _=>hb.block z hz,λcur ty m hc=>absurd (aQ hc) (Nat.lt_irrefl _)⟩;have hn:∀{z:Nat}{o:Obj},w.heap[z]?=some o->z≠w.heap.size:=λhz e=>aG (aQ hz);refine⟨h.be.trans (hb.mono h.be.size),O.obj h.hd (hn h.hd),h.tR,?_,λi s g hs hg=>?_,h.snd,h.tT,h.hlen,h.uy,?_,λi nd g hh uu hs hg h1 h2=>?_,h.nnd,h.lo,h.Np⟩;{obtain⟨M,n,o,r⟩:=h.rT;obtain⟨es,c,hm⟩:=ownsMap_at o;exact⟨M,n,O.map o (hn hm),r⟩};{have q:=h.uF i s g hs hg;obtain⟨-,u,h1,-⟩:=id q;exact q.keep O (hn h1)};{obtain⟨M,n,o,r⟩:=h.lY;obtain⟨es,c,hm⟩:=ownsMap_at o;exact⟨M,n,O.map o (hn hm),r⟩};{have q:=h.mZ i nd g hh uu hs hg h1 h2;obtain⟨-,⟨V,q1,-⟩,q3,q4⟩:=id q;obtain⟨es,c,m3⟩:=q3.at;obtain⟨es',c',m4⟩:=q4.at;exact q.keep O (hn q1) (hn m3) (hn m4)}
def MC{l:List Nat}(hn:l.Nodup){a c:Nat}(hi:l[i]?=some a)(hj:l[j]?=some c)(kr:i≠j):a≠c:=λe=>kr (Xm hn hi (e▸hj))
def PS.hu(h:PS w0 w b bs bn D SB NB HB UB):bs≠bn/\(∀z∈HB,z≠bs/\z≠bn)/\(∀z∈UB,z≠bs/\z≠bn)/\HB.Nodup/\UB.Nodup/\∀y∈HB,∀z∈UB,y≠z:=by
 have hd:=h.Np;simp only[Ah,jG,gM,Je]at hd;obtain⟨⟨d0,d1,d2⟩,⟨d3,d4⟩,d5⟩:=hd;rw[BS]at d5;exact⟨d0,λz hz=>⟨λe=>d1 (e▸hz),λe=>d3 (e▸hz)⟩,λz hz=>⟨λe=>d2 (e▸hz),λe=>d4 (e▸hz)⟩,d5.1,d5.2.1,λy hy z hz=>d5.2.2 y hy z hz⟩
def PS.nJ(h:PS w0 w b bs bn D SB NB HB UB){s s':aP}(hs:D.ss[i]?=some s)(hg:SB[i]?=some g)(O:One w0 w w' g)(hid:s'.1=s.1)(hE:PE w0 w' g s'):PS w0 w' b bs bn {D with ss:=D.ss.set i s'} SB NB HB UB:=by
 obtain⟨g0,u0,gc,-⟩:=h.uF i s g hs hg;have KL:=(bf.1 hs).1;have nc:∀{z:Nat}{cs:Array Value}{ty:TypeId},w.heap[z]?=some (.cells cs ty)->ty≠84->z≠g:=λhz ht e=>by rw[e,gc]at hz;simp at hz;exact ht hz.2.symm
 have nm:∀{z:Nat}{es:Array MapEntry}{c:Nat},w.heap[z]?=some (.map es c)->z≠g:=λhz e=>by rw[e,gc]at hz;cases hz
 refine⟨h.be.trans O.b,O.obj h.hd (nc h.hd aZ),by rw[pO];exact h.tR,?_,λj s1 g1 ij gx=>?_,h.snd,h.tT,h.hlen,h.uy,?_,λj nd gb hh uu ij gx h1 h2=>?_,h.nnd,h.lo,h.Np⟩;{
 obtain⟨M,n,o,hn,m,hz⟩:=h.rT;obtain⟨es,c,hm⟩:=ownsMap_at o;refine⟨M,n,O.map o (nm hm),hn,?_,by simp only[pO];exact hz⟩;have e:List.zipWith (λ(s:aP)g=>(Lit.U s.1,g)) (D.ss.set i s') SB=List.zipWith (λ(s:aP)g=>(Lit.U s.1,g)) D.ss SB:=by refine Wi λj=>?_;rw[nw,nw,vZ];by_cases ej:i=j;{subst ej;rw[bN rfl,bN KL,hs,hg];simp[hid]};{simp[ej]}
 rw[e];exact m};{simp only[vZ]at ij;by_cases ej:i=j;{subst ej;rw[hg]at gx;cases gx;simp[KL]at ij;subst ij;exact hE};{simp[ej]at ij;exact(h.uF j s1 g1 ij gx).keep O (MC h.snd gx hg (λe=>ej e.symm))}};{obtain⟨M,n,o,r⟩:=h.lY;obtain⟨es,c,hm⟩:=ownsMap_at o;exact⟨M,n,O.map o (nm hm),r⟩};{have q:=h.mZ j nd gb hh uu ij gx h1 h2;obtain⟨-,⟨V,q1,-⟩,q3,q4⟩:=id q;obtain⟨es,c,m3⟩:=q3.at;obtain⟨es',c',m4⟩:=q4.at;exact q.keep O (nc q1 aZ) (nm m3) (nm m4)}
end
def gP.same{l l':List (Lit×Nat)}(h:gP D l)(hp:∀p,p∈l'↔p∈l):gP D l':=by
 refine⟨λk=>?_,λp h1 z=>h.at' p ((hp p).1 h1) z⟩;rw[h.hs k];exact⟨λ⟨p,h1,h2⟩=>⟨p,(hp p).2 h1,h2⟩,λ⟨p,h1,h2⟩=>⟨p,(hp p).1 h1,h2⟩⟩
def gP.del{l:List (Lit×Nat)}(h:gP D l){k:Lit}(hi:l[i]?=some (k,g))(hd:∀(j:Nat)(p:Lit×Nat),l[j]?=some p->p.1=k->j=i):gP (D.del k) (l.eraseIdx i):=by
 have jl:∀p,p∈l.eraseIdx i↔p∈l/\p.1≠k:=λp=>by
  rw[aO7];constructor;{rintro⟨j,hj,e⟩;exact⟨aY e,λe2=>hj (hd j p e e2)⟩};{
 rintro⟨hp,cg⟩;obtain⟨j,hj⟩:=gH.1 hp;refine⟨j,λe=>cg ?_,hj⟩;subst e;rw[hi]at hj;cases hj
 rfl}
 refine⟨λk'=>?_,λp hp z=>?_⟩;{by_cases e:k'=k;{subst e;rw[has_del_same];constructor;{intro hh;cases hh};{rintro⟨p,hp,e2⟩;exact absurd e2 ((jl p).1 hp).2}};{rw[has_del_other e,h.hs k'];constructor;{rintro⟨p,hp,rfl⟩;exact⟨p,(jl p).2 ⟨hp,e⟩,rfl⟩};{rintro⟨p,hp,rfl⟩;exact⟨p,((jl p).1 hp).1,rfl⟩}}};{obtain⟨h1,h2⟩:=(jl p).1 hp;rw[atKey_del_other h2];exact h.at' p h1 z}
theorem Bg{α β γ:Type}(f:α->β->γ):∀(l:List α)(m:List β)(i:Nat),l.length=m.length->List.zipWith f (l.eraseIdx i) (m.eraseIdx i)=(List.zipWith f l m).eraseIdx i
 |[],[],i,_=>ai
 |a::l,c::m,0,_=>ai
 |a::l,c::m,i+1,h=>by simp[Bg f l m i (by simpa using h)]
section
variable {w0 w w':World}{b bs bn:Nat}{D:SD}{SB NB HB UB:List Nat}
def PS.Zr(h:PS w0 w b bs bn D SB NB HB UB)(hi:D.ns[i]?=some nd)(hg:NB[i]?=some g)(og:HB[i]?=some hh)(mO:UB[i]?=some uu)(hz:z=g\/z=hh\/z=uu)(O:One w0 w w' z)(hp:nd'.path=nd.path)(hN:PN w0 w' g hh uu nd'):PS w0 w' b bs bn {D with ns:=D.ns.set i nd'} SB NB HB UB:=by
 obtain⟨-,⟨V0,gc,-⟩,q3,q4⟩:=h.mZ i nd g hh uu hi hg og mO;obtain⟨es3,c3,m3⟩:=q3.at;obtain⟨es4,c4,m4⟩:=q4.at;obtain⟨d0,d1,d2,d3,d4,d5⟩:=h.hu;have KL:=(bf.1 hi).1;have hhm:=aY og;have hum:=aY mO;have nc:∀{y:Nat}{cs:Array Value}{ty:TypeId},w.heap[y]?=some (.cells cs ty)->(ty≠142\/y≠g)->y≠z:=λ{y cs ty}hy ht e=>by rcases hz with rfl|rfl|rfl;{rcases ht with ht|ht;{rw[e,gc]at hy;simp at hy;exact ht hy.2.symm};{exact ht e}};{rw[e,m3]at hy;cases hy};{rw[e,m4]at hy;cases hy}
 have nm:∀{y:Nat}{es:Array MapEntry}{c:Nat},w.heap[y]?=some (.map es c)->y≠hh->y≠uu->y≠z:=λ{y es c}hy h1 h2 e=>by rcases hz with rfl|rfl|rfl;{rw[e,gc]at hy;cases hy};{exact h1 e};{exact h2 e}
 refine⟨h.be.trans O.b,O.obj h.hd (nc h.hd (.inl aZ)),h.tR,?_,λj s1 g1 ij gx=>?_,h.snd,by rw[pO];exact h.tT,by rw[pO];exact h.hlen,by rw[pO];exact h.uy,?_,λj lx gb h1 u1 ij gx AV rJ=>?_,h.nnd,h.lo,h.Np⟩;{obtain⟨M,n,o,r⟩:=h.rT;obtain⟨es,c,hm⟩:=ownsMap_at o;exact⟨M,n,O.map o (nm hm (λe=>(d1 _ hhm).1 e.symm) (λe=>(d2 _ hum).1 e.symm)),r⟩};{have q:=h.uF j s1 g1 ij gx;obtain⟨-,u,h1,-⟩:=id q;exact q.keep O (nc h1 (.inl aZ))};{
 obtain⟨M,n,o,hn,m,hs⟩:=h.lY;obtain⟨es,c,hm⟩:=ownsMap_at o;refine⟨M,n,O.map o (nm hm (λe=>(d1 _ hhm).2 e.symm) (λe=>(d2 _ hum).2 e.symm)),hn,?_,by simp only[pO];exact hs⟩;have e:List.zipWith (λ(nd:aC)g=>(cL nd.path,g)) (D.ns.set i nd') NB=List.zipWith (λ(nd:aC)g=>(cL nd.path,g)) D.ns NB:=by refine Wi λj=>?_;rw[nw,nw,vZ];by_cases ej:i=j;{subst ej;rw[bN rfl,bN KL,hi,hg];simp[hp]};{simp[ej]}
 rw[e];exact m};{simp only[vZ]at ij;by_cases ej:i=j;{subst ej;rw[hg]at gx;rw[og]at AV;rw[mO]at rJ;cases gx;cases AV;cases rJ;simp[KL]at ij;subst ij;exact hN};{simp[ej]at ij;have q:=h.mZ j lx gb h1 u1 ij gx AV rJ;obtain⟨-,⟨V,q1,-⟩,p3,p4⟩:=id q;obtain⟨es,c,m5⟩:=p3.at;obtain⟨es',c',m6⟩:=p4.at;have ej':¬j=i:=λe=>ej e.symm;exact q.keep O (nc q1 (.inr (MC h.nnd gx hg ej'))) (nm m5 (MC d3 AV og ej') (d5 _ (aY AV) _ hum)) (nm m6 (λe=>d5 _ hhm _ (aY rJ) e.symm) (MC d4 rJ mO ej'))}}
def PS.Vp(h:PS w0 w b bs bn D SB NB HB UB)(O:One w0 w w' b)(e g x t:Int)(hd:w'.heap[b]?=some (.cells #[.U e,.U g,.U x,.I t,.map (some bs),.map (some bn)] 135)):PS w0 w' b bs bn ⟨e,g,x,t,D.ss,D.ns⟩ SB NB HB UB:=by
 have nc:∀{y:Nat}{cs:Array Value}{ty:TypeId},w.heap[y]?=some (.cells cs ty)->ty≠135->y≠b:=λ{y cs ty}hy ht e=>by rw[e,h.hd]at hy;simp at hy;exact ht hy.2.symm
 have nm:∀{y:Nat}{es:Array MapEntry}{c:Nat},w.heap[y]?=some (.map es c)->y≠b:=λ{y es c}hy e=>by rw[e,h.hd]at hy;cases hy
 refine⟨h.be.trans O.b,hd,h.tR,?_,λj s1 g1 ij gx=>?_,h.snd,h.tT,h.hlen,h.uy,?_,λj nd gb hh uu ij gx h1 h2=>?_,h.nnd,h.lo,h.Np⟩;{obtain⟨M,n,o,r⟩:=h.rT;obtain⟨es,c,hm⟩:=ownsMap_at o;exact⟨M,n,O.map o (nm hm),r⟩};{have q:=h.uF j s1 g1 ij gx;obtain⟨-,u,h1,-⟩:=id q;exact q.keep O (nc h1 aZ)};{obtain⟨M,n,o,r⟩:=h.lY;obtain⟨es,c,hm⟩:=ownsMap_at o;exact⟨M,n,O.map o (nm hm),r⟩};{have q:=h.mZ j nd gb hh uu ij gx h1 h2;obtain⟨-,⟨V,q1,-⟩,q3,q4⟩:=id q;obtain⟨es,c,m3⟩:=q3.at;obtain⟨es',c',m4⟩:=q4.at;exact q.keep O (nc q1 aZ) (nm m3) (nm m4)}
theorem PS.cD8(h:PS w0 w b bs bn D SB NB HB UB)(hi:D.ns[i]?=some nd)(O:One w0 w w' bn)(hd:∀(j:Nat)(z:aC),D.ns[j]?=some z->cL z.path=cL nd.path->j=i)(hM:∀M n,w.ownsMap prog 9 aV bn n M->w'.ownsMap prog 9 aV bn n (M.del (cL nd.path))):PS w0 w' b bs bn {D with ns:=D.ns.eraseIdx i} SB (NB.eraseIdx i) (HB.eraseIdx i) (UB.eraseIdx i):=by
 obtain⟨g,hh,uu,hg,og,mO,-⟩:=h.nat hi;obtain⟨d0,d1,d2,d3,d4,d5⟩:=h.hu;obtain⟨M,n,o,hn,m,hs⟩:=h.lY;obtain⟨es0,c0,m0⟩:=ownsMap_at o;have KL:=(bf.1 hi).1;have nc:∀{y:Nat}{cs:Array Value}{ty:TypeId},w.heap[y]?=some (.cells cs ty)->y≠bn:=λ{y cs ty}hy e=>by rw[e,m0]at hy;cases hy
 have hz:(List.zipWith (λ(nd:aC)g=>(cL nd.path,g)) D.ns NB)[i]?=some (cL nd.path,g):=by rw[nw,hi,hg]
 have hdz:∀(j:Nat)(p:Lit×Nat),(List.zipWith (λ(nd:aC)g=>(cL nd.path,g)) D.ns NB)[j]?=some p->p.1=cL nd.path->j=i:=λj p hj e=>by
  rw[nw]at hj;cases ha:D.ns[j]? with
  |none=>rw[ha]at hj;cases hj
  | some a=>
   cases hc:NB[j]? with
   |none=>rw[ha,hc]at hj;cases hj
   |some c=>
    rw[ha,hc]at hj;cases hj;exact hd j a ha e
 have el:∀{l:List Nat},l.length=D.ns.length->(l.eraseIdx i).length=(D.ns.eraseIdx i).length:=λhl=>by rw[Gy,Gy,hl]
 refine⟨h.be.trans O.b,O.obj h.hd (nc h.hd),h.tR,?_,λj s1 g1 ij gx=>?_,h.snd,el h.tT,el h.hlen,el h.uy,⟨_,n,hM M n o,hn,?_,?_⟩,λj lx gb h1 u1 ij gx AV rJ=>?_,h.nnd.sublist (Gx _ _),h.lo,?_⟩;{obtain⟨M,n,o,r⟩:=h.rT;exact⟨M,n,O.map o d0,r⟩};{have q:=h.uF j s1 g1 ij gx;obtain⟨-,u,h1,-⟩:=id q;exact q.keep O (nc h1)};{rw[Bg _ _ _ _ h.tT.symm];exact m.del hz hdz};{have Un:Maps.has M (cL nd.path)=true:=(m.hs _).2 ⟨_,aY hz,rfl⟩;have:=size_del (k:=cL nd.path) (nS o oe);rw[Un]at this;simp only[qt]at this;simp only[Gy,KL,qt];omega};{
 rw[ad8]at ij gx AV rJ;obtain⟨j',Hf,gi,hh2,Sr⟩:∃j',D.ns[j']?=some lx/\NB[j']?=some gb/\HB[j']?=some h1/\UB[j']?=some u1:=by by_cases hj:j<i;{rw[bN hj]at ij gx AV rJ;exact⟨j,ij,gx,AV,rJ⟩};{rw[bG hj]at ij gx AV rJ;exact⟨j+1,ij,gx,AV,rJ⟩}
 have q:=h.mZ j' lx gb h1 u1 Hf gi hh2 Sr;obtain⟨-,⟨V,q1,-⟩,p3,p4⟩:=id q;exact q.keep O (nc q1) (d1 _ (aY hh2)).2 (d2 _ (aY Sr)).2};{exact h.Np.sublist (((Gx HB i).append (Gx UB i)).cons_cons bn |>.cons_cons bs)}
theorem PS.cD7(h:PS w0 w b bs bn D SB NB HB UB){s:aP}(hi:D.ss[i]?=some s)(O:One w0 w w' bs)(hd:∀(j:Nat)(z:aP),D.ss[j]?=some z->z.1=s.1->j=i)(hM:∀M n,w.ownsMap prog 31 aV bs n M->w'.ownsMap prog 31 aV bs n (M.del (.U s.1))):PS w0 w' b bs bn {D with ss:=D.ss.eraseIdx i} (SB.eraseIdx i) NB HB UB:=by
 obtain⟨g,hg,-⟩:=h.sat hi;obtain⟨d0,d1,d2,d3,d4,d5⟩:=h.hu;obtain⟨M,n,o,hn,m,hs⟩:=h.rT;obtain⟨es0,c0,m0⟩:=ownsMap_at o;have KL:=(bf.1 hi).1;have nc:∀{y:Nat}{cs:Array Value}{ty:TypeId},w.heap[y]?=some (.cells cs ty)->y≠bs:=λ{y cs ty}hy e=>by rw[e,m0]at hy;cases hy
 have hz:(List.zipWith (λ(s:aP)g=>(Lit.U s.1,g)) D.ss SB)[i]?=some (.U s.1,g):=by rw[nw,hi,hg]
 have hdz:∀(j:Nat)(p:Lit×Nat),(List.zipWith (λ(s:aP)g=>(Lit.U s.1,g)) D.ss SB)[j]?=some p->p.1=.U s.1->j=i:=λj p hj e=>by
  rw[nw]at hj;cases ha:D.ss[j]? with
  |none=>rw[ha]at hj;cases hj
  | some a=>
   cases hc:SB[j]? with
   |none=>rw[ha,hc]at hj;cases hj
   |some c=>
    rw[ha,hc]at hj;cases hj;exact hd j a ha (by simpa using e)
 refine⟨h.be.trans O.b,O.obj h.hd (nc h.hd),by rw[Gy,Gy,h.tR],⟨_,n,hM M n o,hn,?_,?_⟩,λj s1 g1 ij gx=>?_,h.snd.sublist (Gx _ _),h.tT,h.hlen,h.uy,?_,λj lx gb h1 u1 ij gx AV rJ=>?_,h.nnd,h.lo,h.Np⟩;{rw[Bg _ _ _ _ h.tR.symm];exact m.del hz hdz};{have Un:Maps.has M (.U s.1)=true:=(m.hs _).2 ⟨_,aY hz,rfl⟩;have:=size_del (k:=.U s.1) (nS o iO);rw[Un]at this;simp only[qt]at this;simp only[Gy,KL,qt];omega};{
 rw[ad8]at ij gx;obtain⟨j',Hf,gi⟩:∃j',D.ss[j']?=some s1/\SB[j']?=some g1:=by by_cases hj:j<i;{rw[bN hj]at ij gx;exact⟨j,ij,gx⟩};{rw[bG hj]at ij gx;exact⟨j+1,ij,gx⟩}
 have q:=h.uF j' s1 g1 Hf gi;obtain⟨-,u,h1,-⟩:=id q;exact q.keep O (nc h1)};{obtain⟨M,n,o,r⟩:=h.lY;exact⟨M,n,O.map o (λe=>d0 e.symm),r⟩};{have q:=h.mZ j lx gb h1 u1 ij gx AV rJ;obtain⟨-,⟨V,q1,-⟩,p3,p4⟩:=id q;exact q.keep O (nc q1) (d1 _ (aY AV)).1 (d2 _ (aY rJ)).1}
end
structure Fg(ss:List aP):Prop where
 pw:ss.Pairwise (λs s'=>s.1<s'.1)
 rg:∀s∈ss,0<=s.1/\s.1<18446744073709551616
 ql:∀s∈ss,s.2.2.length<=8
def Xi{q:List Ev}{ev:Ev}(h:q.length<=8):(aa1 q ev).length<=8:=by
 unfold aa1;split;{simp;omega};{split;{simp;omega};{exact h}}
def KM(ss:List aP)(id:Int)(ev:Ev):(KO ss id ev).map (·.1)=ss.map (·.1):=by
 unfold KO;rw[qX];refine Di λs _=>?_;simp only[Function.comp];split<;>rfl
def Fg.cz4(h:Fg ss)(id:Int)(ev:Ev):Fg (KO ss id ev):=by
 refine⟨?_,λs hs=>?_,λs hs=>?_⟩;{have:=h.pw;rw[<-D7 (f:=λs:aP=>s.1) (R:=(·<·))]at this⊢;rw[KM];exact this};{obtain⟨s0,h0,rfl⟩:=ji.1 hs;split<;>exact h.rg s0 h0}
 {obtain⟨s0,h0,rfl⟩:=ji.1 hs;split;{exact Xi (h.ql s0 h0)};{exact h.ql s0 h0}}
theorem Bo(ids:LI)(ev:Ev):∀ss:List aP,(uA ss ids ev).map (·.1)=ss.map (·.1):=by
 unfold uA
 induction ids with
 |nil=>intro ss;rfl
 |cons a r ih=>intro ss;rw[Mn,ih,KM]
def PS.Qz{w0 w:World}{D:SD}{SB NB HB UB:List Nat}(h:PS w0 w b bs bn D SB NB HB UB)(hi:D.ns[i]?=some nd)(hl:nd.path.length<=1048576):∃g hh uu,NB[i]?=some g/\HB[i]?=some hh/\UB[i]?=some uu/\PN w0 w g hh uu nd/\(Instr.lookup 133 (.map (some bn)) (.string (aO nd.path)) false).run Tryz.prog w=.ok (.pointer (some (Ad g 0))) w:=by
 obtain⟨g,hh,uu,hg,og,mO,hN⟩:=h.nat hi;obtain⟨M,n,o,-,m,-⟩:=h.lY;exact⟨g,hh,uu,hg,og,mO,hN,Qy o m (aY (i:=i) (by rw[nw,hi,hg])) hl⟩
def PN.cells{w0 w:World}(k:PN w0 w g h u nd):∃V,AB w0 w V nd.value/\w.heap[g]?=some (.cells #[V,.U nd.owner,.I nd.mode,.map (some h),.U nd.aJ,.U nd.gen,.map (some u)] 142)/\w.cell? (Ad g 0)=some V/\w.cell? (Ad g 1)=some (.U nd.owner)/\w.cell? (Ad g 2)=some (.I nd.mode)/\w.cell? (Ad g 3)=some (.map (some h))/\w.cell? (Ad g 4)=some (.U nd.aJ)/\w.cell? (Ad g 5)=some (.U nd.gen)/\w.cell? (Ad g 6)=some (.map (some u))/\∀o,w.frozen? (Ad g o)=false:=by
 obtain⟨V,h1,h2⟩:=k.blk;exact⟨V,h2,h1,aq h1 0,aq h1 1,aq h1 2,aq h1 3,aq h1 4,aq h1 5,aq h1 6,λo=>by simp[World.frozen?,h1]⟩
def PS.eh{w0 w:World}{D:SD}{SB NB HB UB:List Nat}(h:PS w0 w b bs bn D SB NB HB UB):w.cell? (Ad b 0)=some (.U D.e)/\w.cell? (Ad b 1)=some (.U D.g)/\w.cell? (Ad b 2)=some (.U D.x)/\w.cell? (Ad b 3)=some (.I D.t)/\w.cell? (Ad b 4)=some (.map (some bs))/\w.cell? (Ad b 5)=some (.map (some bn))/\∀o,w.frozen? (Ad b o)=false:=
 ⟨aq h.hd 0,aq h.hd 1,aq h.hd 2,aq h.hd 3,aq h.hd 4,aq h.hd 5,λo=>by simp[World.frozen?,h.hd]⟩
structure NT(ss:List aP)(nd:aC):Prop where
 by':aN nd.path
 pl:nd.path.length<=1048576
 wpw:nd.watchers.Pairwise (·<·)
 Tb:nd.watchers.length<=0
 Ox:∀i∈nd.watchers,∃s∈ss,s.1=i
def aC6{ss':List aP}(h:ss'.map (·.1)=ss.map (·.1)){i:Int}(hi:∃s∈ss,s.1=i):∃(j:Nat)(s:aP),ss'[j]?=some s/\s.1=i:=by
 obtain⟨s,hs,rfl⟩:=hi;have:s.1∈ss'.map (·.1):=by rw[h];exact ji.2 ⟨s,hs,rfl⟩
 obtain⟨s',Hg,e⟩:=ji.1 this;obtain⟨j,hj⟩:=gH.1 Hg;exact⟨j,s',hj,e⟩
def aD4{w:World}{ss:LI}(h:Q.RdK B w v ss):∃p c gk,v=.S p ss.length c/\B<=gk/\∀(j:Nat)(x:Int),ss[j]?=some x->p=some (Ad gk 0)/\gk<w.heap.size/\w.cell? (Ad gk j)=some (.U x):=by
 rcases h with⟨rfl,rfl⟩|⟨g,cap,rfl,hB,aT,hu⟩;{exact⟨none,0,B,rfl,iP _,λj x hx=>by simp at hx⟩};{refine⟨_,cap,g,rfl,hB,λj x hx=>⟨rfl,aT,?_⟩⟩;have:=hu j (by simpa using(bf.1 hx).1);have h2:=this.1;simpa[hx]using h2}
def One.ofG{w0 w w':World}(be:Bw w0 w)(hg:w.grownBy w' (some z))(hz:w0.heap.size<=z)(hm:∃es c,w.heap[z]?=some (.map es c)):One w0 w w' z:=by
 refine⟨(cR w0.heap.size w).grown hg be.size (λb e=>by cases e;exact hz),λy hy cg=>hg.block y hy (λe=>cg (by cases e;rfl)),λcur ty m hc=>?_⟩;obtain⟨es,c,hm⟩:=hm;rw[hm]at hc;cases hc
def PS.WT{w0 w w':World}{D:SD}{SB NB HB UB:List Nat}(h:PS w0 w b bs bn D SB NB HB UB)(hi:D.ns[i]?=some nd)(hg:NB[i]?=some g)(og:HB[i]?=some hh)(mO:UB[i]?=some uu)(O:One w0 w w' uu)(hs:SM w' uu s):PS w0 w' b bs bn {D with ns:=D.ns.set i {nd with watchers:=s}} SB NB HB UB:=by
 obtain⟨lo,⟨V,q1,q2⟩,q3,q4⟩:=h.mZ i nd g hh uu hi hg og mO;obtain⟨es,c,m4⟩:=q4.at;refine h.Zr hi hg og mO (.inr (.inr rfl)) O rfl ⟨lo,⟨V,O.obj q1 (λe=>?_),q2.fr O.fr⟩,q3.keep O (h.hu.2.2.2.2.2 _ (aY og) _ (aY mO)),hs⟩;rw[e,m4]at q1;cases q1
def PS.Wv{w0 w w':World}{D:SD}{SB NB HB UB:List Nat}(h:PS w0 w b bs bn D SB NB HB UB)(hi:D.ns[i]?=some nd)(hg:NB[i]?=some g)(og:HB[i]?=some hh)(mO:UB[i]?=some uu)(O:One w0 w w' hh)(hs:SM w' hh s):PS w0 w' b bs bn {D with ns:=D.ns.set i {nd with holders:=s}} SB NB HB UB:=by
 obtain⟨lo,⟨V,q1,q2⟩,q3,q4⟩:=h.mZ i nd g hh uu hi hg og mO;obtain⟨es,c,m3⟩:=q3.at;refine h.Zr hi hg og mO (.inr (.inl rfl)) O rfl ⟨lo,⟨V,O.obj q1 (λe=>?_),q2.fr O.fr⟩,hs,q4.keep O (λe=>h.hu.2.2.2.2.2 _ (aY og) _ (aY mO) e.symm)⟩;rw[e,m3]at q1;cases q1
abbrev T3:List TypeId:=[84,142,135]
def PL(b bs bn:Nat)(SB NB HB UB:List Nat):List Nat:=b::bs::bn::(SB++(NB++(HB++UB)))
def Kb(L:List Nat)(w w':World):Prop:=∀z,z<w.heap.size->z∉L->w'.heap[z]?=w.heap[z]?
def Kb.below{w w':World}(h:Bw w w'):Kb L w w':=λz hz _=>h.block z hz
def Kb.trans{w w1 w2:World}(h:Kb L w w1)(h2:Kb L w1 w2)(hs:w.heap.size<=w1.heap.size):Kb L w w2:=λz hz hn=>(h2 z (by omega) hn).trans (h z hz hn)
def Kb.mono{L':List Nat}{w w':World}(h:Kb L w w')(hs:∀z∈L,z∈L'):Kb L' w w':=λz hz hn=>h z hz (λhm=>hn (hs z hm))
def One.kb{w0 w w':World}(O:One w0 w w' g)(hg:g∈L):Kb L w w':=λz hz hn=>O.k z hz (λe=>hn (e▸hg))
def Td{w:World}{D:SD}{SB NB HB UB:List Nat}(h:Hid (PS w0 w b bs bn D SB NB HB UB))(nd:aC)(hk:Hid (D.ns[k]?=some nd))(kd:Int)(hS:Hid (Fg D.ss))(hT:Hid (NT D.ss nd)):Calls prog 309 #[.pointer (some (Ad b 0)),.I kd,.string (aO nd.path)] w λr w'=>PS w0 w' b bs bn (dV D k kd) SB NB HB UB/\(Fr T3 w w'/\Kb (PL b bs bn SB NB HB UB) w w')/\∃v,r=.returned v:=by
 obtain⟨g,hh,uu,hg,og,mO,hN,hlk⟩:=h.Qz hk hT.pl;obtain⟨V,-,-,-,-,-,-,-,-,n6,-⟩:=hN.cells;obtain⟨-,-,-,-,-,h5,-⟩:=h.eh;obtain⟨M,nn,oM,hnn,sM,zM⟩:=hN.WT;have YG:=af (ah hg (ah og mO));have hgl:g<w.heap.size:=by obtain⟨V,hb,-⟩:=hN.blk;exact aQ hb
 go_in
 go_wp2_with fail;refine(Q.sJ uu nn M w oM (by rw[zM];have:=hT.Tb;omega)).mono ?_;rintro r w1⟨v,ws,rfl,hA,hK,aA⟩;have ews:ws=nd.watchers:=tA hA.lt hT.wpw λx=>by rw[hA.mem x,sM];simp
 subst ews;obtain⟨p,c,gk,rfl,hgk,cQ⟩:=aD4 hK;obtain⟨m,em⟩:=bH nd.watchers.length;rw[aa em];have NR:=af cQ;have P1:=af (h.below aA);have F1:=af (Fr.below (T:=T3) aA);have K1:=af (Kb.below (L:=PL b bs bn SB NB HB UB) aA);have z1:=aA.size;have hm:m<=0:=aa em▸hT.Tb;go_wp2
 go_loopw[21](λiv wr=>∃(j:Nat)(SS:List aP),j<=m/\iv=.I j/\Hid (uA D.ss (nd.watchers.take j) (kd,nd.path)=SS)/\Hid (PS w0 wr b bs bn {D with ss:=SS} SB NB HB UB)/\Hid (Fg SS)/\Hid (Fr T3 w wr)/\Hid (wr.heap[gk]?=w1.heap[gk]?)/\Hid (w1.heap.size<=wr.heap.size)/\Hid (Kb (PL b bs bn SB NB HB UB) w wr)) (λiv _=>m-(intOf iv).toNat)
 exact⟨0,D.ss,fN _,rfl,bq,P1,hS,F1,bq,iP _,K1⟩;{
 obtain⟨j,SS,hj,rfl,hSS,hP,hSO,hFR,hGK,Ue,hKB⟩:=hrel;obtain⟨-,-,-,-,h4,h5,-⟩:=hP.eh;by_cases aT:j<m;{omega};{
 have bu:=dm j m;have e1:=aa hSS;rw[ke (by rw[aa em];omega)]at e1;have hN5:=hP.mZ k nd g hh uu hk YG.1 YG.2.1 YG.2.2;obtain⟨V,-,-,-,-,-,-,-,-,n6,-⟩:=hN5.cells;obtain⟨M5,n5,o5,-,-,-⟩:=hN5.WT;obtain⟨vv,w5,dN,MG,uo,hs5⟩:=JV underlying139 o5 0;have HN5:=af hN5;have HO5:=af (ah MG (ah uo hs5));have H5:=af o5;go_wp2
 go_end0
 have O:=One.ofG hP.be HO5.2.1 HN5.lo.2.2 (ownsMap_at H5);have hQ:=PS.WT (s:=[]) hP hk YG.1 YG.2.1 YG.2.2 O ⟨_,0,HO5.1,ae,dH.nil,rfl⟩;refine⟨?_,⟨hFR.trans O.fr,hKB.trans (O.kb (by simp[PL,aY YG.2.2])) hFR.1⟩,_,rfl⟩;unfold dV;rw[aa hk];simp only[e1];exact hQ}}
def aV6{w:World}{D:SD}{SB NB HB UB:List Nat}(h:Hid (PS w0 w b bs bn D SB NB HB UB))(nd:aC)(hk:Hid (D.ns[k]?=some nd))(kd:Int)(hS:Hid (Fg D.ss))(hT:Hid (NT D.ss nd)):Cp 309 #[.pointer (some (Ad b 0)),.I kd,.string (aO nd.path)] w λr w'=>PS w0 w' b bs bn (dV D k kd) SB NB HB UB/\Fr T3 w w'/\∃v,r=.returned v:=(Td h nd hk kd hS hT).mono λr w'⟨h1,h2,h3⟩=>⟨h1,h2.1,h3⟩
def dH.has(h:dH D s)(id:Int):Maps.has D (.U id)=s.contains id:=by
 rw[GF,h];simp
def qS{id x:Int}:x∈qT s id↔x∈s/\x≠id:=by
 unfold qT;simp
def Ow{id:Int}(h:s.Pairwise (·<·)):(qT s id).Pairwise (·<·):=h.filter _
theorem Bj:∀{s:LI}{id x:Int},x∈xA s id↔x=id\/x∈s
 |[],id,x=>by simp[xA]
 |y::r,id,x=>by
  unfold xA;split;{rw[jG,qS];by_cases e:x=id<;>simp[e]}
  {rw[jG,Bj,jG];constructor;{rintro(h|h|h);{exact .inr (.inl h)};{exact .inl h};{exact .inr (.inr h)}};{rintro(h|h|h);{exact .inr (.inl h)};{exact .inl h};{exact .inr (.inr h)}}}
theorem Zl:∀{s:LI}{id:Int},s.Pairwise (·<·)->(xA s id).Pairwise (·<·)
 |[],id,_=>by simp[xA]
 |y::r,id,h=>by
  unfold xA;obtain⟨h1,h2⟩:=Al.1 h;split;{
 rename_i hle
 refine Al.2 ⟨λz hz=>?_,Ow h⟩;obtain⟨iU,jU⟩:=qS.1 hz;rcases jG.1 iU with rfl|iU;{omega};{have:=h1 z iU;omega}};{
 rename_i hle
 refine Al.2 ⟨λz hz=>?_,Zl h2⟩;rcases Bj.1 hz with rfl|hz;{omega};{exact h1 z hz}}
def SM.del{w w':World}{h n:Nat}{id:Int}(hs:dH D s)(hp:s.Pairwise (·<·))(hn:n<=2097152)(o:w'.ownsMap prog 31 unitElem h n (D.del (.U id))):SM w' h (qT s id):=by
 refine SM.of o hn (λk=>?_) (qF (Ow hp));by_cases e:k=.U id;{subst e;rw[has_del_same];constructor;{intro hh;cases hh};{rintro⟨i,hi,e⟩;simp at e;exact absurd e.symm (qS.1 hi).2}};{rw[has_del_other e,hs k];constructor;{rintro⟨i,hi,rfl⟩;exact⟨i,qS.2 ⟨hi,λe2=>e (by rw[e2])⟩,rfl⟩};{rintro⟨i,hi,rfl⟩;exact⟨i,(qS.1 hi).1,rfl⟩}}
def SM.put{w w':World}{h n:Nat}{id:Int}(hs:dH D s)(hD:IsMap D)(hp:s.Pairwise (·<·))(hn:n<=2097152){d:DataW Unit}(o:w'.ownsMap prog 31 unitElem h n (D.put (.U id) d)):SM w' h (xA s id):=by
 refine SM.of o hn (λk=>?_) (qF (Zl hp));rw[(dH.put hs hD id d) k];constructor;{rintro⟨i,hi,rfl⟩;exact⟨i,Bj.2 (by simp at hi;exact hi.symm),rfl⟩};{rintro⟨i,hi,rfl⟩;exact⟨i,by have:=Bj.1 hi;simp;exact this.symm,rfl⟩}
theorem ld{w:World}(hN:Hid (PN w0 w g hh uu nd)){id:Int}(hid:0<=id/\id<18446744073709551616){B:Bool}(eB:Hid (nd.holders.contains id=B)):Calls prog 306 #[.pointer (some (Ad g 0)),.U id] w (Rb (.bool B) w):=by
 obtain⟨V,-,-,-,-,-,n3,-⟩:=hN.cells;obtain⟨D,n,o,hn,hs,hz⟩:=hN.Wv;have cQ:=keyOf_int_mk underlying31 (oY hid);have hB:Maps.has D (.U id)=B:=(hs.has id).trans eB
 go_in
 go_wp2_with(first
  |(at_lookup;refine wpList_lookup_own_unit _ rfl _ _ 139 rfl 31 _ iO underlying139 bg hh n D rfl o _ _ rfl cQ ?_;rw[hB])
  |go_in)
 go_ret;exact⟨rfl,au.alloc ao _⟩
theorem aH6(nd:aC)(id:Int):mQ nd id=(decide (nd.mode=0)||(decide (nd.holders.length=1)&&nd.holders.contains id)):=by
 unfold mQ
 match nd.holders with
 |[]=>simp
 |[y]=>
  congr 1
  simp only[List.length_singleton,decide_true,pM,List.headD_cons];rw[GF];simp;exact⟨λe=>(Qe e).symm,λe=>BN e.symm⟩
 |y::z::r=>simp
def XU{w:World}(hN:Hid (PN w0 w g hh uu nd)){id:Int}(hid:0<=id/\id<18446744073709551616){B:Bool}(eB:Hid (mQ nd id=B)):Calls prog 299 #[.pointer (some (Ad g 0)),.U id] w (Rb (.bool B) w):=by
 obtain⟨V,-,-,-,-,n2,n3,-⟩:=hN.cells;obtain⟨D,n,o,hn,hs,hz⟩:=hN.Wv;have e:=aa eB;rw[aH6]at e;have hlen:=o.len underlying139 3;rw[hz]at hlen;by_cases hm:nd.mode=0;{
 have hm':(nd.mode==0)=true:=by simp[hm]
 have eB':B=true:=by rw[<-e];simp[hm]
 subst eB'
 go_in
 go_wp2;go_ret;exact⟨rfl,cR _ _⟩};{
 have hm':(nd.mode==0)=false:=by simp[hm]
 by_cases hl:nd.holders.length=1;{
 rw[hl]at hlen;have eB':nd.holders.contains id=B:=by rw[<-e];simp[hm,hl]
 have EB:=af eB'
 go_in
 go_wp2_with fail;refine(ld hN hid EB).mono ?_;rintro r w1⟨rfl,aA⟩;go_wp2;go_ret;exact⟨rfl,aA⟩};{
 obtain⟨nl,jJ⟩:=aI nd.holders.length;rw[jJ]at hlen hl;have eB':B=false:=by rw[<-e,jJ];simp[hm,hl]
 subst eB';have EP:((nl:Int)==1)=false:=by simp;omega
 go_in
 go_wp2;go_ret;exact⟨rfl,cR _ _⟩}}
def KD(ns:List aC):Prop:=∀(i j:Nat)(a c:aC),ns[i]?=some a->ns[j]?=some c->cL a.path=cL c.path->i=j
def KD.set(h:KD ns)(hk:ns[k]?=some nd)(hp:nd'.path=nd.path):KD (ns.set k nd'):=λi j a c ha hc e=>by
 have key:∀(i:Nat)(a:aC),(ns.set k nd')[i]?=some a->∃a0,ns[i]?=some a0/\a0.path=a.path:=λi a ha=>by rw[vZ]at ha;by_cases ei:k=i;{subst ei;rw[bN rfl,bN (bf.1 hk).1]at ha;cases ha;exact⟨nd,hk,hp.symm⟩};{rw[bG ei]at ha;exact⟨a,ha,rfl⟩}
 obtain⟨a0,h1,e1⟩:=key i a ha;obtain⟨c0,h2,e2⟩:=key j c hc;exact h i j a0 c0 h1 h2 (by rw[e1,e2,e])
def Pk{w:World}{D:SD}{SB NB HB UB:List Nat}(h:Hid (PS w0 w b bs bn D SB NB HB UB))(hk:Hid (D.ns[k]?=some nd))(hS:Hid (Fg D.ss))(hT:Hid (NT D.ss nd))(hD:Hid (KD D.ns)):Calls prog 308 #[.pointer (some (Ad b 0)),.string (aO nd.path)] w λr w'=>PS w0 w' b bs bn (Sk (dV D k 2) k) SB (NB.eraseIdx k) (HB.eraseIdx k) (UB.eraseIdx k)/\(Fr T3 w w'/\Kb (PL b bs bn SB NB HB UB) w w')/\∃v,r=.returned v:=by
 go_in
 go_wp2_with fail;refine(Td h nd hk 2 hS hT).mono ?_;rintro r w1⟨hP,hF,v,rfl⟩;replace hF:=af hF;have YS:(dV D k 2).ns=D.ns.set k {nd with watchers:=[]}:=by unfold dV;rw[aa hk]
 have la:(dV D k 2).ns[k]?=some {nd with watchers:=[]}:=YS▸bL (aa hk) _;have hD1:KD (dV D k 2).ns:=YS▸hD.set (aa hk) rfl;obtain⟨-,-,-,-,-,h5,-⟩:=hP.eh;obtain⟨M,n,o,-,-,-⟩:=hP.lY;have cQ:keyOf prog 9 (.string (aO nd.path))=some (cL nd.path):=by rw[WideMaps.keyOf_string_mk underlying9 (by rw[ik];have:=hT.pl;unfold maxLen;omega),oR]
 have HP:=af (ah hP (ah la hD1));obtain⟨w',dN,ho,Aq⟩:=o.drop oe underlying133 cQ 0;have HT:=af (ah ho Aq);have O:=af o;go_wp2
 go_end0
 have On:=One.ofG HP.1.be HT.2.grown HP.1.lo.2.2 (ownsMap_at O);refine⟨?_,⟨hF.1.trans On.fr,hF.2.trans (On.kb (by simp[PL])) hF.1.1⟩,_,rfl⟩;refine HP.1.cD8 HP.2.1 On (λj z hz e=>HP.2.2 j k z _ hz HP.2.1 e) (λM' n' o'=>?_);obtain⟨w2,QP,mV,-⟩:=o'.drop oe underlying133 cQ 0;rw[dN]at QP;cases QP;exact mV
def ZW{w:World}{D:SD}{SB NB HB UB:List Nat}(h:Hid (PS w0 w b bs bn D SB NB HB UB))(hk:Hid (D.ns[k]?=some nd))(hS:Hid (Fg D.ss))(hT:Hid (NT D.ss nd))(hD:Hid (KD D.ns)):Cp 308 #[.pointer (some (Ad b 0)),.string (aO nd.path)] w λr w'=>PS w0 w' b bs bn (Sk (dV D k 2) k) SB (NB.eraseIdx k) (HB.eraseIdx k) (UB.eraseIdx k)/\Fr T3 w w'/\∃v,r=.returned v:=(Pk h hk hS hT hD).mono λr w'⟨h1,h2,h3⟩=>⟨h1,h2.1,h3⟩
def PS.ab7{w0 w w':World}{D:SD}{SB NB HB UB:List Nat}(h:PS w0 w b bs bn D SB NB HB UB)(hi:D.ns[i]?=some nd)(hg:NB[i]?=some g)(og:HB[i]?=some hh)(mO:UB[i]?=some uu)(O:One w0 w w' g)(V:Value)(vl:LI)(ow mo ep ge:Int)(hc:w'.heap[g]?=some (.cells #[V,.U ow,.I mo,.map (some hh),.U ep,.U ge,.map (some uu)] 142))(hV:AB w0 w' V vl):PS w0 w' b bs bn {D with ns:=D.ns.set i {nd with value:=vl,owner:=ow,mode:=mo,aJ:=ep,gen:=ge}} SB NB HB UB:=by
 obtain⟨lo,⟨V0,q1,-⟩,q3,q4⟩:=h.mZ i nd g hh uu hi hg og mO;obtain⟨es,c,m3⟩:=q3.at;obtain⟨es',c',m4⟩:=q4.at;refine h.Zr hi hg og mO (.inl rfl) O rfl ⟨lo,⟨V,hc,hV⟩,q3.keep O (λe=>?_),q4.keep O (λe=>?_)⟩;{rw[e,q1]at m3;cases m3};{rw[e,q1]at m4;cases m4}
def One.ofC{w0 w w':World}{cs:Array Value}{ty:TypeId}(be:Bw w0 w)(hb:Below g w w')(hg:w.heap[g]?=some (.cells cs ty))(YU:w0.heap.size<=g)(ht:ty∈[84,142,135])(hk:∀z,z<w.heap.size->z≠g->w'.heap[z]?=w.heap[z]?):One w0 w w' g:=by
 refine⟨hb.mono YU,hk,λcur ty' m hc=>?_⟩;rw[hg]at hc;simp at hc;rw[<-hc.2.1];exact ht
def qK{α:Type}(l:List α)(k:Nat)(a c:α):(l.set k a).set k c=l.set k c:=by simp
def JW{w:World}{D:SD}{SB NB HB UB:List Nat}(h:Hid (PS w0 w b bs bn D SB NB HB UB))(hk:Hid (D.ns[k]?=some nd))(hS:Hid (Fg D.ss))(hT:Hid (NT D.ss nd)){id:Int}(hid:0<=id/\id<18446744073709551616)(hhp:Hid (nd.holders.Pairwise (·<·)))(hhl:nd.holders.length<=1048576)(Dw:Hid (nd.holders.contains id=true)):Calls prog 307 #[.pointer (some (Ad b 0)),.string (aO nd.path),.U id] w λr w'=>PS w0 w' b bs bn (dO D k id) SB NB HB UB/\(Fr T3 w w'/\Kb (PL b bs bn SB NB HB UB) w w')/\∃v,r=.returned v:=by
 obtain⟨g,hh,uu,hg,og,mO,hN,hlk⟩:=h.Qz hk hT.pl;obtain⟨V,hV,gc,-,n1,n2,n3,n4,n5,n6,nf⟩:=hN.cells;obtain⟨-,-,-,-,-,h5,-⟩:=h.eh;obtain⟨M,nn,oM,hnn,sM,zM⟩:=hN.Wv;have cQ:=keyOf_int_mk underlying31 (oY hid);obtain⟨w1,dN,ho,Aq⟩:=oM.drop iO underlying139 cQ 0;have O1:=One.ofG h.be Aq.grown hN.lo.2.1 (ownsMap_at oM);have S1:=SM.del (w:=w) sM hhp hnn ho;have P1:=h.Wv hk hg og mO O1 S1;have la:=bL hk {nd with holders:=qT nd.holders id}
 obtain⟨V1,Y7,gc1,m0,m1,m2,m3,m4,m5,m6,mf⟩:=(P1.mZ k _ g hh uu la hg og mO).cells;obtain⟨M1,nn1,oM1,-,-,zM1⟩:=S1;have hlen:=oM1.len underlying139 3;rw[zM1]at hlen;obtain⟨nl,jJ⟩:=bH (qT nd.holders id).length;rw[aa jJ]at hlen;have HP1:=af (ah P1 la);have F1:=af O1.fr;have K1:=af (O1.kb (L:=PL b bs bn SB NB HB UB) (by simp[PL,aY og]));have JF:=af (ah hg (ah og mO));have bj9:=af (ah gc1 Y7);have glo:=hN.lo.1
 go_in
 by_cases h0:nl=0;{
 subst h0;have l9:qT nd.holders id=[]:=sV.1 jJ;obtain⟨Z,hZ⟩:=az (((w1.setCell (Ad g 2) (.I 0)).setCell (Ad g 4) (.U 0)).setCell (Ad g 5) (.U 0));have IF:Z.heap[g]?=some (.cells #[V1,.U nd.owner,.I 0,.map (some hh),.U 0,.U 0,.map (some uu)] 142):=by rw[hZ];simp[World.setCell,xM,bj9.1]
 have bZ:Below g w1 Z:=by rw[hZ];exact((au.setCell (p:=(Ad g 2)) ao _).setCell (p:=(Ad g 4)) ao _).setCell (p:=(Ad g 5)) ao _
 have kZ:∀z,z<w1.heap.size->z≠g->Z.heap[z]?=w1.heap[z]?:=λz _ cg=>by rw[hZ];iterate 3 rw[fW _ _ _ _ (show z≠_ from cg)]
 have OZ:=One.ofC HP1.1.be bZ bj9.1 glo ai kZ;have PZ:=HP1.1.ab7 HP1.2 JF.1 JF.2.1 JF.2.2 OZ V1 nd.value nd.owner 0 0 0 IF (bj9.2.fr OZ.fr);simp only[qK,l9]at PZ;have HPZ:=af PZ;have FZ:=af (F1.trans OZ.fr);have KZ:=af (K1.trans (OZ.kb (by simp[PL,aY JF.1])) F1.1);have YV:=af (bL hk {nd with holders:=[],mode:=0,aJ:=0,gen:=0});have fz2:=mf 2;have fz4:=mf 4;have fz5:=mf 5;go_wp2_with fail;rw[<-hZ];refine(Td HPZ (k:=k) {nd with holders:=[],mode:=0,aJ:=0,gen:=0} YV 3 hS (af ⟨hT.by',hT.pl,hT.wpw,hT.Tb,hT.Ox⟩)).mono ?_;rintro r w5⟨hP5,hF5,v5,rfl⟩;replace hF5:=af hF5;go_wp2
 go_end0
 refine⟨?_,⟨FZ.trans hF5.1,KZ.trans hF5.2 FZ.1⟩,_,rfl⟩;unfold dO;rw[aa hk];simp only[aa Dw,qt,l9];exact hP5};{have h0':=qi 0 nl;go_wp2;refine dD (sS aH _ _ _) rfl ?_;refine⟨?_,⟨F1,K1⟩,_,rfl⟩;have cg:qT nd.holders id≠[]:=λe=>h0 (by rw[<-aa jJ,e];rfl);unfold dO;rw[aa hk];simp only[aa Dw,qt,bG cg];exact HP1.1}
def Xf{w:World}{D:SD}{SB NB HB UB:List Nat}(h:Hid (PS w0 w b bs bn D SB NB HB UB))(hk:Hid (D.ns[k]?=some nd))(hS:Hid (Fg D.ss))(hT:Hid (NT D.ss nd)){id:Int}(hid:0<=id/\id<18446744073709551616)(hhp:Hid (nd.holders.Pairwise (·<·)))(hhl:nd.holders.length<=1048576)(Dw:Hid (nd.holders.contains id=true)):Cp 307 #[.pointer (some (Ad b 0)),.string (aO nd.path),.U id] w λr w'=>PS w0 w' b bs bn (dO D k id) SB NB HB UB/\Fr T3 w w'/\∃v,r=.returned v:=(JW h hk hS hT hid hhp hhl Dw).mono λr w'⟨h1,h2,h3⟩=>⟨h1,h2.1,h3⟩
def aa8{g:Int}{n c:Nat}{q:OA}{m d:Nat}{Qs:List Value}(en:Hid (ss.length=n))(em:Hid (ns.length=m)){w:World}(hS:Hid (kx B w (.S p n c) ss Qs))(hN:Hid (AK B w (.S q m d) ns))(hB:B<=w.heap.size)(hn:Mg n)(hx:0<=x/\x<=4611686018427387904)(ht:0<=t/\t<=1000000):Calls prog 123 #[ft e g x t (.S p n c) (.S q m d)] w λr w'=>QR B w w' r (pK ⟨e,g,x,t,ss,ns⟩).1 (pK ⟨e,g,x,t,ss,ns⟩).2:=by
 obtain⟨W0,dP,b0,z0,C0⟩:=gO w (.U e) (.U g) (.U x) (.I t) (.S p n c) (.S q m d);obtain⟨W1,lG,b1,z1,C1⟩:=qO W0;obtain⟨W2,nF,b2,z2,C2⟩:=rA W1 (.I 0) (.U 0) (.U 0) (.U 0) (.I 0) aR aR aR;rw[z0]at C1 z1;rw[z1]at C2 z2;have HC:=af (ah ((C0.below b1).below b2) (ah (C1.below b2) C2));have bW:=af (aj (aj b0 b1) b2);have HS:=af (ah (hS.fr (aM (aa bW))) (hN.fr (aM (aa bW))))
 go_in
 by_cases h50:50<=n;{
 have be9:decide ((50:Int)<=(n:Int))=true:=by simp;omega
 have hI:pK ⟨e,g,x,t,ss,ns⟩=(⟨e,g,x,t,ss,ns⟩,AR 11):=by unfold pK;rw[bN (by simpa[aa en]using h50)]
 rw[hI];go_wp2_with fail;rw[<-dP,<-lG,<-nF];refine FO 1 w.heap.size bg rfl (λ_ _=>rfl) (λ_ _=>rfl) (λ_ _=>rfl) (λ_ _=>rfl) HC.1 HC.2.1 HC.2.2 ae (B:=w.heap.size) ae ae ?_;intro w' aA Hi f1 bl1;have HQ:=af (QR.num (e:=e) (g:=g) (x:=x) (t:=t) en em HS.1 HS.2 (Fr.below bW) (bW.mono hB) f1 bl1 hB 11 0 0 0 0);obtain⟨q0,q1,q2,q3,q4,q5,qf⟩:=aA.cells;obtain⟨r0,r1,r2,r3,r4,r5,r6,r7,rf⟩:=Hi.cells;simp only[Act.put,xa,xb,xc];go_wp2;exact dD (v:=.tuple #[ft e g x t (.S p n c) (.S q m d),yF 11 0 0 0 0 aR aR aR]) (by simp[results,results123,go_sem,q0,q1,q2,q3,q4,q5,r0,r1,r2,r3,r4,r5,r6,r7]) rfl (aa HQ)};{
 have be9:decide ((50:Int)<=(n:Int))=false:=by simp;omega
 by_cases hx2:4611686018427387904<=x;{
 have cl9:decide (4611686018427387904<=x)=true:=by simp;omega
 have hI:pK ⟨e,g,x,t,ss,ns⟩=(⟨e,g,x,t,ss,ns⟩,AR 12):=by unfold pK;rw[bG (by simpa[aa en]using h50),bN hx2]
 rw[hI];go_wp2_with fail;rw[<-dP,<-lG,<-nF];refine FO 1 w.heap.size bg rfl (λ_ _=>rfl) (λ_ _=>rfl) (λ_ _=>rfl) (λ_ _=>rfl) HC.1 HC.2.1 HC.2.2 ae (B:=w.heap.size) ae ae ?_;intro w' aA Hi f1 bl1;have HQ:=af (QR.num (e:=e) (g:=g) (x:=x) (t:=t) en em HS.1 HS.2 (Fr.below bW) (bW.mono hB) f1 bl1 hB 12 0 0 0 0);obtain⟨q0,q1,q2,q3,q4,q5,qf⟩:=aA.cells;obtain⟨r0,r1,r2,r3,r4,r5,r6,r7,rf⟩:=Hi.cells;simp only[Act.put,xa,xb,xc];go_wp2;exact dD (v:=.tuple #[ft e g x t (.S p n c) (.S q m d),yF 12 0 0 0 0 aR aR aR]) (by simp[results,results123,go_sem,q0,q1,q2,q3,q4,q5,r0,r1,r2,r3,r4,r5,r6,r7]) rfl (aa HQ)};{
 have cl9:decide (4611686018427387904<=x)=false:=by simp;omega
 have hI:pK ⟨e,g,x,t,ss,ns⟩=(⟨e,g,x+1,t,ss++[(x+1,t+10,[])],ns⟩,⟨0,x+1,0,0,t+10,[],[],[]⟩):=by unfold pK;rw[bG (by simpa[aa en]using h50),bG hx2];rfl
 rw[hI];have wx:IntKind.u64.wrap (x+1)=x+1:=IntWalk.u64_in _ ae;have wt:IntKind.i64.wrap (t+10)=t+10:=jL _ ae;obtain⟨V0,hV0,b0,z0,C0⟩:=gO w (.U e) (.U g) (.U (x+1)) (.I t) (.S p n c) (.S q m d);obtain⟨V1,Y7,b1,z1,C1⟩:=qO V0;obtain⟨V2,hV2,b2,z2,C2⟩:=rA V1 (.I 0) (.U 0) (.U 0) (.U 0) (.I 0) aR aR aR;obtain⟨V3,hV3,b3,z3,C3,-⟩:=ar V2 #[.U (x+1),.I (t+10),.S none 0 0] 84;rw[z0]at C1 z1;rw[z1]at C2 z2;rw[z2]at C3 z3;have HC:=af (ah (((C0.below b1).below b2).below b3) (ah ((C1.below b2).below b3) (C2.below b3)));have bW:=af (aj (aj (aj b0 b1) b2) b3);have HS:=af (ah (hS.fr (aM (aa bW))) (hN.fr (aM (aa bW))));have Sd:=af C3;have lz:Hid ((ss.zip Qs).length=n):=by show _=_;rw[Qf,hS.len,aa en];simp
 have YU:Hid (∀b,(Value.slice p n c).ownBlock=some b->B<=b/\b<w.heap.size):=λb hb=>hS.row.lt b hb;go_wp2_with(at_builtin;rw[<-hV0,<-Y7,<-hV2,<-hV3];refine rP rfl rfl (v:=.S p n c) (z:=((x+1,t+10,[]),aR)) lz rfl HS.1.row (w.heap.size+1+1+1) rfl rfl Sd.1 ae ae ?_);intro p' c' w9 hr9 AW hf9;rw[<-hV0,<-Y7,<-hV2,<-hV3]at AW hf9;have S9:=HS.1.bs9 hf9 _ _ hr9;have N9:=gy.fr HS.2 hf9;have B9:Below B w w9:=(bW.mono hB).grown AW ae (λb hb=>(aa YU b hb).1);have F9:Fr [190,84,119] w w9:=(Fr.below (aa bW)).trans (hf9.sub ai);have X0:=HC.1.fr hf9;have X1:=HC.2.1.fr hf9;have X2:=HC.2.2.fr hf9;obtain⟨k0,k1,k2,k3,k4,k5,kf⟩:=X0.cells;obtain⟨fA,bA,gA⟩:=X0.bH8 (j:=4) F9 B9 ao hB (.S p' (n+1) c');obtain⟨Z,hZ⟩:=az (w9.setCell (Ad w.heap.size 4) (.S p' (n+1) c'));have CZ:al Z w.heap.size [.U e,.U g,.U (x+1),.I t,.S p' (n+1) c',.S q m d]:=hZ▸X0.1.fG 4 ai _;have X1':=X1.FK (b:=w.heap.size) (j:=4) (u:=.S p' (n+1) c') ae;rw[<-hZ]at fA bA gA X1';have X2':=X2.fr gA;have HZ:=af (ah CZ (ah X1' X2'));have HS9:=af (ah (S9.fr gA) (ah (gy.fr N9 gA) (ah fA bA)));have zZ:w.heap.size+3<Z.heap.size+1:=by have:=X2'.1;have:=fA.1;have h9:=hf9.1;have:=gA.1;omega
 go_wp2_with fail;rw[<-hZ];obtain⟨vA,jH⟩:=az Z.drew;have gS:=nH jH;have HA:=af (ah (HZ.1.below ae gS) (ah (HZ.2.1.below gS) (HZ.2.2.below gS)));have BA:=af gS;refine dC (λw'=>w'.cell? (Ad w.heap.size 0)=some (.U e)/\w'.cell? (Ad w.heap.size 1)=some (.U g)/\w'.cell? (Ad w.heap.size 2)=some (.U (x+1))/\w'.cell? (Ad w.heap.size 3)=some (.I t)/\w'.cell? (Ad w.heap.size 4)=some (.S p' (n+1) c')/\w'.cell? (Ad w.heap.size 5)=some (.S q m d)) (by rw[<-jH];exact⟨HA.1.1 0 _ rfl,HA.1.1 1 _ rfl,HA.1.1 2 _ rfl,HA.1.1 3 _ rfl,HA.1.1 4 _ rfl,HA.1.1 5 _ rfl⟩) λhS=>?_;rw[<-jH]at hS⊢;clear jH gS;refine mU 0 1 2 3 hS ?_;refine tn 4 hS ?_;refine dM 5 λKK hK=>?_;obtain⟨k0,k1,k2,k3,k4,k5,kf⟩:=HA.2.1.cells;go_simp;obtain⟨X,hX⟩:=az (dB vA (w.heap.size+1) (.U e) (.U g) (.U (x+1)) (.I t) (.S p' (n+1) c') (.S q m d));have bX:Below (w.heap.size+1) vA X:=hX▸cT _ _ _ _ _ _ _;have AO:=HA.2.1.put (.U e) (.U g) (.U (x+1)) (.I t) (.S p' (n+1) c') (.S q m d);have CX:=Pr HA.1 (b:=w.heap.size+1) ae (v0:=.U e) (v1:=.U g) (v2:=.U (x+1)) (v3:=.I t) (v4:=.S p' (n+1) c') (v5:=.S q m d);have fX:Fr [35] vA X:=by obtain⟨-,cur,ht⟩:=HA.2.1;rw[hX];exact je ht
 rw[<-hX]at AO CX;have RX1:=HA.2.2.fr fX;unfold dB at hX;rw[<-hX];have HX:=af (ah AO (ah CX (ah RX1 (ah fX bX))));refine gr hK (by exact⟨CX.1 0 _ rfl,CX.1 1 _ rfl,CX.1 2 _ rfl,CX.1 3 _ rfl,CX.1 4 _ rfl,CX.1 5 _ rfl⟩) λhS=>?_;clear hK KK hX k0 k1 k2 k3 k4 k5 kf AO CX RX1 fX bX;refine dM 6 λKK hK=>?_;obtain⟨k0,k1,k2,k3,k4,k5,k6,k7,kf⟩:=HX.2.2.1.cells;go_simp;obtain⟨RXY,fY⟩:=HX.2.2.1.put (.I 0) (.U (x+1)) (.U 0) (.U 0) (.I (t+10)) aR aR aR;have bY:=di (w:=X) (b:=w.heap.size+1+1) (v0:=.I 0) (v1:=.U (x+1)) (v2:=.U 0) (v3:=.U 0) (v4:=.I (t+10)) (v5:=aR) (v6:=aR) (v7:=aR);obtain⟨Y,hY⟩:=az (lD X (w.heap.size+1+1) (.I 0) (.U (x+1)) (.U 0) (.U 0) (.I (t+10)) aR aR aR);rw[<-hY]at RXY fY bY;unfold lD dB at hY;rw[<-hY];have CY:=HX.2.1.dG (bY.block _ ae);have BY:=af (ah (HX.1.fr fY) (ah RXY (ah ((Fr.below (T:=[35,79]) (aa BA)).trans ((HX.2.2.2.1.sub ai).trans (fY.sub ai))) ((BA.mono ae).trans ((HX.2.2.2.2.mono (VS _)).trans (bY.mono ae))))));refine gr hK (by exact⟨CY.1 0 _ rfl,CY.1 1 _ rfl,CY.1 2 _ rfl,CY.1 3 _ rfl,CY.1 4 _ rfl,CY.1 5 _ rfl⟩) λhS=>?_;clear hK KK hY k0 k1 k2 k3 k4 k5 k6 k7 kf RXY fY bY CY;refine dw ?_;clear hS;obtain⟨aA,Hi,f1,bl1⟩:=aa BY;have HQ:=af (QR.num (e:=e) (g:=g) (x:=x+1) (t:=t) (af (by rw[ir,aa en];rfl)) em HS9.1 HS9.2.1 HS9.2.2.1 HS9.2.2.2 f1 bl1 hB 0 (x+1) 0 0 (t+10));clear f1 bl1;obtain⟨q0,q1,q2,q3,q4,q5,qf⟩:=aA.cells;obtain⟨r0,r1,r2,r3,r4,r5,r6,r7,rf⟩:=Hi.cells;go_wp2;exact dD (v:=.tuple #[ft e g (x+1) t (.S p' (n+1) c') (.S q m d),yF 0 (x+1) 0 0 (t+10) aR aR aR]) (by simp[results,results123,go_sem,q0,q1,q2,q3,q4,q5,r0,r1,r2,r3,r4,r5,r6,r7]) rfl (aa HQ)}}
end Go.Proofs.YtkakbcaiplggiaaGreatDoor
