import Derived.Test.YtmfjiolopcbcmaaGreatDoorK37
namespace Go.Proofs.YtmfjiolopcbcmaaGreatDoor
set_option maxHeartbeats 3200000
set_option linter.unusedVariables false
set_option linter.unusedSimpArgs false
set_option maxRecDepth 100000
open Go.ChangeShapes Go.WideShapes Go.ChangeAt Go.RowKit Go.Maps Go.Proofs.Tryz
variable {D:SD} {P:List Int} {b bn bs gN j:Nat} {nd:aA} {w w' w0:World}
theorem PS.aO0 {SB NB HB UB:List Nat} (h:PS w0 w b bs bn D SB NB HB UB) {s:aR} (hE:PE w0 w gN s) (pT:gN∉SB) (hid:∀ s'∈D.ss,s'.1≠s.1) (O:One w0 w w' bs) (hl:D.ss.length<1048576)
  (hM:∀ M,w.ownsMap prog 22 aT bs D.ss.length M->w'.ownsMap prog 22 aT bs (D.ss.length+1) (M.put (.int .u64 s.1) (.lit (.int .i64 gN)))):PS w0 w' b bs bn { D with ss:=D.ss++[s] } (SB++[gN]) NB HB UB:=by
 obtain ⟨d0,d1,d2,d3,d4,d5⟩:=h.hu;obtain ⟨M,n,o,hn,m,hz⟩:=h.lI;obtain ⟨es0,c0,m0⟩:=ownsMap_at o;have nc:∀ {y:Nat} {cs:Array Value} {ty:TypeId},w.heap[y]?=some (.cells cs ty)->y≠bs:=fun {y cs ty} hy e=>by rw [e,m0] at hy;cases hy
 have kc:∀ p∈List.zipWith (fun (s:aR) g=>(Lit.int .u64 s.1,g)) D.ss SB,p.1≠.int .u64 s.1:=fun p hp e=>by obtain ⟨i,s',y,h1,-,rfl⟩:=gj hp;exact hid s' (aL h1) (by simpa using e)
 have o':=cY o;rw [hz] at o';refine ⟨h.be.trans O.b,O.obj h.hd (nc h.hd),by simp [h.lM],⟨_,_,hM M o',by omega,?_,?_⟩,fun j s1 g1 fO dS=>?_,?_,h.my,h.hlen,h.mV,?_,fun j mr gb h1 u1 fO dS qy sK=>?_,h.Kc,h.lo,h.Aw⟩;{rw [List.zipWith_append h.lM.symm];exact m.put o.isMap (k:=.int .u64 s.1) trivial kc gN};{
 have hh:Maps.has M (.int .u64 s.1)=false:=by rw [Bool.eq_false_iff];intro e;obtain ⟨p,hp,e2⟩:=(m.hs _).1 e;exact kc p hp e2
 rw [size_put (jK o gp),hh];simp [hz]};{
 have aU:j<D.ss.length\/j=D.ss.length:=by have:=(aM.1 fO).1;simp at this;omega
 rcases aU with aU | rfl;{simp only [List.getElem?_append_left aU] at fO;rw [List.getElem?_append_left (by rw [h.lM];exact aU)] at dS;have q:=h.lQ j s1 g1 fO dS;obtain ⟨-,u,h1,-⟩:=id q;exact q.aN O (nc h1)};{simp at fO;rw [<-h.lM] at dS;simp at dS;subst fO;subst dS;obtain ⟨-,u,h1,-⟩:=id hE;exact hE.aN O (nc h1)}};{rw [List.nodup_append];refine ⟨h.snd,by simp,fun a ha c hc=>?_⟩;simp at hc;subst hc;exact fun e=>pT (e▸ha)};{obtain ⟨M,n,o,r⟩:=h.ju;exact ⟨M,n,O.map o (fun e=>d0 e.symm),r⟩};{have q:=h.jb j mr gb h1 u1 fO dS qy sK;obtain ⟨-,⟨V,q1,-⟩,p3,p4⟩:=id q;exact q.aN O (nc q1) (d1 _ (aL qy)).1 (d2 _ (aL sK)).1}
theorem Pb (w:World) (b bs bn:Nat) (D:SD) (SB NB HB UB:List Nat) (h:Hid (PS w0 w b bs bn D SB NB HB UB)) (hx:0<=D.x/\D.x<4611686018427387904) (ht:0<=D.t/\D.t<=1000000) (pT:Hid (∀ s'∈D.ss,s'.1≠D.x+1)) (hl:Hid (D.ss.length<1048576)) :
  Calls prog 237 #[.agg #[],.pointer (some ⟨b,0,none⟩)] w fun r w'=>∃ gN,jC w0 w b bs bn { D with x:=D.x+1,ss:=D.ss++[(D.x+1,D.t+10,[])] } (SB++[gN]) NB HB UB { iQ with i:=D.x+1,n:=D.t+10 } r w':=by
 obtain ⟨X,Y,hX,hY,bY,zX,zY,BX,RY⟩:=im w #[] 182;have AK:=ae RY;have rN:=h.be.size;obtain ⟨-,-,h2,-,-,-,hf⟩:=h.cO;have bl:b<w.heap.size:=aI h.hd;have k2:=fun (o1 o2:Obj)=>af h2 (((Below.refl w.heap.size w).alloc ay o1).alloc (by simp) o2);have kf:=fun (o1 o2:Obj) (o:Nat)=>((((Below.refl w.heap.size w).alloc ay o1).alloc (by simp) o2).frozen (p:=⟨b,o,none⟩) bl).trans (hf o);clear RY BX h2 hf bl;go_enter func237,ntmps237;go_wp2_with fail;rw [<-hX,<-hY];clear k2 kf;have PY:=ae (h.below bY);obtain ⟨Z,hZ⟩:=ax (Y.setCell ⟨b,2,none⟩ (.int .u64 (D.x+1)));rw [<-hZ];have tS:Z.heap[b]?=some (.cells #[.int .u64 D.e,.int .u64 D.g,.int .u64 (D.x+1),.int .i64 D.t,.map (some bs),.map (some bn)] 114):=by rw [hZ];simp [World.setCell,Array.getElem?_modify,PY.hd]
 have O:=One.Pd PY.be (by rw [hZ];exact ar.setCell (p:=⟨b,2,none⟩) ay _:Below b Y Z) PY.hd PY.lo.1 (by simp) (fun z _ bm=>by rw [hZ];exact dr _ _ _ _ (show z≠_ from bm));have PZ:=ae (PY.Rt O D.e D.g (D.x+1) D.t tS);have FZ:=ae O.fr;clear tS O hZ PY hX hY;refine cK 10 (by kernel_rfl) (fun W eW=>?_);have bW:Below Z.heap.size Z W:=by rw [eW];exact ar.drew
 have PW:=ae (PZ.below bW);have FW:=ae (FZ.trans (Fr.below (T:=T3) bW));obtain ⟨-,-,q2,q3,-⟩:=PW.cO;clear eW bW PZ FZ;simp only [List.take_succ_cons,List.take_zero,List.drop_succ_cons,List.drop_zero]
 repeat still_step
 refine wpStill_nil ?_;obtain ⟨V,hV,bV,zV,-,gV⟩:=au W #[.int .u64 (D.x+1),.int .i64 (D.t+10),.slice none 0 0] 95;go_wp2_with fail;rw [<-hV];clear hV q2 q3;have PV:=ae (PW.below bV);have FV:=ae (FW.trans (Fr.below (T:=T3) bV));obtain ⟨gN,eN⟩:=ax W.heap.size;rw [<-eN] at gV ⊢;have hnS:gN∉SB:=fun e=>by obtain ⟨i,hi⟩:=List.mem_iff_getElem?.1 e;obtain ⟨s',vh⟩:∃ s',D.ss[i]?=some s':=⟨_,aH (by have:=PW.lM;simp only at this;rw [<-this];exact (aM.1 hi).1)⟩;obtain ⟨-,u,hu,-⟩:=PW.lQ i s' gN vh hi;have:=aI hu;omega
 have glo:w0.heap.size<=gN:=by have:=PW.be.size;omega
 have HN:=ae (ag hnS glo);have GV:=ae gV;clear hnS eN PW FW gV;refine cK 9 (by kernel_rfl) (fun W2 SK=>?_);have bV2:Below V.heap.size V W2:=by rw [SK];exact ar.drew
 have Jt:=ae (PV.below bV2);have Om:=ae (FV.trans (Fr.below (T:=T3) bV2));obtain ⟨-,-,-,-,q4,-⟩:=Jt.cO;have ZR:=(bV2.block gN (aI GV)).trans GV;have g0:=aq ZR 0;have cD:=keyOf_int_mk underlying22 (jt (i:=D.x+1) (by omega));obtain ⟨M,n,o,hn,m,hz⟩:=Jt.lI;have o':=cY o;rw [hz] at o';obtain ⟨U,bS,ho,ra⟩:=o'.update gp underlying111 (by have:=aa hl;show D.ss.length<_;unfold maxLen;omega) cD (iH gN);have O2:=One.J6 Jt.be ra Jt.lo.2.1 (ownsMap_at o');have PU:=ae (Jt.aO0 (s:=(D.x+1,D.t+10,[])) (gN:=gN) ⟨HN.2,_,ZR,AQ.nil _ _⟩ HN.1 pT O2 hl (fun M' o1=>by obtain ⟨U',sL,Jf,-⟩:=o1.update gp underlying111 (by have:=aa hl;show D.ss.length<_;unfold maxLen;omega) cD (iH gN);rw [bS] at sL;cases sL;exact Jf))
 have FU:=ae (Om.trans O2.fr);have bm:gN≠bs:=fun e=>by obtain ⟨es,c,hm⟩:=ownsMap_at o;rw [<-e,ZR] at hm;cases hm
 have GU:=ae (O2.obj ZR bm);clear SK bV2 ZR o o' m hz ho ra O2 PV FV bm;simp only [List.take_succ_cons,List.take_zero,List.drop_succ_cons,List.drop_zero]
 repeat still_step
 refine wpStill_nil ?_;go_wp2_with fail;clear bS g0 q4 Jt Om;refine cK 9 (by kernel_rfl) (fun W3 eW3=>?_);have bU:Below U.heap.size U W3:=by rw [eW3];exact ar.drew
 have P3:=ae (PU.below bU);have F3:=FU.trans (Fr.below (T:=T3) bU);have gW3:=(bU.block gN (aI GU)).trans GU;have g0:=aq gW3 0;have g1:=aq gW3 1;have R3:=AK.fr F3 (by decide);obtain ⟨r0,r1,r2,r3,r4,r5,r6,r7,rf⟩:=R3.cells;have F3':=ae ((Fr.below (T:=T3) bY).trans F3);have R3':=ae R3;clear eW3 bU gW3 R3 F3;simp only [List.take_succ_cons,List.take_zero,List.drop_succ_cons,List.drop_zero]
 repeat still_step
 refine wpStill_nil ?_;go_wp2;exact kn R3' (by kernel_rfl) rfl rfl ⟨gN,PS.rep P3 R3' (by omega) _ _ _ _ _ _ _ _,F3'.low ((aQ _ (w.heap.size+1) _ _ _ _ _ _ _ _).mono (by omega)),rfl⟩
theorem JV (l:List Int):(de l).length<=l.length+1:=by
 unfold de;split;{simp};{rw [List.length_take];omega}
theorem Pt (hl:P.length<=1048577):keyOf prog 9 (.string (aB P))=some (bj P):=by
 rw [WideMaps.keyOf_string_mk underlying9 (by rw [dI];unfold maxLen;omega),jT]
theorem PS.PK {SB NB HB UB:List Nat} (h:PS w0 w b bs bn D SB NB HB UB) {i g:Nat} (hi:D.ns[i]?=some nd) (hg:NB[i]?=some g) (hl:nd.path.length<=1048577):(Instr.lookup 112 (.map (some bn)) (.string (aB nd.path)) true).run prog w=.ok (.tuple #[.pointer (some ⟨g,0,none⟩),.bool true]) w:=by
 obtain ⟨M,n,o,-,m,-⟩:=h.ju;obtain ⟨v,ps,hr,hv⟩:=o.look_ok ke underlying112 (jQ w) (zd:=.nil) (zp:=[]) rfl (Pt hl);have hp:(bj nd.path,g)∈List.zipWith (fun (nd:aA) g=>(bj nd.path,g)) D.ns NB:=aL (i:=i) (by rw [List.getElem?_zipWith,hi,hg]);rw [m.at' _ hp] at hv;obtain rfl:=gJ hv;rw [hr,(m.hs _).2 ⟨_,hp,rfl⟩]
theorem PS.Gr {SB NB HB UB:List Nat} (h:PS w0 w b bs bn D SB NB HB UB) (kc:fe D.ns P=none) (hB:cT P) (qD:∀ nd∈D.ns,cT nd.path) (hl:P.length<=1048577):(Instr.lookup 112 (.map (some bn)) (.string (aB P)) true).run prog w=.ok (.tuple #[.pointer none,.bool false]) w:=by
 obtain ⟨M,n,o,-,m,-⟩:=h.ju;obtain ⟨v,ps,hr,hv⟩:=o.look_ok ke underlying112 (jQ w) (zd:=.nil) (zp:=[]) rfl (Pt hl);have hh:Maps.has M (bj P)=false:=by rw [Bool.eq_false_iff];intro e;obtain ⟨p,hp,e2⟩:=(m.hs _).1 e;obtain ⟨i,nd,y,hx,hy,rfl⟩:=gj hp;exact xL kc nd (aL hx) (jc (qD nd (aL hx)) hB e2)
 rw [Maps.atKey_of_not_has hh] at hv;obtain rfl:=nj hv;rw [hr,hh]
theorem IL (w:World) (b bs bn:Nat) (D:SD) (SB NB HB UB:List Nat) (h:Hid (PS w0 w b bs bn D SB NB HB UB)) (l:List Int) (hB:Hid (cT l)) (qD:Hid (∀ nd∈D.ns,cT nd.path)) (hl:l.length<=1048577) (B:Bool) (eB:Hid (dy D.ns l=B)) :
  Calls prog 120 #[.pointer (some ⟨b,0,none⟩),.string (aB l)] w fun r w'=>r=.returned (.bool B)/\Below w.heap.size w w':=by
 obtain ⟨-,-,-,-,-,vw,-⟩:=h.cO;have ib:((aB l).toList==(aB [47]).toList)=decide (l=[47]):=rD (aa hB) (by intro y hy;simp at hy;omega);rw [show (aB [47]).toList=[47] from dW [47]] at ib;by_cases j9:l=[47];{
 have eT:B=true:=by rw [<-aa eB,dy,if_pos j9]
 subst eT;have hr:((aB l).toList==[47])=true:=by rw [ib];simp [j9]
 obtain ⟨s,es⟩:=ax (aB l);rw [<-es] at hr ⊢;clear ib j9 es;go_enter func120,ntmps120;go_wp2;go_ret;exact ⟨rfl,Below.refl _ _⟩};{
 have hr:((aB l).toList==[47])=false:=by rw [ib];simp [j9]
 have iD:(match fe D.ns l with | some nd=>nd.owner==0 | none=>false)=B:=by rw [<-aa eB,dy,if_neg j9];rfl
 clear ib j9;cases hF:fe D.ns l with
 | none=>
  rw [hF] at iD;have eF:B=false:=iD.symm;subst eF;have bS:=h.Gr hF hB qD hl;obtain ⟨s,es⟩:=ax (aB l);rw [<-es] at hr bS ⊢;clear hF iD es;go_enter func120,ntmps120;go_wp2;go_ret;exact ⟨rfl,Below.refl _ _⟩
 | some nd=>
  rw [hF] at iD;replace iD:(nd.owner==0)=B:=iD;obtain ⟨rfl,i,hi⟩:=ll hF;obtain ⟨g1,h1,u1,q1,q2,q3,hN⟩:=h.nat hi;have bS:=h.PK hi q1 hl;obtain ⟨V,-,-,-,hcO,-⟩:=hN.cells;obtain ⟨ow,ZX⟩:=aZ nd.owner;rw [ZX] at hcO iD;obtain ⟨s,es⟩:=ax (aB nd.path);rw [<-es] at hr bS ⊢;clear hF hi q1 q2 q3 hN ZX es;go_enter func120,ntmps120;go_wp2;go_ret;exact ⟨by rw [<-iD];rfl,Below.refl _ _⟩}
def Ax (D:SD) (P:List Int):Int:=if (fe D.ns P).isSome then 6 else if dy D.ns (de P)=false then 7 else if 200<=D.ns.length then 11 else 0
theorem Iy (w:World) (b bs bn:Nat) (D:SD) (SB NB HB UB:List Nat) (h:Hid (PS w0 w b bs bn D SB NB HB UB)) (P:List Int) (hB:Hid (cT P)) (np:Nat) (enp:Hid (P.length=np)) (jy:np<=1048576) (qD:Hid (∀ nd∈D.ns,cT nd.path)) (id:Int) (F:Bool) (pv:Option Addr) (nv cv:Nat) (C:Int) (eC:Hid (Ax D P=C)) :
  Calls prog 250 #[.agg #[.int .u64 id,.string (aB P),.bool F,.slice pv nv cv],.pointer (some ⟨b,0,none⟩)] w fun r w'=>r=.returned (uh C)/\Below w.heap.size w w':=by
 obtain ⟨X,hX,bX,zX,CX,-⟩:=au w #[.int .u64 id,.string (aB P),.bool F,.slice pv nv cv] 188;have e:=aa eC;unfold Ax at e;go_enter func250,ntmps250;go_wp2_with fail;rw [<-hX];refine dV (by kernel_rfl) (fun W eW=>?_);have bW:Below w.heap.size w W:=by rw [eW];exact bX.drew
 have PW:=ae (h.below bW);obtain ⟨-,-,-,-,-,k5,-⟩:=PW.cO;have CW:=CX.bg (w':=W) (by rw [eW];rfl);have c1:=CW.1 1 _ rfl;have zW:w.heap.size<W.heap.size:=by rw [eW];show _<X.heap.size;omega
 have HCW:=ae CW;clear hX eW CX CW;cases hF:fe D.ns P with
 | some nd=>
  rw [hF] at e;obtain ⟨rfl,i,hi⟩:=ll hF;obtain ⟨g1,h1,u1,q1,-,-,hN⟩:=PW.nat hi;have bS:=PW.PK hi q1 (by rw [aa enp];omega);have e':C=6:=by rw [<-e];rfl
  subst e';clear e hF hi q1 hN
  repeat still_step
  refine wpStill_nil ?_;go_wp2;go_ret;exact ⟨rfl,bW⟩
 | none=>
  rw [hF] at e;have bS:=PW.Gr hF (aa hB) (aa qD) (by rw [aa enp];omega);have E:=ae e;clear e hF
  repeat still_step
  refine wpStill_nil ?_;go_wp2_with fail;refine (lT P np enp hB jy W).mono ?_;rintro r w2 ⟨rfl,rfl⟩;obtain ⟨B,eB⟩:∃ B,Hid (dy D.ns (de P)=B):=⟨_,ae rfl⟩;have Yz:(de P).length<=1048577:=by have:=JV P;have:=aa enp;omega
  go_wp2_with fail;refine (IL w2 b bs bn D SB NB HB UB PW (de P) (ae (ld hB)) qD Yz B eB).mono ?_;rintro r w5 ⟨rfl,dH⟩;have e:=aa E;rw [aa eB] at e;have pB:=ae (ai bW dH);have P5:=ae (PW.below dH);clear bS c1 k5 Yz dH;cases B with
  | false=>
   have e':C=7:=by rw [<-e];simp
   subst e';clear e;go_wp2;go_ret;exact ⟨rfl,pB⟩
  | true=>
   obtain ⟨-,-,-,-,-,k5,-⟩:=P5.cO;obtain ⟨M,n,o,hn,m,hz⟩:=P5.ju;have hlen:=o.len underlying112 3;rw [hz] at hlen;obtain ⟨nl,iw⟩:=aZ D.ns.length;rw [iw] at hlen e;clear o m hz iw;by_cases h2:200<=nl;{
 have h2':(200:Int)<=(nl:Int):=by omega
 have e':C=11:=by rw [<-e];simp [h2]
 subst e';clear e;go_wp2;go_ret;exact ⟨rfl,pB⟩};{
 have h2':¬ (200:Int)<=(nl:Int):=by omega
 have e':C=0:=by rw [<-e];simp [h2]
 subst e';clear e;go_wp2;go_ret;exact ⟨rfl,pB⟩}
def ft {α:Type} (j:Nat) (a:α) (l:List α):List α:=l.take j++a::l.drop j
theorem iJ {α:Type} {a:α} {l:List α} (hj:j<=l.length):(ft j a l).length=l.length+1:=by
 unfold ft;simp;omega
theorem lX {α:Type} (j:Nat) (a:α) (l:List α):(ft j a l).Perm (a::l):=by
 unfold ft;refine List.perm_middle.trans ?_;rw [List.take_append_drop]
theorem og {α:Type} {a:α} {l:List α} (hj:j<=l.length) (i:Nat):(ft j a l)[i]?=if i<j then l[i]? else if i=j then some a else l[i-1]?:=by
 unfold ft;by_cases h1:i<j;{rw [if_pos h1,List.getElem?_append_left (by rw [List.length_take];omega),List.getElem?_take,if_pos h1]};{rw [if_neg h1,List.getElem?_append_right (by rw [List.length_take];omega),List.length_take,Nat.min_eq_left hj];by_cases h2:i=j;{subst h2;simp};{rw [if_neg h2];obtain ⟨d,rfl⟩:∃ d,i=j+d+1:=⟨i-j-1,by omega⟩;rw [show j+d+1-j=d+1 by omega,List.getElem?_cons_succ,List.getElem?_drop];simp}}
theorem Gv (nd:aA):∀ l:List aA,∃ j,j<=l.length/\jM nd l=ft j nd l
 | []=>⟨0,by simp,by simp [jM,ft]⟩
 | x::r=>by rw [jM];split;{exact ⟨0,by simp,by simp [ft]⟩};{obtain ⟨j,hj,e⟩:=Gv nd r;refine ⟨j+1,by simp;omega,?_⟩;rw [e];simp [ft]}
theorem Hy {α β γ:Type} (f:α->β->γ) {a:α} {c:β} {l:List α} {m:List β} (hl:l.length=m.length) (hj:j<=l.length):List.zipWith f (ft j a l) (ft j c m)=ft j (f a c) (List.zipWith f l m):=by
 unfold ft;rw [List.zipWith_append (by simp [hl]),List.zipWith_cons_cons,List.take_zipWith,List.drop_zipWith]
theorem PS.ac4 {SB NB HB UB:List Nat} (h:PS w0 w b bs bn D SB NB HB UB) {hN uN:Nat} (hj:j<=D.ns.length) (hPN:PN w0 w gN hN uN nd) (hg:gN∉NB) (pT:∀ z∈bs::bn::(HB++UB),z≠hN/\z≠uN) (hNu:hN≠uN) (hid:∀ nd'∈D.ns,bj nd'.path≠bj nd.path) (O:One w0 w w' bn) (hl:D.ns.length<1048576)
  (hM:∀ M,w.ownsMap Tryz.prog 9 aT bn D.ns.length M->w'.ownsMap Tryz.prog 9 aT bn (D.ns.length+1) (M.put (bj nd.path) (.lit (.int .i64 gN)))):PS w0 w' b bs bn { D with ns:=ft j nd D.ns } SB (ft j gN NB) (ft j hN HB) (ft j uN UB):=by
 obtain ⟨d0,d1,d2,d3,d4,d5⟩:=h.hu;obtain ⟨M,n,o,hn,m,hz⟩:=h.ju;obtain ⟨es0,c0,m0⟩:=ownsMap_at o;have nc:∀ {y:Nat} {cs:Array Value} {ty:TypeId},w.heap[y]?=some (.cells cs ty)->y≠bn:=fun {y cs ty} hy e=>by rw [e,m0] at hy;cases hy
 have kc:∀ p∈List.zipWith (fun (nd:aA) g=>(bj nd.path,g)) D.ns NB,p.1≠bj nd.path:=fun p hp e=>by obtain ⟨i,s',y,h1,-,rfl⟩:=gj hp;exact hid s' (aL h1) e
 have o':=cY o;rw [hz] at o';refine ⟨h.be.trans O.b,O.obj h.hd (nc h.hd),h.lM,?_,fun i s1 g1 fO dS=>?_,h.snd,?_,?_,?_,⟨_,_,hM M o',by omega,?_,?_⟩,fun i mr gb h1 u1 fO dS qy sK=>?_,?_,h.lo,?_⟩;{obtain ⟨M,n,o,r⟩:=h.lI;exact ⟨M,n,O.map o d0,r⟩};{have q:=h.lQ i s1 g1 fO dS;obtain ⟨-,u,h1,-⟩:=id q;exact q.aN O (nc h1)};{rw [iJ (by rw [h.my];exact hj),iJ hj,h.my]};{rw [iJ (by rw [h.hlen];exact hj),iJ hj,h.hlen]};{rw [iJ (by rw [h.mV];exact hj),iJ hj,h.mV]};{rw [Hy _ h.my.symm hj];refine (m.put o.isMap (k:=bj nd.path) trivial kc gN).same fun p=>?_;rw [(lX _ _ _).mem_iff];simp [or_comm]};{
 have hh:Maps.has M (bj nd.path)=false:=by rw [Bool.eq_false_iff];intro e;obtain ⟨p,hp,e2⟩:=(m.hs _).1 e;exact kc p hp e2
 rw [size_put (jK o ke),hh,iJ hj];simp [hz]};{
 simp only [og hj] at fO;rw [og (by rw [h.my];exact hj)] at dS;rw [og (by rw [h.hlen];exact hj)] at qy;rw [og (by rw [h.mV];exact hj)] at sK;have kp:∀ {i':Nat},D.ns[i']?=some mr->NB[i']?=some gb->HB[i']?=some h1->UB[i']?=some u1->PN w0 w' gb h1 u1 mr:=fun a1 a2 a3 a4=>by have q:=h.jb _ mr gb h1 u1 a1 a2 a3 a4;obtain ⟨-,⟨V,q1,-⟩,p3,p4⟩:=id q;exact q.aN O (nc q1) (d1 _ (aL a3)).2 (d2 _ (aL a4)).2
 by_cases e1:i<j;{rw [if_pos e1] at fO dS qy sK;exact kp fO dS qy sK};{rw [if_neg e1] at fO dS qy sK;by_cases e2:i=j;{rw [if_pos e2] at fO dS qy sK;cases fO;cases dS;cases qy;cases sK;obtain ⟨-,⟨V,q1,-⟩,p3,p4⟩:=id hPN;exact hPN.aN O (nc q1) (fun e=>(pT bn (by simp)).1 e.symm) (fun e=>(pT bn (by simp)).2 e.symm)};{rw [if_neg e2] at fO dS qy sK;exact kp fO dS qy sK}}};{rw [(lX _ _ _).nodup_iff,List.nodup_cons];exact ⟨hg,h.Kc⟩};{
 have pm:(bs::bn::(ft j hN HB++ft j uN UB)).Perm (hN::uN::(bs::bn::(HB++UB))):=by
  have a1:(ft j hN HB++ft j uN UB).Perm (hN::uN::(HB++UB)):=
   ((lX j hN HB).append (lX j uN UB)).trans ((List.perm_middle (a:=uN) (l₁:=HB) (l₂:=UB)).cons hN)
  have a2:=(a1.cons bn).cons bs;have mv:∀ (x y:Nat) (l:List Nat),(x::bs::bn::y::l).Perm (x::y::bs::bn::l):=fun x y l=>(((List.Perm.swap y bn l).cons bs).trans (List.Perm.swap y bs (bn::l))).cons x;have a3:(bs::bn::hN::uN::(HB++UB)).Perm (hN::bs::bn::uN::(HB++UB)):=((List.Perm.swap hN bn (uN::(HB++UB))).cons bs).trans (List.Perm.swap hN bs _);exact (a2.trans a3).trans (mv hN uN _)
 rw [pm.nodup_iff,List.nodup_cons,List.nodup_cons];refine ⟨fun e=>?_,fun e=>(pT uN e).2 rfl,h.Aw⟩;rcases List.mem_cons.1 e with e | e;{exact hNu e};{exact (pT hN e).1 rfl}}
end Go.Proofs.YtmfjiolopcbcmaaGreatDoor
