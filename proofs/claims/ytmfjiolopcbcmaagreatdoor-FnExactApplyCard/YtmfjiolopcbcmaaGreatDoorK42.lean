import Derived.Test.YtmfjiolopcbcmaaGreatDoorK37
import Derived.Test.YtmfjiolopcbcmaaGreatDoorK40
import Derived.Test.YtmfjiolopcbcmaaGreatDoorASg
namespace Go.Proofs.YtmfjiolopcbcmaaGreatDoor
set_option maxHeartbeats 6400000
set_option linter.unusedVariables false
set_option linter.unusedSimpArgs false
set_option maxRecDepth 100000
open Go.ChangeShapes Go.WideShapes Go.ChangeAt Go.RowKit Go.Maps Go.Proofs.Tryz
variable {B b bn bs i j:Nat} {D:SD} {Ls:List (List Lf)} {v:Value} {w w' w0:World}
theorem Ov {l:List Int} (h:vp l=true):0<l.length/\l.getD 0 0=47:=by
 cases l with
 | nil=>simp [vp,st] at h
 | cons c t=>
  rw [vp,st,Bool.and_eq_true] at h;exact ⟨by simp,by simpa using h.1⟩
def tF (w:World) (x:List Int) (c:List Value) (l:List Lf):Prop:=∃ p cc,c=[.slice p x.length cc]/\Rd w (.slice p x.length cc) x/\qs (.slice p x.length cc) x l
theorem tF.aN (w w':World) (x:List Int) (c:List Value) (l:List Lf) (h:tF w x c l) (hk:∀ a∈l,w'.heap[a.b]?=w.heap[a.b]?):tF w' x c l:=by
 obtain ⟨p,cc,h1,h2,h3⟩:=h;exact ⟨p,cc,h1,h2.bE h3 hk,h3⟩
theorem qH {ops:Array Oper} {rest:List Oper} {o:Oper} {a:Act} {Q:Exit->Act->World->Prop} (kM:o.guard=none) (s x:Operand)
  (ho:o.op=.call { callee:=.builtin .append,args:=#[s,x],argTypes:=#[36,36] })
  (B M N:Nat) (v:Value) (ls:List (List Int)) (Ls:List (List Lf)) (l:List Int) (A:List Lf) (nl:Nat) (el:Hid (l.length=nl)) (k:Nat) (ek:Hid (ls.length=k)) (hs:a.eval s=v) (aS:dM tF 27 1 B w v ls Ls) (g:Nat) (p:Option Addr) (c:Nat) (hx:a.eval x=.slice (some ⟨g,0,none⟩) 1 1) (hP:PB w M N (.slice p nl c) l A) (gK:w.cell? ⟨g,0,none⟩=some (.slice p nl c))
  (hBM:B<=M) (hM:(∀ b,v.ownBlock=some b->b<M)/\∀ a∈Ls.flatten,a.b<M) (hk:k<4194304) (hB:B<=w.heap.size)
  (h:∀ p' c' w',dM tF 27 1 B w' (.slice p' (k+1) c') (ls++[l]) (Ls++[A])->w.grownBy w' v.ownBlock->wpList prog ops Q rest (a.put o.dst (.slice p' (k+1) c')) w'):wpList prog ops Q (o::rest) a w:=by
 obtain ⟨i,hi,jG,gi,gP⟩:=info_parts Tryz.infoSl;obtain ⟨cs,h1,h2,h3,h4,h5,h6,h7⟩:=aS;have h4':=h4;rw [aa ek] at h4';refine dO kM s x 36 ho B 27 i _ 1 24 underlying36 hi jG gi gP rfl (by decide) v _ _ hs h4' g 1 1 [.slice p nl c] hx rfl (fun j u hu=>by
  have e:j=0:=by have:=(aM.1 hu).1;simpa using this
  subst e;simp at hu;subst hu;exact gK) (fun u hu=>by simp at hu;rw [hu];rfl) (by unfold maxLen;omega) (by omega) hB ?_
 intro v' w' dN hg ku;have sn:dM tF 27 1 B w' v' (ls++[l]) (Ls++[A]):=dM.snoc h1 h2 h3 h5 h6 h7 tF.aN (c:=[.slice p nl c]) ⟨p,c,by rw [aa el],by rw [aa el];exact hP.rd,by rw [aa el];exact hP.lv⟩ rfl hP.ap hBM hM.2 hM.1 (by rw [aa ek];exact dN) hg ku;obtain ⟨p',c',rfl⟩:∃ p' c',v'=.slice p' (k+1) c':=by rcases dN.2 with ⟨e,h0⟩ | ⟨g',cap,cur,e,-⟩;{omega};{exact ⟨_,_,e⟩}
 exact h p' c' w' sn hg
theorem dM.fS {xs:List (List Int)} (h:dM tF 27 1 B w v xs Ls):yA w v xs/\rS w v xs Ls.flatten/\jJ B w Ls.flatten/\∀ b,v.ownBlock=some b->B<=b/\b<w.heap.size:=by
 have aU:=h.lt;obtain ⟨cs,h1,h2,h3,h4,h5,h6,h7⟩:=h;have key:∀ (i:Nat) (x:List Int) (l:List Lf),xs[i]?=some x->Ls[i]?=some l->∀ g cap,v=.slice (some ⟨g,0,none⟩) xs.length cap->∃ p c,w.cell? ⟨g,i,none⟩=some (.slice p x.length c)/\Rd w (.slice p x.length c) x/\qs (.slice p x.length c) x l:=fun i x l hx hl g cap ev=>by have hi:=(aM.1 hx).1;obtain ⟨c,hc⟩:∃ c,cs[i]?=some c:=⟨_,aH (by omega)⟩;obtain ⟨p,cc,e1,e2,e3⟩:=h5 i x c l hx hc hl;subst ev;refine ⟨p,cc,?_,e2,e3⟩;have:=h4.cellAt (i*1+0) (by omega);rw [rn h3 hc (by omega),e1] at this;simpa using this
 rcases id h4.2 with ⟨rfl,h0⟩ | ⟨g,cap,cur,rfl,hb,hg,-⟩;{have e0:xs=[]:=List.length_eq_zero_iff.1 h0;subst e0;have e1:Ls=[]:=List.length_eq_zero_iff.1 h2;subst e1;exact ⟨⟨none,0,rfl,.inl rfl⟩,⟨none,0,[],rfl,rfl,rfl,.inl rfl⟩,h6,aU.1⟩};{refine ⟨⟨_,cap,rfl,.inr ⟨g,0,rfl,fun i x hx=>?_⟩⟩,⟨_,cap,Ls,rfl,h2,rfl,.inr ⟨g,0,rfl,fun i x l hx hl=>?_⟩⟩,h6,aU.1⟩;{obtain ⟨l,hl⟩:∃ l,Ls[i]?=some l:=⟨_,aH (by have:=(aM.1 hx).1;omega)⟩;obtain ⟨p,c,q1,q2,-⟩:=key i x l hx hl g cap rfl;exact ⟨_,by rw [Nat.zero_add];exact q1,q2⟩};{obtain ⟨p,c,q1,-,q3⟩:=key i x l hx hl g cap rfl;exact ⟨p,c,by rw [Nat.zero_add,Nat.mul_one];exact q1,q3⟩}}
theorem dM.mono {α:Type} {el:World->α->List Value->List Lf->Prop} {ty:TypeId} {sz B B':Nat} {xs:List α} (h:dM el ty sz B w v xs Ls) (hB:B'<=B):dM el ty sz B' w v xs Ls:=by
 obtain ⟨cs,h1,h2,h3,h4,h5,h6,h7⟩:=h;refine ⟨cs,h1,h2,h3,⟨h4.1,?_⟩,h5,h6.mono hB,h7⟩;rcases h4.2 with hn | ⟨g,cap,cur,rfl,hb,rest⟩;{exact .inl hn};{exact .inr ⟨g,cap,cur,rfl,by omega,rest⟩}
def Ud (L:List (List Int)) (j:Nat):List (List Int):=(L.take j).map kG
def Rg (w0 w:World) (b bs bn:Nat) (D:SD) (SB NB HB UB:List Nat) (n:Nat) (L:List (List Int)) (r:Ending) (w':World):Prop:=∃ p c Ls,PS w0 w' b bs bn D SB NB HB UB/\Fr T3 w w'/\r=.returned (fM 0 0 0 0 0 (.slice none 0 0) (.slice p n c) (.slice none 0 0))/\dM tF 27 1 (w.heap.size+2) w' (.slice p n c) (L.map kG) Ls
theorem An (l:List Int) (k:Nat):(aB l).extract k (aB l).size=aB (l.drop k):=by
 apply ByteArray.ext;apply Array.toList_inj.1;rw [fD,List.map_drop,<-fD];simp [ByteArray.data_extract];rw [List.take_of_length_le (by have:(aB l).size=(aB l).data.size:=rfl;simp)]
theorem Pq (w:World) (b bs bn:Nat) (D:SD) (SB NB HB UB:List Nat) (h:Hid (PS w0 w b bs bn D SB NB HB UB)) (tv:Hid ((D.ns.map fun nd=>kI nd.path).Pairwise (·<·))) (Yy:Hid (PPB D.ns)) (P:List Int) (bP:Hid (cT P)) (L:List (List Int)) (eL:Hid (nF D.ns P=L)) (n:Nat) (en:Hid (L.length=n)) (hn:n<=1048576) :
  Calls prog 264 #[.agg #[.string (aB P)],.pointer (some ⟨b,0,none⟩)] w (Rg w0 w b bs bn D SB NB HB UB n L):=by
 obtain ⟨X,Y,hX,hY,bY,zX,zY,BX,RY⟩:=im w #[.string (aB P)] 203;have rN:=h.be.size;have c0:=aq BX 0;have AK:=ae RY;have eh:Hid (∀ x∈L,vp x=true/\cT x/\x.length<=1048576):=fun x hx=>by rw [<-aa eL] at hx;obtain ⟨nd,bf,rfl⟩:=List.mem_map.1 hx;exact Yy nd (List.mem_filter.1 bf).1
 go_enter func264,ntmps264;go_wp2_with fail;rw [<-hX,<-hY];refine (rC Y b bs bn D SB NB HB UB (ae (h.below bY)) tv (ae (fun nd bf=>⟨(aa Yy nd bf).2.1,(aa Yy nd bf).2.2⟩)) P bP L eL).mono ?_;rintro r w1 ⟨p,c,rfl,hT,aK⟩;rw [aa en] at hT ⊢;have HT:=ae hT;have B1:=ae aK;have z1:=aK.size;go_wp2
 go_loopw [5,14] (fun ov iv wr=>∃ (j:Nat) (Ls:List (List Lf)),j<=n/\iv=.int .i64 j/\Hid (dM tF 27 1 w1.heap.size wr ov (Ud L j) Ls)/\Hid (Below w1.heap.size w1 wr)) (fun _ iv _=>n-(intOf iv).toNat)
 case atStart=>exact ⟨0,[],Nat.zero_le _,rfl,dM.nil _ _ _ _ _,Below.refl _ _⟩
 case round =>(
 obtain ⟨j,Ls,hj,rfl,hO,aE⟩:=hrel;have zr:=aE.size;by_cases aU:j<n;{
 have aV:(j:Int)<(n:Int):=by omega
 obtain ⟨x,hx⟩:∃ x,L[j]?=some x:=⟨_,aH (by rw [aa en];exact aU)⟩;have hTr:=RT.MP HT aE;obtain ⟨p0,c9,e9,-,-,ue⟩:=RT.form hTr;simp only [Value.slice.injEq] at e9;obtain ⟨rfl,-,rfl⟩:=e9;obtain ⟨gk,rfl⟩:=ue (by rw [aa en];omega);obtain ⟨cc,-,Qb,GG,-⟩:=hTr.at hx;have Y6:wr.cell? ⟨gk,j,none⟩=some (.string (aB x)):=by have:=GG 0 _ (by rw [show cc=_ from Qb];rfl);simpa using this
 obtain ⟨v1,v2,v3⟩:=aa eh x (aL hx);obtain ⟨s,es⟩:∃ s,Hid (s=aB x):=⟨_,ae rfl⟩;obtain ⟨nx,enx⟩:=aZ x.length;rw [<-aa es] at Y6;have Yo:s.size=nx:=by rw [aa es,dI];exact enx
 rw [enx] at v3;have HX:=ae hx;have HV:=ae (ag v1 (ag v2 enx));go_wp2_with fail;refine (sJ x nx s es Yo (ae HV.2.1) (by omega) wr).mono ?_;rintro r w2 ⟨hr,rfl⟩;rcases hr with ⟨k,rfl,Jg,hl⟩ | ⟨rfl,-,kc⟩;{
 have g1:((k:Int)+1)<=(nx:Int):=by omega
 have e1:kG x=x.drop (k+1):=by rw [kG,HV.2.2,hl]
 obtain ⟨p',c',W,A,hcv,Sr,U6⟩:=GO w2 (l:=x.drop (k+1)) (fun y hy=>HV.2.1 y (List.mem_of_mem_drop hy)) (by rw [List.length_drop,HV.2.2];omega);obtain ⟨nq,Dj⟩:∃ nq,Hid ((x.drop (k+1)).length=nq):=⟨_,ae rfl⟩;have eS:aB (x.drop (k+1))=s.extract (k+1) nx:=by rw [<-Yo,aa es];exact (An x (k+1)).symm
 rw [eS,aa Dj] at hcv;rw [aa Dj] at Sr;obtain ⟨W2,gr,Q7,zW2,Tn,-⟩:=au W #[.slice p' nq c'] 27;have hl5:=hO.lt;have BW:=ae (ai U6 Q7);have OW:=hO.below tF.aN BW;have PW:=Sr.below Q7;have cW:=Tn.1 0 _ rfl;have zW:=U6.size;have ek:Hid ((Ud L j).length=j):=by show _=_;rw [Ud,List.length_map,List.length_take,aa en];omega
 have E1:=ae e1;have Wu:=ae hl5;rw [gr] at OW PW cW;go_wp2_with (at_builtin;refine qH rfl _ _ rfl w1.heap.size w2.heap.size W.heap.size _ _ Ls (x.drop (k+1)) A nq Dj j ek rfl OW W.heap.size p' c' rfl PW cW (by omega) ⟨fun b hb=>(Wu.1 b hb).2,fun a ha=>(Wu.2 a ha).2⟩ (by omega) (by simp;omega) ?_);intro p2 c2 w5 O5 oB;rw [<-gr] at oB;have B5:=ae ((ai aE BW).grown oB (by have:=BW.size;omega) (fun b' e=>(Wu.1 b' e).1));have e6:Ud L (j+1)=Ud L j++[x.drop (k+1)]:=by
  unfold Ud;rw [List.take_add_one,aa HX,List.map_append,<-aa E1]
  rfl
 rw [<-e6] at O5;have Xo:=ae O5;go_wp2;go_roundw
 case rel=>exact ⟨j+1,_,by omega,by go_num,Xo,B5⟩
 case measure=>simp [intOf];omega}
 {exfalso;obtain ⟨q1,q2⟩:=Ov HV.1;rw [HV.2.2] at q1;exact kc 0 q1 q2}};{
 have aV:¬ (j:Int)<(n:Int):=by omega
 have hO9:=aa hO;rw [Ud,List.take_of_length_le (by rw [aa en];omega)] at hO9;have z9:=B1.size;have BY9:=ai B1 aE;obtain ⟨pn,cn',rfl⟩:∃ pn cn',u5=.slice pn n cn':=by obtain ⟨cs,h1,h2,h3,h4,-⟩:=id hO9;rw [List.length_map,aa en] at h4;rcases h4.2 with ⟨e,h0⟩ | ⟨g',cap,cur,e,-⟩;{exact ⟨none,0,by rw [e,h0]⟩};{exact ⟨_,_,e⟩}
 have R9:=AK.below BY9;obtain ⟨r0,r1,r2,r3,r4,r5,r6,r7,rf⟩:=R9.cells;have HR9:=ae R9;have HO9:=ae hO9;have F9:=ae ((Fr.below (T:=T3) bY).trans (Fr.below BY9));have P9:=ae (h.below (ai bY BY9));go_wp2;have Jh:∀ (z:Nat),w1.heap.size<=z->(fE wr (w.heap.size+1) (.int .i64 0) (.int .u64 0) (.int .u64 0) (.int .u64 0) (.int .i64 0) (.slice none 0 0) (.slice pn n cn') (.slice none 0 0)).heap[z]?=wr.heap[z]?:=fun z hz=>gI (by omega);have hl9:=HO9.lt;exact kn HR9 (by kernel_rfl) rfl rfl ⟨pn,cn',Ls,PS.rep P9 HR9 (by omega) _ _ _ _ _ _ _ _,F9.low ((aQ _ (w.heap.size+1) _ _ _ _ _ _ _ _).mono (by omega)),rfl,(HO9.aN (fun x c l=>tF.aN _ _ x c l) (aQ _ _ _ _ _ _ _ _ _ _).size (fun b hb=>Jh b (hl9.1 b hb).1) (fun a ha=>Jh a.b (hl9.2 a ha).1)).mono (by omega)⟩})
theorem PS.blt {SB NB HB UB:List Nat} (h:PS w0 w b bs bn D SB NB HB UB):∀ z∈PL b bs bn SB NB HB UB,z<w.heap.size:=fun z hz=>by
 simp only [PL,List.mem_cons,List.mem_append] at hz;have key:∀ {l:List Nat} {i:Nat},l.length=D.ns.length->l[i]?=some z->∃ nd,D.ns[i]?=some nd:=fun hl hi=>⟨_,aH (by rw [<-hl];exact (aM.1 hi).1)⟩;rcases hz with rfl | rfl | rfl | hz | hz | hz | hz;{exact aI h.hd};{obtain ⟨M,n,o,-⟩:=h.lI;exact o.lt};{obtain ⟨M,n,o,-⟩:=h.ju;exact o.lt};{obtain ⟨i,hi⟩:=List.mem_iff_getElem?.1 hz;obtain ⟨s,hs⟩:∃ s,D.ss[i]?=some s:=⟨_,aH (by rw [<-h.lM];exact (aM.1 hi).1)⟩;obtain ⟨-,u,hc,-⟩:=h.lQ i s z hs hi;exact aI hc};{obtain ⟨i,hi⟩:=List.mem_iff_getElem?.1 hz;obtain ⟨nd,bf⟩:=key h.my hi;obtain ⟨g,hh,uu,h1,h2,h3,hN⟩:=h.nat bf;rw [hi] at h1;cases h1;obtain ⟨V,hb,-⟩:=hN.aF;exact aI hb};{obtain ⟨i,hi⟩:=List.mem_iff_getElem?.1 hz;obtain ⟨nd,bf⟩:=key h.hlen hi;obtain ⟨g,hh,uu,h1,h2,h3,hN⟩:=h.nat bf;rw [hi] at h2;cases h2;obtain ⟨es,c,hm⟩:=hN.GC.at;exact aI hm};{obtain ⟨i,hi⟩:=List.mem_iff_getElem?.1 hz;obtain ⟨nd,bf⟩:=key h.mV hi;obtain ⟨g,hh,uu,h1,h2,h3,hN⟩:=h.nat bf;rw [hi] at h3;cases h3;obtain ⟨es,c,hm⟩:=hN.G9.at;exact aI hm}
theorem One.ofI {z:Nat} (be:Below w0.heap.size w0 w) (hg:w.grownBy w' (some z)) (hz:w0.heap.size<=z) (hn:∀ cur ty m,w.heap[z]?≠some (.cells cur ty m)):One w0 w w' z:=
 ⟨(Below.refl w0.heap.size w).grown hg be.size (fun b e=>by cases e;exact hz),fun y hy bm=>hg.block y hy (fun e=>bm (by cases e;rfl)),fun cur ty m hc=>absurd hc (hn cur ty m)⟩
theorem Im {SB NB HB UB:List Nat} {k:Nat} {L:List Nat} (h:∀ z∈PL b bs bn SB NB HB UB,z∈L):∀ z∈PL b bs bn SB (NB.eraseIdx k) (HB.eraseIdx k) (UB.eraseIdx k),z∈L:=fun z hz=>h z (by
 simp only [PL,List.mem_cons,List.mem_append] at hz ⊢;rcases hz with h | h | h | h | h | h | h;{exact .inl h};{exact .inr (.inl h)};{exact .inr (.inr (.inl h))};{exact .inr (.inr (.inr (.inl h)))};{exact .inr (.inr (.inr (.inr (.inl (List.mem_of_mem_eraseIdx h)))))};{exact .inr (.inr (.inr (.inr (.inr (.inl (List.mem_of_mem_eraseIdx h))))))};{exact .inr (.inr (.inr (.inr (.inr (.inr (List.mem_of_mem_eraseIdx h))))))})
theorem xM {α β:Type} (f:α->β):∀ (l:List α) (k:Nat),(l.eraseIdx k).map f=(l.map f).eraseIdx k
 | [],k=>by simp
 | a::r,0=>by simp
 | a::r,k+1=>by simp [xM f r k]
theorem JT {ns:List aA} {PP:List (List Int)} {P:List Int} (h:(ns.map (·.path)).drop i=PP.drop j) (hP:PP[j]?=some P):∃ nd,ns[i]?=some nd/\nd.path=P:=by
 have h1:(PP.drop j)[0]?=some P:=by rw [List.getElem?_drop];simpa using hP
 rw [<-h,List.getElem?_drop,Nat.add_zero,List.getElem?_map] at h1;cases hn:ns[i]? with
 | none=>rw [hn] at h1;cases h1
 | some nd=>rw [hn] at h1;exact ⟨nd,rfl,by simpa using h1⟩
theorem uM {α:Type} {l PP:List α} (h:l.drop i=PP.drop j):l.drop (i+1)=PP.drop (j+1):=by
 have e1:l.drop (i+1)=(l.drop i).drop 1:=by rw [List.drop_drop]
 have e2:PP.drop (j+1)=(PP.drop j).drop 1:=by rw [List.drop_drop]
 rw [e1,e2,h]
structure CR (w0 Y w2 wr:World) (b bs bn:Nat) (SB:List Nat) (L:List Nat) (D:SD) (NB HB UB:List Nat):Prop where
 ps:PS w0 wr b bs bn D SB NB HB UB
 fr:Fr T3 Y wr
 kb:Kb L w2 wr
 sub:∀ z∈PL b bs bn SB NB HB UB,z∈L
 sz:w2.heap.size<=wr.heap.size
theorem Mq (w:World) (b bs bn:Nat) (D:SD) (SB NB HB UB:List Nat) (h:Hid (PS w0 w b bs bn D SB NB HB UB)) (hC:Hid (CI D.ss D.ns)) (tv:Hid ((D.ns.map fun nd=>kI nd.path).Pairwise (·<·))) (k:Nat) (s:aR) (hk:Hid (D.ss[k]?=some s)) (m:Nat) (em:Hid (D.ns.length=m)) (hm:m<=1048576) :
  Calls prog 241 #[.agg #[.int .u64 s.1],.pointer (some ⟨b,0,none⟩)] w fun r w'=>∃ Wi Wm Ga Wd,jC w0 w b bs bn (il D s.1) Wi Wm Ga Wd iQ r w':=by
 obtain ⟨X,Y,hX,hY,bY,zX,zY,BX,RY⟩:=im w #[.int .u64 s.1] 186;have hid:=hC.so.rg s (aL (aa hk));have cD:=keyOf_int_mk underlying22 (jt hid);have PY:=h.below bY;obtain ⟨-,-,-,-,-,h5,-⟩:=PY.cO;obtain ⟨M,n,oN,hn,mN,zN⟩:=PY.ju;have rN:=h.be.size;have U8:Hid (∀ nd∈D.ns,Maps.has M (bj nd.path)=true):=fun nd bf=>by obtain ⟨i,hi⟩:=List.mem_iff_getElem?.1 bf;obtain ⟨gz,_,_,PQ,_,_⟩:=PY.nat hi;exact (mN.hs _).2 ⟨(bj nd.path,gz),by rw [List.mem_iff_getElem?];exact ⟨i,by rw [List.getElem?_zipWith,hi,PQ]⟩,rfl⟩
 have HY:=ae (ag PY (ag BX RY));have HBY:=ae bY;have HZY:=ae zY;have MN:=ae mN;have bE4:w0.heap.size<=Y.heap.size:=by omega
 rw [hY,hX] at h5 oN;clear PY BX RY bY zX zY mN zN;go_enter func241,ntmps241;go_wp2_with (first
  | (at_range;refine wpList_range_own _ rfl _ 112 rfl 9 _ ke underlying112 _ bn n _ rfl oN ?_;intro w1 oA tA Gw)
  | go_in)
 go_frame
 rw [<-hX,<-hY] at oA tA ⊢;obtain ⟨r1,LU⟩:=ax Y.heap.size;rw [<-LU] at oA ⊢;have ER:=ae LU;have b1:Below Y.heap.size Y w1:=(Below.refl Y.heap.size Y).grown tA ay (fun j hj=>by cases hj);have P1:=ae (HY.1.below b1);have F1:=ae (Fr.below (T:=T3) b1);have Yt:w0.heap.size<=r1:=by omega
 clear LU hX hY h5 oN tA Gw b1
 go_loopw [6] (fun _ wr=>∃ (left:Lit->Bool) (gu:Nat),wr.ranges prog 9 aT bn r1 n M left gu/\Hid (PS w0 wr b bs bn { D with ns:=mW (Dp s.1) left D.ns } SB NB HB UB)/\Hid (Fr T3 Y wr)) (fun _ wr=>wr.rangeLeft bn r1)
 case atStart=>exact ⟨_,_,oA,by rw [Br (aa U8)];exact P1,F1⟩
 case round =>(
 obtain ⟨left,gu,mF,Zq,rR⟩:=hrel;go_wp2_with (first
  | (at_next;refine gC _ rfl _ rfl 9 ke (fun s:ByteArray=>.string s) Un bn r1 n _ _ MN _ _ rfl mF ?_ ?_)
  | go_in)
 {
 intro _ tY;have Aj:=aa Zq;rw [Hc tY] at Aj;have IV:=ae (hC.cw s.1);obtain ⟨D1,SO⟩:∃ D1:SD,D1={ D with ns:=D.ns.map (Dp s.1) }:=⟨_,rfl⟩;have Nz:D1.ns.length=m:=by rw [SO,List.length_map];exact aa em
 have hPP:D1.ns.map (·.path)=D.ns.map (·.path):=by rw [SO,List.map_map];rfl
 rw [<-SO] at Aj;obtain ⟨-,-,-,-,-,h5,-⟩:=Aj.cO;obtain ⟨M2,nn,oM,YA,mM,zM⟩:=Aj.ju;have Zt:=Aj.sto.lh;have E1:=ae SO;obtain ⟨Y2,VM⟩:=ax wr;subst VM;have P2:=ae Aj;have HL1:=ae Nz;have HPP:=ae hPP;have fO:D1.ss=D.ss:=by rw [SO]
 have FQ:=ae fO;have aB0:Hid ((D1.ns.map fun nd=>kI nd.path).Pairwise (·<·)):=by show List.Pairwise _ _;rw [SO,List.map_map];exact tv
 have kP:Hid (CI D1.ss D1.ns):=by rw [SO];exact IV
 clear tY Zq mF Aj Nz hPP SO IV fO;go_wp2_with fail;refine (T.gR bn nn M2 Y2 oM (by rw [zM,aa HL1];exact hm)).mono ?_;rintro r w2 ⟨kv,ks,rfl,DG,yW,aG⟩;obtain rfl:=pL Zt aB0 mM DG;obtain ⟨p,c,rfl,sO⟩:=yX yW;rw [aa HL1];have HK:=ae sO;obtain ⟨DF,eDF⟩:∃ DF,Hid (dm s.1 m 0 D1=DF):=⟨_,ae rfl⟩;have hzK:=P2.blt;have HZK:=ae hzK;have CR2:=ae (show CR w0 Y w2 w2 b bs bn SB (PL b bs bn SB NB HB UB) D1 NB HB UB from ⟨P2.below aG,rR.trans (Fr.below aG),fun z _ _=>rfl,fun z hz=>hz,Nat.le_refl _⟩);clear sO yW DG oM mM Zt zM aG h5 hzK;go_wp2
 go_loopw [31] (fun iv wr=>∃ (j i:Nat) (Dk:SD) (Tb Tj Ta:List Nat),j<=m/\iv=.int .i64 j/\Hid (dm s.1 (m-j) i Dk=DF)/\Hid ((Dk.ns.map (·.path)).drop i=(D1.ns.map (·.path)).drop j)/\Hid (CI Dk.ss Dk.ns)/\Hid (Dk.ss.map (·.1)=D1.ss.map (·.1))/\Hid (CR w0 Y w2 wr b bs bn SB (PL b bs bn SB NB HB UB) Dk Tb Tj Ta)) (fun iv _=>m-(intOf iv).toNat)
 case atStart=>exact ⟨0,0,D1,NB,HB,UB,Nat.zero_le _,rfl,eDF,(by show _=_;rfl),kP,(by show _=_;rfl),CR2⟩
 case round =>(
 obtain ⟨j,i,Dk,Tb,Tj,Ta,hj,rfl,hDF,Sq,sT,ZF,hR⟩:=hrel;obtain ⟨-,-,-,-,h4,h5,-⟩:=hR.ps.cO;have cB:wr.cell? ⟨w.heap.size,0,none⟩=some (.int .u64 s.1):=aq (hR.fr.2 _ _ _ _ (by decide) HY.2.1) 0;by_cases aU:j<m;{
 have aV:(j:Int)<(m:Int):=by omega
 obtain ⟨x,hx⟩:∃ x,D1.ns[j]?=some x:=⟨_,aH (by rw [aa HL1];exact aU)⟩;obtain ⟨gk,rfl,GG⟩:∃ gk,p=some ⟨gk,0,none⟩/\wr.cell? ⟨gk,j,none⟩=some (.string (aB x.path)):=by rcases aa HK with h0 | ⟨gk,rfl,h1,h2,h3⟩;{rw [h0] at hx;simp at hx};{refine ⟨gk,rfl,?_⟩;have h4:=h3 j x hx;rw [Nat.zero_add] at h4;exact (aj (hR.kb gk h2 (fun hm=>by have:=aa HZK gk hm;omega)) j).trans h4}
 obtain ⟨nd,hi,hpe⟩:=JT (aa Sq) (P:=x.path) (by rw [List.getElem?_map,hx];rfl);rw [<-hpe] at GG;obtain ⟨hT,Sb,UW⟩:=sT.nt nd (aL hi);obtain ⟨g,hh,uu,hg,je,jq,hN,hlk⟩:=hR.ps.Ch hi hT.pl;obtain ⟨B,eB⟩:∃ B,Hid (nd.holders.contains s.1=B):=⟨_,ae rfl⟩;have sF:=ae (ag hi (ag hg (ag je jq)));have HT:=ae (ag hT (ag Sb UW));have HN:=ae hN;have HCB:=ae (fun (v:World) (hv:Fr T3 wr v)=>aq (hv.2 _ _ _ _ (by decide) (hR.fr.2 _ _ _ _ (by decide) HY.2.1)) 0);clear hx hpe hi hT Sb UW hg je jq hN;go_wp2_with fail;clear GG hlk h5;refine (fh wr g hh uu nd HN s.1 hid B eB).mono ?_;rintro r w5 ⟨rfl,dH⟩;have B5:=ae dH;have cB5:=aa HCB w5 (Fr.below dH);obtain ⟨D2,VQ⟩:∃ D2,Hid (df Dk i s.1=D2):=⟨_,ae rfl⟩;clear dH cB
 go_upto_if 44 with fail
 go_cut [] (fun wd=>Hid (PS w0 wd b bs bn D2 SB Tb Tj Ta)/\Hid (Fr T3 wr wd)/\Hid (Kb (PL b bs bn SB Tb Tj Ta) wr wd))
 case first =>(
 cases B;{
 go_wp2_with fail;go_meet;have e2:D2=Dk:=by have:=vL sF.1 eB;exact VQ.symm.trans this
 rw [e2];exact ⟨ae (hR.ps.below B5),ae (Fr.below B5),ae (Kb.below B5)⟩};{go_wp2_with fail;refine (xF w5 b bs bn Dk SB Tb Tj Ta (ae (hR.ps.below B5)) i nd (ae sF.1) (ae sT.so) (ae HT.1) s.1 hid (ae HT.2.1) HT.2.2 eB).mono ?_;rintro r w6 ⟨P6,⟨F6,K6⟩,v6,rfl⟩;rw [aa VQ] at P6;have HP6:=ae P6;have HF6:=ae ((Fr.below B5).trans F6);have HK6:=ae ((Kb.below B5).trans K6 B5.size);clear P6 F6 K6;go_wp2_with fail;go_meet;exact ⟨HP6,HF6,HK6⟩})
 case rest =>(
 obtain ⟨P6,F6,K6⟩:=hcut;obtain ⟨q1,q2,q3,mr,q4,q5,q6⟩:=CI.drop sT sF.1 s.1;rw [aa VQ] at q1 q2 q3 q4;have N6:=P6.jb i mr g hh uu q4 sF.2.1 sF.2.2.1 sF.2.2.2;obtain ⟨V6,-,-,-,n1,-⟩:=N6.cells;have cB6:=aa HCB wc F6;have cF:=sX (m:=m-j+i) (k:=i) (by omega) VQ q4;have Vk:=aa hDF;rw [show m-j+i-i=m-j by omega] at cF;rw [cF] at Vk;have Kz:(D2.ns.map (·.path)).drop i=(D1.ns.map (·.path)).drop j:=by rw [q2];exact aa Sq
 have sz6:w2.heap.size<=wc.heap.size:=Nat.le_trans hR.sz F6.1;have kb6:=hR.kb.trans (K6.mono hR.sub) hR.sz;have fr6:=hR.fr.trans F6;have HQ:=ae (ag q1 (ag (q3.trans (aa ZF)) (ag q4 (ag Kz Vk))));have Rl:=ae (ag sz6 (ag kb6 fr6));have HQ6:=ae q6;clear N6 q1 q2 q3 q4 q6 cF Vk Kz sz6 kb6 fr6;go_wp2_with fail;refine dV (by kernel_rfl) (fun W eW=>?_);have bW:Below wc.heap.size wc W:=by rw [eW];exact ar.drew
 have n1':=af n1 bW;have cB7:=af cB6 bW;have BW:=ae bW;clear eW n1 cB6 bW cB5 h4
 repeat still_step
 refine wpStill_nil ?_;by_cases ho:mr.owner=s.1;{
 have Jf:(mr.owner==s.1)=true:=by simp [ho]
 have e7:=HQ.2.2.2.2;rw [if_pos ho,show m-j+i-1-i=m-(j+1) by omega] at e7;have E7:=ae e7;have T7:=CI.tell HQ.1 HQ.2.2.1 2;have HRM:=BM W b bs bn D2 SB Tb Tj Ta (ae (P6.below BW)) i mr (ae HQ.2.2.1) (ae HQ.1.so) (ae (HQ.1.nt mr (aL HQ.2.2.1)).1) (ae HQ.1.kd);rw [aa HQ6] at HRM;have aQ8:=ae HRM;have ua:i<D2.ns.length:=(aM.1 HQ.2.2.1).1;have hp7:Hid (((DQ (da D2 i 2) i).ns.map (·.path)).drop i=(D1.ns.map (·.path)).drop (j+1)):=by show List.drop i (List.map _ (List.eraseIdx _ _))=_;rw [xM,T7.2.1,Fp _ _ (by rw [List.length_map];exact ua)];exact uM HQ.2.2.2.1
 have C7:=ae (CI.rm T7.1 i);have I7:Hid ((DQ (da D2 i 2) i).ss.map (·.1)=D1.ss.map (·.1)):=T7.2.2.1.trans HQ.2.1;clear ho e7 T7 HRM ua;go_wp2_with fail;refine aQ8.mono ?_;rintro r w7 ⟨P7,⟨F7,K7⟩,v7,rfl⟩;have R7:=ae (show CR w0 Y w2 w7 b bs bn SB (PL b bs bn SB NB HB UB) (DQ (da D2 i 2) i) (Tb.eraseIdx i) (Tj.eraseIdx i) (Ta.eraseIdx i) from ⟨P7,(Rl.2.2.trans (Fr.below BW)).trans F7,(Rl.2.1.trans (Kb.below BW) Rl.1).trans (K7.mono hR.sub) (by have:=BW.size;have:=Rl.1;omega),Im hR.sub,by have:=BW.size;have:=Rl.1;have:=F7.1;omega⟩);clear P7 F7 K7 n1' cB7;go_wp2;go_roundw
 case rel=>exact ⟨j+1,i,_,_,_,_,by omega,by go_num,E7,hp7,C7,I7,R7⟩
 case measure=>simp [intOf];omega}
 {
 have Jf:(mr.owner==s.1)=false:=by simp [ho]
 have e7:=HQ.2.2.2.2;rw [if_neg ho,show m-j+i-(i+1)=m-(j+1) by omega] at e7;have E7:=ae e7;have hp7:=ae (uM HQ.2.2.2.1);have C7:=ae HQ.1;have I7:=ae HQ.2.1;have R7:=ae (show CR w0 Y w2 W b bs bn SB (PL b bs bn SB NB HB UB) D2 Tb Tj Ta from ⟨P6.below BW,Rl.2.2.trans (Fr.below BW),Rl.2.1.trans (Kb.below BW) Rl.1,hR.sub,by have:=BW.size;have:=Rl.1;omega⟩);clear ho e7;go_wp2;go_roundw
 case rel=>exact ⟨j+1,i+1,_,_,_,_,by omega,by go_num,E7,hp7,C7,I7,R7⟩
 case measure=>simp [intOf];omega})}
 {
 have aV:¬ (j:Int)<(m:Int):=by omega
 have e7:=aa hDF;rw [show m-j=0 by omega,dm] at e7;subst e7;have hFY:=hR.fr;have H8:(Dk.ss.map (·.1))[k]?=some s.1:=by rw [aa ZF,aa FQ,List.getElem?_map,aa hk];rfl
 obtain ⟨s2,zQ,es2⟩:∃ s2,Dk.ss[k]?=some s2/\s2.1=s.1:=by
  rw [List.getElem?_map] at H8;cases hq:Dk.ss[k]? with
  | none=>rw [hq] at H8;cases H8
  | some s2=>rw [hq] at H8;exact ⟨s2,rfl,by simpa using H8⟩
 have HK2:=ae (ag zQ es2);clear H8 zQ es2;go_wp2_with fail;refine cK 6 (by kernel_rfl) (fun W eW=>?_);have bW:Below wr.heap.size wr W:=by rw [eW];exact ar.drew
 have PW:=hR.ps.below bW;have FW:=hFY.trans (Fr.below (T:=T3) bW);have c0:W.cell? ⟨w.heap.size,0,none⟩=some (.int .u64 s.1):=aq (FW.2 _ _ _ _ (by decide) HY.2.1) 0;obtain ⟨-,-,-,-,k4,-⟩:=PW.cO;obtain ⟨M4,n4,o4,hn4,s4,z4⟩:=PW.lI;obtain ⟨Z,bS,ho,nG⟩:=o4.drop gp underlying111 cD 0;have OZ:=One.J6 PW.be nG.grown PW.lo.2.1 (ownsMap_at o4);have PZ:=PW.aM8 HK2.1 OZ (fun j' z' Jc e'=>by
  have Yx:=List.pairwise_iff_getElem.1 sT.so.pw;obtain ⟨l1,v1⟩:=aM.1 HK2.1;obtain ⟨l2,v2⟩:=aM.1 Jc;rcases Nat.lt_trichotomy k j' with hh | hh | hh;{have:=Yx k j' l1 l2 hh;rw [v1,v2] at this;omega};{exact hh.symm};{have:=Yx j' k l2 l1 hh;rw [v1,v2] at this;omega}) (fun M' n' o'=>by
  rw [HK2.2];obtain ⟨w2',Cx,iC,-⟩:=o'.drop gp underlying111 cD 0;rw [bS] at Cx;cases Cx;exact iC)
 have eCl:il D s.1={ Dk with ss:=Dk.ss.eraseIdx k }:=by have e9:=aa eDF;rw [aa E1,<-aa em] at e9;unfold il;rw [e9,<-Hn sT.so HK2.1,HK2.2]
 rw [<-eCl] at PZ;have HPZ:=ae PZ;have FZ0:=FW.trans OZ.fr;have FZ:=ae ((Fr.below (T:=T3) HBY).trans FZ0);have AJ:=HY.2.2.fr FZ0 (by decide);obtain ⟨r0,r1',r2,r3,r4,r5,r6,r7,rf⟩:=AJ.cells;have RZ:=ae AJ;clear eW PZ OZ ho nG o4 s4 z4 PW FW FZ0 AJ eCl h4 h5 hFY;simp only [List.take_succ_cons,List.take_zero,List.drop_succ_cons,List.drop_zero]
 repeat still_step
 refine wpStill_nil ?_;go_wp2;exact kn RZ (by kernel_rfl) rfl rfl ⟨_,_,_,_,PS.rep HPZ RZ (by omega) _ _ _ _ _ _ _ _,FZ.low ((aQ Z (w.heap.size+1) _ _ _ _ _ _ _ _).mono (by omega)),rfl⟩})}
 {
 intro i0 pl g1 w4 tG YO hp hlp tp aU dS Yp wE;obtain ⟨j,z,g1',hj,YV,ee⟩:=gj hp;simp only [Prod.mk.injEq] at ee;obtain ⟨rfl,rfl⟩:=ee;have tW:∀ cur ty m,wr.heap[r1]?≠some (.cells cur ty m):=fun cur ty m e=>by obtain ⟨es,clock,since,seen,c0,-,-,-,-,hi,-⟩:=mF;rw [hi] at e;cases e
 have Fb:∀ es c,wr.heap[r1]?≠some (.map es c):=fun es c e=>by obtain ⟨es,clock,since,seen,c0,-,-,-,-,hi,-⟩:=mF;rw [hi] at e;cases e
 have O4:=One.ofI Zq.be dS Yt tW;have P4:=Zq.iter O4 (fun cs ty=>tW cs ty _) Fb;have F4:=rR.trans O4.fr;have dE:=JC (f:=Dp s.1) hj hlp;obtain ⟨g9,hh,uu,z1,z2,z3,N4⟩:=P4.nat dE;rw [YV] at z1;cases z1;have K8:(Instr.entry (.pointer (some ⟨r1,0,none⟩))).run prog w4=.ok (.tuple #[.string i0,.pointer (some ⟨g1,0,none⟩)]) w4:=wE;have Og:=ae (ag P4 (ag F4 dE));have HRG:=ae (ag tp aU);have sF:=ae (ag hj (ag YV (ag z2 z3)));have HM:=ae (ag mF.left_eq tp.left_eq);clear tW Fb O4 P4 F4 dE N4 tp aU dS Yp hp YO Zq rR wE z2 z3 YV hj;go_wp2_with fail;refine cK 6 (by kernel_rfl) (fun W eW=>?_);have bW:Below w4.heap.size w4 W:=by rw [eW];exact ar.drew
 have PW:=Og.1.below bW;have NW:=PW.jb j z g1 hh uu Og.2.2 sF.2.1 sF.2.2.1 sF.2.2.2;obtain ⟨V,-,-,-,-,-,-,-,-,n6,-⟩:=NW.cells;have FW:=Og.2.1.trans (Fr.below (T:=T3) bW);have c0:W.cell? ⟨w.heap.size,0,none⟩=some (.int .u64 s.1):=aq (FW.2 _ _ _ _ (by decide) HY.2.1) 0;obtain ⟨M4,n4,o4,hn4,s4,z4⟩:=NW.G9;obtain ⟨Z,bS,ho,nG⟩:=o4.drop gp underlying109 cD 0;have OZ:=One.J6 PW.be nG.grown NW.lo.2.2 (ownsMap_at o4);have SZ:=SM.del (w:=W) s4 (hC.nt z (aL sF.1)).1.Rs hn4 ho;have PZ:=PW.G9 Og.2.2 sF.2.1 sF.2.2.1 sF.2.2.2 OZ SZ;have LP:=D8 (f:=Dp s.1) (left:=left) hC.kd sF.1;have PZ':Hid (PS w0 Z b bs bn { D with ns:=mW (Dp s.1) (fun z'=>left z'&&!z'.sameKey (bj z.path)) D.ns } SB NB HB UB):=by have:=PZ;simp only at this;rw [<-LP];exact this
 have FZ:=ae (FW.trans OZ.fr);have sr:Z.ranges prog 9 aT bn r1 n M (fun z'=>left z'&&!z'.sameKey (bj z.path)) tG:=by
  refine BO HRG.1 ?_ ?_;{obtain ⟨M9,n9,o9,-⟩:=PW.ju;refine (OZ.k bn o9.lt (fun e=>(PW.hu.2.2.1 _ (aL sF.2.2.2)).2 e.symm)).trans ?_;rw [eW];rfl};{
 have hi9:∃ o:Obj,W.heap[r1]?=some o/\∀ es c,o≠.map es c:=by obtain ⟨es,clock,since,seen,c0,-,-,-,-,hi,-⟩:=HRG.1;exact ⟨_,by rw [eW];exact hi,fun es c e=>by cases e⟩
 obtain ⟨o,ho9,bm⟩:=hi9;refine (OZ.k r1 (aI ho9) (fun e=>?_)).trans (by rw [eW];rfl);obtain ⟨es,c,hm4⟩:=ownsMap_at o4;rw [e,hm4] at ho9;exact bm es c (Option.some.inj ho9).symm}
 clear eW NW SZ PZ LP OZ ho nG o4 s4 z4 PW FW;simp only [List.take_succ_cons,List.take_zero,List.drop_succ_cons,List.drop_zero]
 repeat still_step
 refine wpStill_nil ?_;go_wp2;go_roundw
 case rel=>exact ⟨_,_,sr,PZ',FZ⟩
 case measure=>rw [sr.left_eq,mF.left_eq];exact HRG.2})
theorem QR.mono {B':Nat} {r:Ending} {R:RP} (h:QR B w w' r D R) (hB:B'<=B):QR B' w w' r D R:=by
 obtain ⟨p,c,q,d,Dv,Nv,Ev,Qs,e,hS,hN,tD,tN,tE,hF2,iD⟩:=h;exact ⟨p,c,q,d,Dv,Nv,Ev,Qs,e,hS.mono hB,RT.mono hN hB,tD,RT.mono tN hB,RT.mono tE hB,hF2,iD.mono hB⟩
def SD0:SD:=⟨0,0,0,0,[],[]⟩
def AP (e g x t:Int) (ss:List aR) (ns:List aA) (K S F E G:Int) (P V:List Int):SD × RP:=if ng e g x t ss ns=true then cG ⟨e,g,x,t,ss,ns⟩ K S F E G P V else (SD0,rO 1)
theorem Ei (e g x t:Int) (p:Option Addr) (n c:Nat) (q:Option Addr) (m d:Nat) (ss:List aR) (ns:List aA) (en:Hid (ss.length=n)) (em:Hid (ns.length=m)) (K S F E G:Int) (pp:Option Addr) (np cp:Nat) (pq:Option Addr) (nv cv:Nat) (P V:List Int) (eP:Hid (P.length=np)) (eV:Hid (V.length=nv)) (w:World) (h:Hid (nR w (.slice p n c) ss)) (hN:Hid (jB w (.slice q m d) ns)) (hP:Hid (Rd w (.slice pp np cp) P)) (hV:Hid (Rd w (.slice pq nv cv) V)) (hn:n<=1048576) (hm:m<=1048576) (hp:np<=1048576) (hv:nv<=1048576) (jg:np<=cp) (jf:cp<=maxLen)
  (sR:Hid (∀ s∈ss,s.2.2.length<=1048576/\∀ e∈s.2.2,cT e.2/\e.2.length<=1048576)) (du:Hid (∀ nd∈ns,cT nd.path/\nd.path.length<=1048576/\nd.value.length<=1048576/\nd.holders.length<=1048576/\nd.watchers.length<=1048576)) (hW:Hid (ng e g x t ss ns=true->WF ⟨e,g,x,t,ss,ns⟩)) (bP:Hid (cT P)) (R:SD × RP) (eR:Hid (AP e g x t ss ns K S F E G P V=R)) :
  Calls prog 6 #[cL e g x t (.slice p n c) (.slice q m d),oP K S (.slice pp np cp) F (.slice pq nv cv) E G] w fun r w'=>QR w.heap.size w w' r R.1 R.2:=by
 obtain ⟨W0,dT,b0,z0,C0⟩:=dz w (.int .u64 e) (.int .u64 g) (.int .u64 x) (.int .i64 t) (.slice p n c) (.slice q m d);obtain ⟨W1,fN,b1,z1,C1,-⟩:=au W0 #[.int .i64 K,.int .u64 S,.slice pp np cp,.int .i64 F,.slice pq nv cv,.int .u64 E,.int .u64 G] 43;obtain ⟨W2,gr,b2,z2,C2⟩:=dz W1 (.int .u64 0) (.int .u64 0) (.int .u64 0) (.int .i64 0) (.slice none 0 0) (.slice none 0 0);obtain ⟨W3,ya,b3,z3,C3⟩:=fo W2 (.int .i64 0) (.int .u64 0) (.int .u64 0) (.int .u64 0) (.int .i64 0) al al al;rw [z0] at C1 z1;rw [z1] at C2 z2;rw [z2] at C3 z3;have LQ:QB W3 w.heap.size _ _ _ _:=⟨((C0.below b1).below b2).below b3,(C1.below (by omega) b2).below (by omega) b3,C2.below b3,C3⟩;have bW:=ai (ai (ai b0 b1) b2) b3;have HA:=ae (fun (v:World) (hv:Below W3.heap.size W3 v)=>ag (QB.aN LQ (fun j h1 h2=>hv.block j (by omega))) (ag (h.below (ai bW hv)) (ag (hN.below (ai bW hv)) (ag (hP.below (ai bW hv)) (ag (hV.below (ai bW hv)) (ai bW hv))))));have BR:=ae (Below.refl W3.heap.size W3);have hR:=aa eR;unfold AP at hR;obtain ⟨ok,QD⟩:∃ ok,Hid (ng e g x t ss ns=ok):=⟨_,ae rfl⟩;rw [aa QD] at hR;have HR:=ae hR;go_enter func6,ntmps6;go_wp2_with fail;rw [<-dT,<-fN,<-gr,<-ya];refine (TG e g x t p q c n d m ss ns en em W3 (aa HA W3 BR).2.1 (aa HA W3 BR).2.2.1 hn hm sR du ok QD).mono ?_;rintro r w1 ⟨rfl,aK⟩;have B1:=ae aK;have I8:=aK.size;have e9:=aa HR;cases ok;{rw [if_neg (by simp)] at e9;have E9:=ae e9;go_wp2_with fail;refine (uV 1 w1).mono ?_;rintro r w2 ⟨rfl,aG⟩;obtain ⟨LW,-,-,-,-,bw⟩:=aa HA w2 (ai B1 aG);have jr:=ae (show TX w2 w.heap.size _ _ _ from ⟨LW.1,LW.2.2.1,LW.2.2.2⟩);have BW:=ae bw;obtain ⟨q0,q1,q2,q3,q4,q5,qf⟩:=jr.2.1.cells;obtain ⟨r0,r1,r2,r3,r4,r5,r6,r7,rf⟩:=jr.2.2.cells;go_wp2;obtain ⟨fF,bF⟩:=TX.fin jr (.int .u64 0) (.int .u64 0) (.int .u64 0) (.int .i64 0) al al (.int .i64 1) (.int .u64 0) (.int .u64 0) (.int .u64 0) (.int .i64 0) al al al;refine bodyPost_ret (v:=.tuple #[cL 0 0 0 0 al al,fM 1 0 0 0 0 al al al]) (by simp [results,results6,go_sem,q0,q1,q2,q3,q4,q5,r0,r1,r2,r3,r4,r5,r6,r7]) rfl ?_;rw [<-aa E9];exact ⟨none,0,none,0,al,al,al,[],rfl,fK.nil _ _,RT.nil _ _ _ _ _,TB.nil _,RT.nil _ _ _ _ _,RT.nil _ _ _ _ _,Fr.below (BW.trans bF),BW.trans bF⟩};{rw [if_pos rfl] at e9;have E9:=ae e9;go_wp2_with fail;have HCG:=ae (fun (vs:Array Value) (w:World)=>show (callFunc 23 vs).run prog w=.ok (.enter 23 vs) w by kernel_rfl);obtain ⟨vA,bt⟩:=ax w1.drew;have bG:Below W3.heap.size W3 vA:=ai (aa B1) (by rw [bt];exact ar.drew);have BA:=ae bG;have zA:=bG.size;have SA:=ae (fun (v:World) (hQ:QB v w.heap.size [.int .u64 e,.int .u64 g,.int .u64 x,.int .i64 t,.slice p n c,.slice q m d] [.int .i64 K,.int .u64 S,.slice pp np cp,.int .i64 F,.slice pq nv cv,.int .u64 E,.int .u64 G] [.int .u64 0,.int .u64 0,.int .u64 0,.int .i64 0,.slice none 0 0,.slice none 0 0] [.int .i64 0,.int .u64 0,.int .u64 0,.int .u64 0,.int .i64 0,al,al,al])=>ag hQ.1.Gh (ag (hQ.2.1.1 0 _ rfl) (ag (hQ.2.1.1 1 _ rfl) (ag (hQ.2.1.1 2 _ rfl) (ag (hQ.2.1.1 3 _ rfl) (ag (hQ.2.1.1 4 _ rfl) (ag (hQ.2.1.1 5 _ rfl) (hQ.2.1.1 6 _ rfl))))))));refine wp_region_noPanic ?_;refine wp_region_held_drew (S:=fun w'=>(w'.cell? ⟨w.heap.size,0,none⟩=some (.int .u64 e)/\w'.cell? ⟨w.heap.size,1,none⟩=some (.int .u64 g)/\w'.cell? ⟨w.heap.size,2,none⟩=some (.int .u64 x)/\w'.cell? ⟨w.heap.size,3,none⟩=some (.int .i64 t)/\w'.cell? ⟨w.heap.size,4,none⟩=some (.slice p n c)/\w'.cell? ⟨w.heap.size,5,none⟩=some (.slice q m d))/\w'.cell? ⟨w.heap.size+1,0,none⟩=some (.int .i64 K)/\w'.cell? ⟨w.heap.size+1,1,none⟩=some (.int .u64 S)/\w'.cell? ⟨w.heap.size+1,2,none⟩=some (.slice pp np cp)/\w'.cell? ⟨w.heap.size+1,3,none⟩=some (.int .i64 F)/\w'.cell? ⟨w.heap.size+1,4,none⟩=some (.slice pq nv cv)/\w'.cell? ⟨w.heap.size+1,5,none⟩=some (.int .u64 E)/\w'.cell? ⟨w.heap.size+1,6,none⟩=some (.int .u64 G)) (by kernel_rfl) (by rw [<-bt];exact aa SA vA (aa HA vA bG).1) (fun hS=>?_);rw [<-bt] at hS ⊢;refine fq 0 2 hS ?_;refine bR 1 fun KK hK=>?_;refine iG (QL e g x t p q c n d m ss ns en em vA (aa HA vA BA).2.1 (aa HA vA BA).2.2.1 hn hm (ae fun s hs=>⟨(aa sR s hs).1,fun ev he=>((aa sR s hs).2 ev he).2⟩) (ae fun nd bf=>(aa du nd bf).2)) ?_;rintro r v1 ⟨p1,c1,q1,d1,rfl,⟨Qs,Qm⟩,Li,aG⟩;refine ⟨_,rfl,?_⟩;have B2:=ae (ai BA aG);have Tr:=aG.size;have H1:=ae (ag Qm Li);refine bM hK (by exact SA v1 (aa HA v1 B2).1) fun hS=>?_;refine bR 3 fun KK hK=>?_;refine fT (by rfl) 23 _ _ _ (by rfl) (cL e g x t (.slice p1 n c1) (.slice q1 m d1)) (oP K S (.slice pp np cp) F (.slice pq nv cv) E G) (by rfl) (by rfl) (fun _=>aa HCG _ _) (FM e g x t p1 n c1 q1 m d1 ss Qs ns en em K S F E G pp np cp pq nv cv P V eP eV vA.heap.size v1 (ae H1.1) (ae H1.2) (ae (aa HA v1 B2).2.2.2.1) (ae (aa HA v1 B2).2.2.2.2.1) Tr hn hm hp hv jg jf (ae (aa hW QD)) bP R E9) ?_;rintro r v2 ⟨p',c',q',d',Dv,Nv,Ev,vT,rfl,CP,CU,tD,tN,tE,hF,iS⟩;refine ⟨_,rfl,?_⟩;have z3':=hF.1;have L2:=ae (QB.aN (w'':=v2) (aa HA v1 B2).1 (fun j h1 h2=>iS.block j (by omega)));have HQ:=ae (show QR vA.heap.size v1 v2 _ R.1 R.2 from ⟨p',c',q',d',Dv,Nv,Ev,vT,rfl,CP,CU,tD,tN,tE,hF,iS⟩);obtain ⟨dp,dc,rfl⟩:=tD.ed;obtain ⟨np9,nc9,rfl,-⟩:=RT.form tN;obtain ⟨yp,yc,rfl,-⟩:=RT.form tE;refine bM hK (by exact SA v2 L2) fun hS=>?_;refine fq 4 5 hS ?_;refine od 6 7 4 5 15 16 (by kernel_rfl) (by kernel_rfl) (by kernel_rfl) rfl rfl (w.heap.size+1+1) (w.heap.size+1+1+1) R.1.e R.1.g R.1.x R.1.t p' R.1.ss.length c' q' R.1.ns.length d' R.2.k R.2.i R.2.e R.2.g R.2.n dp R.2.iy.length dc np9 R.2.fS.length nc9 yp R.2.gy.length yc rfl rfl rfl rfl L2.2.2.1 L2.2.2.2 (by omega) (fun v hv _=>?_) ?_;{have h1:=L2.1.bg (hv.block _ (by omega));have h2:=L2.2.1.bg (hv.block _ (by omega));exact ⟨h1.Gh,h2.1 0 _ rfl,h2.1 1 _ rfl,h2.1 2 _ rfl,h2.1 3 _ rfl,h2.1 4 _ rfl,h2.1 5 _ rfl,h2.1 6 _ rfl⟩};intro w' aK gQ f1 fQ;refine bc ?_;have hw1:=(aa HA v1 B2).2.2.2.2.2;have HF:=ae (QR.low (QR.mono HQ (by omega:w.heap.size<=vA.heap.size)) (Fr.below hw1) hw1 f1 (fQ.mono (by omega)) ay);obtain ⟨q0,q1',q2,q3,q4,q5,qf⟩:=aK.cells;obtain ⟨r0,r1,r2,r3,r4,r5,r6,r7,rf⟩:=gQ.cells;go_wp2;refine bodyPost_ret (v:=.tuple #[cL R.1.e R.1.g R.1.x R.1.t (.slice p' R.1.ss.length c') (.slice q' R.1.ns.length d'),fM R.2.k R.2.i R.2.e R.2.g R.2.n (.slice dp R.2.iy.length dc) (.slice np9 R.2.fS.length nc9) (.slice yp R.2.gy.length yc)]) (by simp [results,results6,go_sem,q0,q1',q2,q3,q4,q5,r0,r1,r2,r3,r4,r5,r6,r7]) rfl ?_;exact HF}
end Go.Proofs.YtmfjiolopcbcmaaGreatDoor
