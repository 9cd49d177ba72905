import Derived.Test.YtcfcafeciggjeaaGreatDoorK33
import Derived.Test.YtcfcafeciggjeaaGreatDoorK23
namespace Go.Proofs.YtcfcafeciggjeaaGreatDoor
set_option maxHeartbeats 6400000
set_option linter.all false
set_option maxRecDepth 100000
open Go.ChangeShapes Go.WideShapes Go.ChangeAt Go.RowKit Go.Maps Go.Proofs.Tryz
variable {B b bn bs i j k:Nat} {D:SD} {Ls:List (List Lf)} {a:Act} {f:aD->aD} {left:Lit->Bool} {nd nd' s:aD} {ns:List aD} {o:Oper} {ops:Array Oper} {ss ss':List aY} {v:Value} {w w' w0:World}
theorem PO {l:List Int} (h:vp l=true):0<l.length/\l.getD 0 0=47:=by
 cases l with
 | nil=>simp [vp,st] at h
 | cons c t=>
  rw [vp,st,Bool.and_eq_true] at h;exact ⟨by simp,by simpa using h.1⟩
def vg (w:World) (x:List Int) (c:List Value) (l:List Lf):Prop:=∃ p cc,c=[.S p x.length cc]/\Rd w (.S p x.length cc) x/\JI (.S p x.length cc) x l
theorem vg.aU (w w':World) (x:List Int) (c:List Value) (l:List Lf) (h:vg w x c l) (hk:∀ a∈l,w'.heap[a.b]?=w.heap[a.b]?):vg w' x c l:=by
 obtain ⟨p,cc,h1,h2,h3⟩:=h;exact ⟨p,cc,h1,h2.cX h3 hk,h3⟩
theorem rz {rest:List Oper} {Q:Exit->Act->World->Prop} (jK:o.guard=none) (s x:Operand)
  (ho:o.op=.call { callee:=.builtin .append,args:=#[s,x],argTypes:=#[39,39] })
  (B M N:Nat) (v:Value) (ls:List (List Int)) (Ls:List (List Lf)) (l:List Int) (A:List Lf) (nl:Nat) (el:Hid (l.length=nl)) (k:Nat) (ek:Hid (ls.length=k)) (hs:a.eval s=v) (br:fu vg 22 1 B w v ls Ls) (g:Nat) (p:Option Addr) (c:Nat) (hx:a.eval x=.S (some ⟨g,0,none⟩) 1 1) (hP:PB w M N (.S p nl c) l A) (eh:w.cell? ⟨g,0,none⟩=some (.S p nl c))
  (hBM:B<=M) (hM:(∀ b,v.ownBlock=some b->b<M)/\∀ a∈Ls.flatten,a.b<M) (hk:k<4194304) (hB:B<=w.heap.size)
  (h:∀ p' c' w',fu vg 22 1 B w' (.S p' (k+1) c') (ls++[l]) (Ls++[A])->w.grownBy w' v.ownBlock->wpList prog ops Q rest (a.put o.dst (.S p' (k+1) c')) w'):wpList prog ops Q (o::rest) a w:=by
 obtain ⟨i,hi,mw,iT,jW⟩:=info_parts Tryz.infoSl;obtain ⟨cs,h1,h2,h3,h4,h5,h6,h7⟩:=br;have h4':=h4;rw [aa ek] at h4';refine eX jK s x 39 ho B 22 i _ 1 24 underlying39 hi mw iT jW rfl (by decide) v _ _ hs h4' g 1 1 [.S p nl c] hx rfl (fun j u hu=>by
  have e:j=0:=by have:=(aN.1 hu).1;simpa using this
  subst e;simp at hu;subst hu;exact eh) (fun u hu=>by simp at hu;rw [hu];rfl) (by unfold maxLen;omega) (by omega) hB ?_
 intro v' w' dW hg mr;have sn:fu vg 22 1 B w' v' (ls++[l]) (Ls++[A]):=fu.snoc h1 h2 h3 h5 h6 h7 vg.aU (c:=[.S p nl c]) ⟨p,c,by rw [aa el],by rw [aa el];exact hP.rd,by rw [aa el];exact hP.lv⟩ rfl hP.ap hBM hM.2 hM.1 (by rw [aa ek];exact dW) hg mr;obtain ⟨p',c',rfl⟩:∃ p' c',v'=.S p' (k+1) c':=by rcases dW.2 with ⟨e,h0⟩ | ⟨g',cap,cur,e,-⟩;{omega};{exact ⟨_,_,e⟩}
 exact h p' c' w' sn hg
theorem fu.pY {xs:List (List Int)} (h:fu vg 22 1 B w v xs Ls):YF w v xs/\XF w v xs Ls.flatten/\lx B w Ls.flatten/\∀ b,v.ownBlock=some b->B<=b/\b<w.heap.size:=by
 have bj:=h.lt;obtain ⟨cs,h1,h2,h3,h4,h5,h6,h7⟩:=h;have key:∀ (i:Nat) (x:List Int) (l:List Lf),xs[i]?=some x->Ls[i]?=some l->∀ g cap,v=.S (some ⟨g,0,none⟩) xs.length cap->∃ p c,w.cell? ⟨g,i,none⟩=some (.S p x.length c)/\Rd w (.S p x.length c) x/\JI (.S p x.length c) x l:=fun i x l hx hl g cap ev=>by have hi:=(aN.1 hx).1;obtain ⟨c,hc⟩:∃ c,cs[i]?=some c:=⟨_,aK (by omega)⟩;obtain ⟨p,cc,e1,e2,e3⟩:=h5 i x c l hx hc hl;subst ev;refine ⟨p,cc,?_,e2,e3⟩;have:=h4.cellAt (i*1+0) (by omega);rw [flat_get h3 hc (by omega),e1] at this;simpa using this
 rcases id h4.2 with ⟨rfl,h0⟩ | ⟨g,cap,cur,rfl,hb,hg,-⟩;{have e0:xs=[]:=List.length_eq_zero_iff.1 h0;subst e0;have e1:Ls=[]:=List.length_eq_zero_iff.1 h2;subst e1;exact ⟨⟨none,0,rfl,.inl rfl⟩,⟨none,0,[],rfl,rfl,rfl,.inl rfl⟩,h6,bj.1⟩};{refine ⟨⟨_,cap,rfl,.inr ⟨g,0,rfl,fun i x hx=>?_⟩⟩,⟨_,cap,Ls,rfl,h2,rfl,.inr ⟨g,0,rfl,fun i x l hx hl=>?_⟩⟩,h6,bj.1⟩;{obtain ⟨l,hl⟩:∃ l,Ls[i]?=some l:=⟨_,aK (by have:=(aN.1 hx).1;omega)⟩;obtain ⟨p,c,q1,q2,-⟩:=key i x l hx hl g cap rfl;exact ⟨_,by rw [Nat.zero_add];exact q1,q2⟩};{obtain ⟨p,c,q1,-,q3⟩:=key i x l hx hl g cap rfl;exact ⟨p,c,by rw [Nat.zero_add,Nat.mul_one];exact q1,q3⟩}}
theorem fu.mono {α:Type} {el:World->α->List Value->List Lf->Prop} {ty:TypeId} {sz B':Nat} {xs:List α} (h:fu el ty sz B w v xs Ls) (hB:B'<=B):fu el ty sz B' w v xs Ls:=by
 obtain ⟨cs,h1,h2,h3,h4,h5,h6,h7⟩:=h;refine ⟨cs,h1,h2,h3,⟨h4.1,?_⟩,h5,h6.mono hB,h7⟩;rcases h4.2 with hn | ⟨g,cap,cur,rfl,hb,rest⟩;{exact .inl hn};{exact .inr ⟨g,cap,cur,rfl,by omega,rest⟩}
def Vh (L:List (List Int)) (j:Nat):List (List Int):=(L.take j).map lG
def SG (w0 w:World) (b bs bn:Nat) (D:SD) (SB NB HB UB:List Nat) (n:Nat) (L:List (List Int)) (r:Ending) (w':World):Prop:=∃ p c Ls,PS w0 w' b bs bn D SB NB HB UB/\Fr T3 w w'/\r=.returned (gP 0 0 0 0 0 (.S none 0 0) (.S p n c) (.S none 0 0))/\fu vg 22 1 (w.heap.size+2) w' (.S p n c) (L.map lG) Ls
theorem Bt (l:List Int) (k:Nat):(aC l).extract k (aC l).size=aC (l.drop k):=by
 apply ByteArray.ext;apply Array.toList_inj.1;rw [fM,List.map_drop,<-fM];simp [ByteArray.data_extract];rw [List.take_of_length_le (by have:(aC l).size=(aC l).data.size:=rfl;simp)]
theorem QH (w:World) (b bs bn:Nat) (D:SD) (SB NB HB UB:List Nat) (h:Hid (PS w0 w b bs bn D SB NB HB UB)) (uV:Hid ((D.ns.map fun nd=>ko nd.path).Pairwise (·<·))) (hpb:Hid (PPB D.ns)) (P:List Int) (bP:Hid (bM P)) (L:List (List Int)) (eL:Hid (oC D.ns P=L)) (n:Nat) (en:Hid (L.length=n)) (hn:n<=1048576) :
  Calls prog 280 #[.agg #[.string (aC P)],.pointer (some ⟨b,0,none⟩)] w (SG w0 w b bs bn D SB NB HB UB n L):=by
 obtain ⟨X,Y,hX,hY,bY,zX,zY,BX,RY⟩:=iY w #[.string (aC P)] 217;have sU:=h.be.size;have c0:=ay BX 0;have BO:=ae RY;have fK:Hid (∀ x∈L,vp x=true/\bM x/\x.length<=1048576):=fun x hx=>by rw [<-aa eL] at hx;obtain ⟨nd,aV,rfl⟩:=List.mem_map.1 hx;exact hpb nd (List.mem_filter.1 aV).1
 go_enter func280,ntmps280;go_wp2_with fail;rw [<-hX,<-hY];refine (sK Y b bs bn D SB NB HB UB (ae (h.below bY)) uV (ae (fun nd aV=>⟨(aa hpb nd aV).2.1,(aa hpb nd aV).2.2⟩)) P bP L eL).mono ?_;rintro r w1 ⟨p,c,rfl,hT,bq⟩;rw [aa en] at hT ⊢;have HT:=ae hT;have B1:=ae bq;have z1:=bq.size;go_wp2
 go_loopw [5,14] (fun ov iv wr=>∃ (j:Nat) (Ls:List (List Lf)),j<=n/\iv=.I j/\Hid (fu vg 22 1 w1.heap.size wr ov (Vh L j) Ls)/\Hid (Bw w1 wr)) (fun _ iv _=>n-(intOf iv).toNat)
 case atStart=>exact ⟨0,[],Nat.zero_le _,rfl,fu.nil _ _ _ _ _,Below.refl _ _⟩
 case round =>(
 obtain ⟨j,Ls,hj,rfl,hO,aR⟩:=hrel;have zr:=aR.size;by_cases bj:j<n;{
 have bm:=aT j n;obtain ⟨x,hx⟩:∃ x,L[j]?=some x:=⟨_,aK (by rw [aa en];exact bj)⟩;have hTr:=RT.Og HT aR;obtain ⟨p0,c9,e9,-,-,fh⟩:=RT.form hTr;simp only [Value.slice.injEq] at e9;obtain ⟨rfl,-,rfl⟩:=e9;obtain ⟨gk,rfl⟩:=fh (by rw [aa en];omega);obtain ⟨cc,-,Ce,ME,-⟩:=hTr.at hx;have aO3:wr.cell? ⟨gk,j,none⟩=some (.string (aC x)):=by have:=ME 0 _ (by rw [show cc=_ from Ce];rfl);simpa using this
 obtain ⟨v1,v2,v3⟩:=aa fK x (aF hx);obtain ⟨s,es⟩:∃ s,Hid (s=aC x):=⟨_,ae rfl⟩;obtain ⟨nx,enx⟩:=aH x.length;rw [<-aa es] at aO3;have hss:s.size=nx:=by rw [aa es,di];exact enx
 rw [enx] at v3;have HX:=ae hx;have HV:=ae (ag v1 (ag v2 enx));go_wp2_with fail;refine (uq x nx s es hss (ae HV.2.1) (by omega) wr).mono ?_;rintro r w2 ⟨hr,rfl⟩;rcases hr with ⟨k,rfl,Ra,hl⟩ | ⟨rfl,-,jS⟩;{
 have g1:((k:Int)+1)<=(nx:Int):=by omega
 have e1:lG x=x.drop (k+1):=by rw [lG,HV.2.2,hl]
 obtain ⟨p',c',W,A,hcv,Ww,hbW⟩:=Hw w2 (l:=x.drop (k+1)) (fun y hy=>HV.2.1 y (List.mem_of_mem_drop hy)) (by rw [List.length_drop,HV.2.2];omega);obtain ⟨nq,yJ⟩:=aL (x.drop (k+1)).length;have eS:aC (x.drop (k+1))=s.extract (k+1) nx:=by rw [<-hss,aa es];exact (Bt x (k+1)).symm
 rw [eS,aa yJ] at hcv;rw [aa yJ] at Ww;obtain ⟨W2,iL,Uo,zW2,XT,-⟩:=aj W #[.S p' nq c'] 22;have Ya:=hO.lt;have BW:=ae (ah hbW Uo);have OW:=hO.below vg.aU BW;have PW:=Ww.below Uo;have cW:=XT.1 0 _ rfl;have zW:=hbW.size;have ek:Hid ((Vh L j).length=j):=by show _=_;rw [Vh,List.length_map,List.length_take,aa en];omega
 have E1:=ae e1;have XO:=ae Ya;rw [iL] at OW PW cW;go_wp2_with (at_builtin;refine rz rfl _ _ rfl w1.heap.size w2.heap.size W.heap.size _ _ Ls (x.drop (k+1)) A nq yJ j ek rfl OW W.heap.size p' c' rfl PW cW (by omega) ⟨fun b hb=>(XO.1 b hb).2,fun a ha=>(XO.2 a ha).2⟩ (by omega) (by simp;omega) ?_);intro p2 c2 w5 O5 qh;rw [<-iL] at qh;have B5:=ae ((ah aR BW).grown qh (by have:=BW.size;omega) (fun b' e=>(XO.1 b' e).1));have e6:Vh L (j+1)=Vh L j++[x.drop (k+1)]:=by
  unfold Vh;rw [List.take_add_one,aa HX,List.map_append,<-aa E1]
  rfl
 rw [<-e6] at O5;have YK:=ae O5;go_wp2;go_roundw
 case rel=>exact ⟨j+1,_,by omega,by go_num,YK,B5⟩
 case measure=>simp [intOf];omega}
 {exfalso;obtain ⟨q1,q2⟩:=PO HV.1;rw [HV.2.2] at q1;exact jS 0 q1 q2}};{
 have bm:=dy j n;have hO9:=aa hO;rw [Vh,List.take_of_length_le (by rw [aa en];omega)] at hO9;have z9:=B1.size;have BY9:=ah B1 aR;obtain ⟨pn,cn',rfl⟩:∃ pn cn',u5=.S pn n cn':=by obtain ⟨cs,h1,h2,h3,h4,-⟩:=id hO9;rw [List.length_map,aa en] at h4;rcases h4.2 with ⟨e,h0⟩ | ⟨g',cap,cur,e,-⟩;{exact ⟨none,0,by rw [e,h0]⟩};{exact ⟨_,_,e⟩}
 have R9:=BO.below BY9;obtain ⟨r0,r1,r2,r3,r4,r5,r6,r7,rf⟩:=R9.cells;have YI:=ae R9;have HO9:=ae hO9;have F9:=ae ((Fr.below (T:=T3) bY).trans (Fr.below BY9));have P9:=ae (h.below (ah bY BY9));go_wp2;have FL:∀ (z:Nat),w1.heap.size<=z->(fg wr (w.heap.size+1) (.I 0) (.U 0) (.U 0) (.U 0) (.I 0) (.S none 0 0) (.S pn n cn') (.S none 0 0)).heap[z]?=wr.heap[z]?:=fun z hz=>gu (by omega);have hl9:=HO9.lt;exact kT YI (by kernel_rfl) rfl rfl ⟨pn,cn',Ls,PS.rep P9 YI (by omega) _ _ _ _ _ _ _ _,F9.low ((aO _ (w.heap.size+1) _ _ _ _ _ _ _ _).mono (by omega)),rfl,(HO9.aU (fun x c l=>vg.aU _ _ x c l) (aO _ _ _ _ _ _ _ _ _ _).size (fun b hb=>FL b (hl9.1 b hb).1) (fun a ha=>FL a.b (hl9.2 a ha).1)).mono (by omega)⟩})
structure CI (ss:List aY) (ns:List aD):Prop where
 so:vN ss
 nt:∀ nd∈ns,NT ss nd/\nd.holders.Pairwise (·<·)/\nd.holders.length<=1048576
 kd:KD ns
theorem NT.ids (h:NT ss nd) (hi:ss'.map (·.1)=ss.map (·.1)):NT ss' nd:=
 ⟨h.Ia,h.pl,h.wpw,h.Cn,fun i O0=>by obtain ⟨j,s,hj,e⟩:=Hc hi (h.yO i O0);exact ⟨s,aF hj,e⟩⟩
theorem vN.tell (ev:Ev):∀ (ids:List Int) {ss:List aY},vN ss->vN (fN ss ids ev)
 | [],ss,h=>h
 | a::r,ss,h=>vN.tell ev r (h.RH a ev)
theorem KD.erase (h:KD ns) (k:Nat):KD (ns.eraseIdx k):=fun i j a c ha hc e=>by
 rw [List.getElem?_eraseIdx] at ha hc;by_cases hi:i<k<;>by_cases hj:j<k
 {rw [if_pos hi] at ha;rw [if_pos hj] at hc;exact h i j a c ha hc e};{rw [if_pos hi] at ha;rw [if_neg hj] at hc;have:=h i (j+1) a c ha hc e;omega};{rw [if_neg hi] at ha;rw [if_pos hj] at hc;have:=h (i+1) j a c ha hc e;omega};{rw [if_neg hi] at ha;rw [if_neg hj] at hc;have:=h (i+1) (j+1) a c ha hc e;omega}
theorem KD.paths {ns':List aD} (h:KD ns) (hp:ns'.map (·.path)=ns.map (·.path)):KD ns':=fun i j a c ha hc e=>by
 have key:∀ (i:Nat) (a:aD),ns'[i]?=some a->∃ a0,ns[i]?=some a0/\a0.path=a.path:=fun i a ha=>by
  have h1:(ns'.map (·.path))[i]?=some a.path:=by rw [List.getElem?_map,ha];rfl
  rw [hp,List.getElem?_map] at h1;cases hn:ns[i]? with
  | none=>rw [hn] at h1;cases h1
  | some a0=>rw [hn] at h1;exact ⟨a0,rfl,by simpa using h1⟩
 obtain ⟨a0,h1,e1⟩:=key i a ha;obtain ⟨c0,h2,e2⟩:=key j c hc;exact h i j a0 c0 h1 h2 (by rw [e1,e2,e])
theorem kk (hk:ns[k]?=some nd) (hp:nd'.path=nd.path):(ns.set k nd').map (·.path)=ns.map (·.path):=by
 rw [List.map_set,hp];exact gi (by rw [List.getElem?_map,hk];rfl)
theorem CI.cw (h:CI ss ns) (id:Int):CI ss (ns.map (vL id)):=by
 refine ⟨h.so,fun nd aV=>?_,h.kd.paths (by rw [List.map_map];rfl)⟩;obtain ⟨y,hy,rfl⟩:=List.mem_map.1 aV;obtain ⟨h1,h2,h3⟩:=h.nt y hy;exact ⟨⟨h1.Ia,h1.pl,ue h1.wpw,Nat.le_trans (nW _ _) h1.Cn,fun i hi=>h1.yO i (ly.1 hi).1⟩,h2,h3⟩
theorem CI.set (h:CI ss ns) (hk:ns[k]?=some nd) (hs:vN ss') (hi:ss'.map (·.1)=ss.map (·.1)) (hp:nd'.path=nd.path) (hw:nd'.watchers=nd.watchers\/nd'.watchers=[]) (hh:nd'.holders.Pairwise (·<·)/\nd'.holders.length<=1048576):CI ss' (ns.set k nd'):=by
 refine ⟨hs,fun x hx=>?_,h.kd.paths (kk hk hp)⟩;rcases List.mem_or_eq_of_mem_set hx with hx | rfl;{obtain ⟨h1,h2⟩:=h.nt x hx;exact ⟨h1.ids hi,h2⟩};{
 obtain ⟨h1,-⟩:=h.nt nd (aF hk);refine ⟨NT.ids ⟨by rw [hp];exact h1.Ia,by rw [hp];exact h1.pl,?_,?_,?_⟩ hi,hh⟩;{
 rcases hw with e | e<;>rw [e]
 {exact h1.wpw};{exact List.Pairwise.nil}};{
 rcases hw with e | e<;>rw [e]
 {exact h1.Cn};{simp}};{
 rcases hw with e | e<;>rw [e]
 {exact h1.yO};{intro i hi;cases hi}}}
theorem CI.tell (h:CI D.ss D.ns) (hk:D.ns[k]?=some nd) (kd:Int):CI (cO D k kd).ss (cO D k kd).ns/\(cO D k kd).ns.map (·.path)=D.ns.map (·.path)/\(cO D k kd).ss.map (·.1)=D.ss.map (·.1)/\(cO D k kd).ns[k]?=some { nd with watchers:=[] }:=by
 unfold cO;rw [hk];refine ⟨h.set hk (vN.tell _ _ h.so) (kh _ _ _) rfl (.inr rfl) (h.nt nd (aF hk)).2,kk hk rfl,kh _ _ _,aP hk _⟩
theorem CI.drop (h:CI D.ss D.ns) (hk:D.ns[k]?=some nd) (id:Int):CI (cT D k id).ss (cT D k id).ns/\(cT D k id).ns.map (·.path)=D.ns.map (·.path)/\(cT D k id).ss.map (·.1)=D.ss.map (·.1)/\∃ iR,(cT D k id).ns[k]?=some iR/\iR.owner=nd.owner/\iR.path=nd.path:=by
 unfold cT;rw [hk];obtain ⟨h1,h2,h3⟩:=h.nt nd (aF hk);by_cases hc:nd.holders.contains id=true;{
 simp only [hc,if_true];by_cases he:lQ nd.holders id=[];{
 simp only [he,if_true];have yC:=aP hk { nd with holders:=[],mode:=0,aB:=0,gen:=0 }
 obtain ⟨q1,q2,q3,q4⟩:=CI.tell (D:={ D with ns:=D.ns.set k { nd with holders:=[],mode:=0,aB:=0,gen:=0 } }) (h.set hk h.so rfl rfl (.inl rfl) ⟨List.Pairwise.nil,by simp⟩) yC 3;exact ⟨q1,q2.trans (kk hk rfl),q3,_,q4,rfl,rfl⟩};{
 simp only [he,if_false];refine ⟨h.set hk h.so rfl rfl (.inl rfl) ⟨ue h2,Nat.le_trans (nW _ _) h3⟩,kk hk rfl,?_,_,aP hk _,rfl,rfl⟩
 first | trivial | rfl}}
 {simp only [hc];exact ⟨h,rfl,rfl,nd,hk,rfl,rfl⟩}
theorem CI.rm (h:CI D.ss D.ns) (k:Nat):CI (AH D k).ss (AH D k).ns:=⟨h.so,fun nd aV=>h.nt nd (List.mem_of_mem_eraseIdx aV),h.kd.erase k⟩
theorem xG {α:Type} (l:List α) (k:Nat) (hk:k<l.length):(l.eraseIdx k).drop k=l.drop (k+1):=by
 rw [List.eraseIdx_eq_take_drop_succ,List.drop_append,List.drop_take];simp [show min k l.length=k by omega]
theorem II (h:vN ss) {s:aY} (hi:ss[i]?=some s):IJ s.1 ss=ss.eraseIdx i:=by
 have bL:∀ (j:Nat) (z:aY),ss[j]?=some z->z.1=s.1->j=i:=fun j z hj e=>by have hp:=List.pairwise_iff_getElem.1 h.pw;obtain ⟨l1,v1⟩:=aN.1 hi;obtain ⟨l2,v2⟩:=aN.1 hj;rcases Nat.lt_trichotomy i j with hh | hh | hh;{have:=hp i j l1 l2 hh;rw [v1,v2] at this;omega};{exact hh.symm};{have:=hp j i l2 l1 hh;rw [v1,v2] at this;omega}
 have key:∀ (l:List aY) (i:Nat),l[i]?=some s->(∀ (j:Nat) (z:aY),l[j]?=some z->z.1=s.1->j=i)->IJ s.1 l=l.eraseIdx i:=by
  intro l
  induction l with
  | nil=>intro i hi;simp at hi
  | cons y r ih=>
   intro i hi hu;cases i with
   | zero=>
    simp at hi;subst hi;rw [List.eraseIdx_cons_zero,IJ,List.filter_cons,if_neg (by simp),List.filter_eq_self.2];intro z hz;obtain ⟨j,hj⟩:=List.mem_iff_getElem?.1 hz;have:=hu (j+1) z (by simpa using hj);by_cases e:z.1=y.1;{have:=this e;omega};{simp [e]}
   | succ i=>
    have hy:¬ y.1=s.1:=fun e=>by have:=hu 0 y (by simp) e;omega
    rw [List.eraseIdx_cons_succ,IJ,List.filter_cons,if_pos (by simp [hy]),<-IJ,ih i (by simpa using hi) (fun j z hj e=>by have:=hu (j+1) z (by simpa using hj) e;omega)]
 exact key ss i hi bL
def og (f:aD->aD) (left:Lit->Bool) (ns:List aD):List aD:=ns.map fun s=>if left (bN s.path) then s else f s
theorem Cr (h:∀ s∈ns,left (bN s.path)=true):og f left ns=ns:=by
 unfold og;rw [List.map_congr_left (g:=id) (fun s hs=>by rw [if_pos (h s hs)];rfl),List.map_id]
theorem It (h:∀ k,left k=false):og f left ns=ns.map f:=by
 unfold og;exact List.map_congr_left fun s _=>by rw [if_neg (by rw [h];simp)]
theorem Ks {ss:List aD} (hs:ss[i]?=some s) (hl:left (bN s.path)=true):(og f left ss)[i]?=some s:=by
 unfold og;rw [List.getElem?_map,hs,Option.map_some,if_pos hl]
theorem EG (hd:KD ns) (hs:ns[i]?=some s):(og f left ns).set i (f s)=og f (fun z=>left z&&!z.sameKey (bN s.path)) ns:=by
 refine List.ext_getElem? fun j=>?_;unfold og;rw [List.getElem?_set,List.getElem?_map,List.getElem?_map,List.length_map];by_cases ej:i=j;{subst ej;have hkk:(bN s.path).sameKey (bN s.path)=true:=WideAt.sameKey_self (by unfold bN;trivial);rw [if_pos rfl,if_pos (aN.1 hs).1,hs];simp [hkk]};{
 rw [if_neg ej];cases hj:ns[j]? with
 | none=>rfl
 | some z=>
  have bL:bN z.path≠bN s.path:=fun e=>ej (hd i j s z hs hj e.symm);simp [sameKey_ne bL]}
theorem PS.iter {SB NB HB UB:List Nat} (h:PS w0 w b bs bn D SB NB HB UB) {z:Nat} (O:One w0 w w' z) (n1:∀ cs ty,w.heap[z]?≠some (.cells cs ty)) (n2:∀ es c,w.heap[z]?≠some (.map es c)):PS w0 w' b bs bn D SB NB HB UB:=by
 have nc:∀ {y:Nat} {cs:Array Value} {ty:TypeId},w.heap[y]?=some (.cells cs ty)->y≠z:=fun hy e=>n1 _ _ (e▸hy);have nm:∀ {y:Nat} {es:Array MapEntry} {c:Nat},w.heap[y]?=some (.map es c)->y≠z:=fun hy e=>n2 _ _ (e▸hy);refine ⟨h.be.trans O.b,O.obj h.hd (nc h.hd),h.mF,?_,fun j s1 g1 gx fO=>?_,h.snd,h.nE,h.hlen,h.oe,?_,fun j nd gb hh uu gx fO h1 h2=>?_,h.Lp,h.lo,h.BF⟩;{obtain ⟨M,n,o,r⟩:=h.my;obtain ⟨es,c,hm⟩:=ownsMap_at o;exact ⟨M,n,O.map o (nm hm),r⟩};{have q:=h.mH j s1 g1 gx fO;obtain ⟨-,u,h1,-⟩:=id q;exact q.aU O (nc h1)};{obtain ⟨M,n,o,r⟩:=h.jQ;obtain ⟨es,c,hm⟩:=ownsMap_at o;exact ⟨M,n,O.map o (nm hm),r⟩};{have q:=h.jC j nd gb hh uu gx fO h1 h2;obtain ⟨-,⟨V,q1,-⟩,q3,q4⟩:=id q;obtain ⟨es,c,m3⟩:=q3.at;obtain ⟨RN,c',m4⟩:=q4.at;exact q.aU O (nc q1) (nm m3) (nm m4)}
theorem PS.blt {SB NB HB UB:List Nat} (h:PS w0 w b bs bn D SB NB HB UB):∀ z∈PL b bs bn SB NB HB UB,z<w.heap.size:=fun z hz=>by
 simp only [PL,List.mem_cons,List.mem_append] at hz;have key:∀ {l:List Nat} {i:Nat},l.length=D.ns.length->l[i]?=some z->∃ nd,D.ns[i]?=some nd:=fun hl hi=>⟨_,aK (by rw [<-hl];exact (aN.1 hi).1)⟩;rcases hz with rfl | rfl | rfl | hz | hz | hz | hz;{exact aG h.hd};{obtain ⟨M,n,o,-⟩:=h.my;exact o.lt};{obtain ⟨M,n,o,-⟩:=h.jQ;exact o.lt};{obtain ⟨i,hi⟩:=List.mem_iff_getElem?.1 hz;obtain ⟨s,hs⟩:∃ s,D.ss[i]?=some s:=⟨_,aK (by rw [<-h.mF];exact (aN.1 hi).1)⟩;obtain ⟨-,u,hc,-⟩:=h.mH i s z hs hi;exact aG hc};{obtain ⟨i,hi⟩:=List.mem_iff_getElem?.1 hz;obtain ⟨nd,aV⟩:=key h.nE hi;obtain ⟨g,hh,uu,h1,h2,h3,hN⟩:=h.nat aV;rw [hi] at h1;cases h1;obtain ⟨V,hb,-⟩:=hN.aI;exact aG hb};{obtain ⟨i,hi⟩:=List.mem_iff_getElem?.1 hz;obtain ⟨nd,aV⟩:=key h.hlen hi;obtain ⟨g,hh,uu,h1,h2,h3,hN⟩:=h.nat aV;rw [hi] at h2;cases h2;obtain ⟨es,c,hm⟩:=hN.Hn.at;exact aG hm};{obtain ⟨i,hi⟩:=List.mem_iff_getElem?.1 hz;obtain ⟨nd,aV⟩:=key h.oe hi;obtain ⟨g,hh,uu,h1,h2,h3,hN⟩:=h.nat aV;rw [hi] at h3;cases h3;obtain ⟨es,c,hm⟩:=hN.Iq.at;exact aG hm}
theorem One.ofI {z:Nat} (be:Bw w0 w) (hg:w.grownBy w' (some z)) (hz:w0.heap.size<=z) (hn:∀ cur ty m,w.heap[z]?≠some (.cells cur ty m)):One w0 w w' z:=
 ⟨(Below.refl w0.heap.size w).grown hg be.size (fun b e=>by cases e;exact hz),fun y hy bL=>hg.block y hy (fun e=>bL (by cases e;rfl)),fun cur ty m hc=>absurd hc (hn cur ty m)⟩
theorem Ji {SB NB HB UB:List Nat} {L:List Nat} (h:∀ z∈PL b bs bn SB NB HB UB,z∈L):∀ z∈PL b bs bn SB (NB.eraseIdx k) (HB.eraseIdx k) (UB.eraseIdx k),z∈L:=fun z hz=>h z (by
 simp only [PL,List.mem_cons,List.mem_append] at hz ⊢;rcases hz with h | h | h | h | h | h | h;{exact .inl h};{exact .inr (.inl h)};{exact .inr (.inr (.inl h))};{exact .inr (.inr (.inr (.inl h)))};{exact .inr (.inr (.inr (.inr (.inl (List.mem_of_mem_eraseIdx h)))))};{exact .inr (.inr (.inr (.inr (.inr (.inl (List.mem_of_mem_eraseIdx h))))))};{exact .inr (.inr (.inr (.inr (.inr (.inr (List.mem_of_mem_eraseIdx h))))))})
theorem zF {α β:Type} (f:α->β):∀ (l:List α) (k:Nat),(l.eraseIdx k).map f=(l.map f).eraseIdx k
 | [],k=>by simp
 | a::r,0=>by simp
 | a::r,k+1=>by simp [zF f r k]
theorem Lc {PP:List (List Int)} {P:List Int} (h:(ns.map (·.path)).drop i=PP.drop j) (hP:PP[j]?=some P):∃ nd,ns[i]?=some nd/\nd.path=P:=by
 have h1:(PP.drop j)[0]?=some P:=by rw [List.getElem?_drop];simpa using hP
 rw [<-h,List.getElem?_drop,Nat.add_zero,List.getElem?_map] at h1;cases hn:ns[i]? with
 | none=>rw [hn] at h1;cases h1
 | some nd=>rw [hn] at h1;exact ⟨nd,rfl,by simpa using h1⟩
theorem wF {α:Type} {l PP:List α} (h:l.drop i=PP.drop j):l.drop (i+1)=PP.drop (j+1):=by
 have e1:l.drop (i+1)=(l.drop i).drop 1:=by rw [List.drop_drop]
 have e2:PP.drop (j+1)=(PP.drop j).drop 1:=by rw [List.drop_drop]
 rw [e1,e2,h]
structure CR (w0 Y w2 wr:World) (b bs bn:Nat) (SB:List Nat) (L:List Nat) (D:SD) (NB HB UB:List Nat):Prop where
 ps:PS w0 wr b bs bn D SB NB HB UB
 fr:Fr T3 Y wr
 kb:Kb L w2 wr
 sub:∀ z∈PL b bs bn SB NB HB UB,z∈L
 sz:w2.heap.size<=wr.heap.size
theorem NQ (w:World) (b bs bn:Nat) (D:SD) (SB NB HB UB:List Nat) (h:Hid (PS w0 w b bs bn D SB NB HB UB)) (hC:Hid (CI D.ss D.ns)) (uV:Hid ((D.ns.map fun nd=>ko nd.path).Pairwise (·<·))) (k:Nat) (s:aY) (hk:Hid (D.ss[k]?=some s)) (m:Nat) (em:Hid (D.ns.length=m)) (hm:m<=1048576) :
  Calls prog 257 #[.agg #[.U s.1],.pointer (some ⟨b,0,none⟩)] w fun r w'=>∃ Xz XD Gz Xt,jU w0 w b bs bn (gv D s.1) Xz XD Gz Xt rp0 r w':=by
 obtain ⟨X,Y,hX,hY,bY,zX,zY,BX,RY⟩:=iY w #[.U s.1] 200;have hid:=hC.so.rg s (aF (aa hk));have df:=keyOf_int_mk underlying23 (jO hid);have PY:=h.below bY;obtain ⟨-,-,-,-,-,h5,-⟩:=PY.dC;obtain ⟨M,n,oN,hn,mN,zN⟩:=PY.jQ;have sU:=h.be.size;have lK:Hid (∀ nd∈D.ns,Maps.has M (bN nd.path)=true):=fun nd aV=>by obtain ⟨i,hi⟩:=List.mem_iff_getElem?.1 aV;obtain ⟨gz,_,_,Rg,_,_⟩:=PY.nat hi;exact (mN.hs _).2 ⟨(bN nd.path,gz),by rw [List.mem_iff_getElem?];exact ⟨i,by rw [List.getElem?_zipWith,hi,Rg]⟩,rfl⟩
 have HY:=ae (ag PY (ag BX RY));have HBY:=ae bY;have HZY:=ae zY;have MN:=ae mN;have bV7:w0.heap.size<=Y.heap.size:=by omega
 rw [hY,hX] at h5 oN;clear PY BX RY bY zX zY mN zN;go_enter func257,ntmps257;go_wp2_with (first
  | (at_range;refine wpList_range_own _ rfl _ 130 rfl 9 _ kM underlying130 _ bn n _ rfl oN ?_;intro w1 pI uX Hj)
  | go_in)
 go_frame
 rw [<-hX,<-hY] at pI uX ⊢;obtain ⟨r1,Nl⟩:=ax Y.heap.size;rw [<-Nl] at pI ⊢;have ER:=ae Nl;have b1:Bw Y w1:=(Below.refl Y.heap.size Y).grown uX aA (fun j hj=>by cases hj);have P1:=ae (HY.1.below b1);have F1:=ae (Fr.below (T:=T3) b1);have aa3:w0.heap.size<=r1:=by omega
 clear Nl hX hY h5 oN uX Hj b1
 go_loopw [6] (fun _ wr=>∃ (left:Lit->Bool) (mV:Nat),wr.ranges prog 9 aZ bn r1 n M left mV/\Hid (PS w0 wr b bs bn { D with ns:=og (vL s.1) left D.ns } SB NB HB UB)/\Hid (Fr T3 Y wr)) (fun _ wr=>wr.rangeLeft bn r1)
 case atStart=>exact ⟨_,_,pI,by rw [Cr (aa lK)];exact P1,F1⟩
 case round =>(
 obtain ⟨left,mV,nM,hPr,sY⟩:=hrel;go_wp2_with (first
  | (at_next;refine ir _ rfl _ rfl 9 kM (fun s:ByteArray=>.string s) Vu bn r1 n _ _ MN _ _ rfl nM ?_ ?_)
  | go_in)
 {
 intro _ tJ;have zR:=aa hPr;rw [It tJ] at zR;have OE:=ae (hC.cw s.1);obtain ⟨D1,Ul⟩:∃ D1:SD,D1={ D with ns:=D.ns.map (vL s.1) }:=⟨_,rfl⟩;have Cd:D1.ns.length=m:=by rw [Ul,List.length_map];exact aa em
 have hPP:D1.ns.map (·.path)=D.ns.map (·.path):=by rw [Ul,List.map_map];rfl
 rw [<-Ul] at zR;obtain ⟨-,-,-,-,-,h5,-⟩:=zR.dC;obtain ⟨M2,nn,oM,Mg,mM,zM⟩:=zR.jQ;have hNM:=zR.sto.me;have E1:=ae Ul;obtain ⟨Y2,Nt⟩:=ax wr;subst Nt;have P2:=ae zR;have HL1:=ae Cd;have HPP:=ae hPP;have gx:D1.ss=D.ss:=by rw [Ul]
 have BQ:=ae gx;have aJ4:Hid ((D1.ns.map fun nd=>ko nd.path).Pairwise (·<·)):=by show List.Pairwise _ _;rw [Ul,List.map_map];exact uV
 have nS:Hid (CI D1.ss D1.ns):=by rw [Ul];exact OE
 clear tJ hPr nM zR Cd hPP Ul OE gx;go_wp2_with fail;refine (T.aa4 bn nn M2 Y2 oM (by rw [zM,aa HL1];exact hm)).mono ?_;rintro r w2 ⟨kv,ks,rfl,Ez,Ca,bk⟩;obtain rfl:=qH hNM aJ4 mM Ez;obtain ⟨p,c,rfl,xv⟩:=AJ Ca;rw [aa HL1];have HK:=ae xv;obtain ⟨DF,eDF⟩:=aL (cA s.1 m 0 D1);have hzK:=P2.blt;have HZK:=ae hzK;have CR2:=ae (show CR w0 Y w2 w2 b bs bn SB (PL b bs bn SB NB HB UB) D1 NB HB UB from ⟨P2.below bk,sY.trans (Fr.below bk),fun z _ _=>rfl,fun z hz=>hz,Nat.le_refl _⟩);clear xv Ca Ez oM mM hNM zM bk h5 hzK;go_wp2
 go_loopw [31] (fun iv wr=>∃ (j i:Nat) (Dk:SD) (Uw UE Us:List Nat),j<=m/\iv=.I j/\Hid (cA s.1 (m-j) i Dk=DF)/\Hid ((Dk.ns.map (·.path)).drop i=(D1.ns.map (·.path)).drop j)/\Hid (CI Dk.ss Dk.ns)/\Hid (Dk.ss.map (·.1)=D1.ss.map (·.1))/\Hid (CR w0 Y w2 wr b bs bn SB (PL b bs bn SB NB HB UB) Dk Uw UE Us)) (fun iv _=>m-(intOf iv).toNat)
 case atStart=>exact ⟨0,0,D1,NB,HB,UB,Nat.zero_le _,rfl,eDF,(by show _=_;rfl),nS,(by show _=_;rfl),CR2⟩
 case round =>(
 obtain ⟨j,i,Dk,Uw,UE,Us,hj,rfl,hDF,TI,uC,ag2,hR⟩:=hrel;obtain ⟨-,-,-,-,h4,h5,-⟩:=hR.ps.dC;have cB:wr.cell? ⟨w.heap.size,0,none⟩=some (.U s.1):=ay (hR.fr.2 _ _ _ _ (by decide) HY.2.1) 0;by_cases bj:j<m;{
 have bm:=aT j m;obtain ⟨x,hx⟩:∃ x,D1.ns[j]?=some x:=⟨_,aK (by rw [aa HL1];exact bj)⟩;obtain ⟨gk,rfl,ME⟩:∃ gk,p=some ⟨gk,0,none⟩/\wr.cell? ⟨gk,j,none⟩=some (.string (aC x.path)):=by rcases aa HK with h0 | ⟨gk,rfl,h1,h2,h3⟩;{rw [h0] at hx;simp at hx};{refine ⟨gk,rfl,?_⟩;have h4:=h3 j x hx;rw [Nat.zero_add] at h4;exact (ai (hR.kb gk h2 (fun hm=>by have:=aa HZK gk hm;omega)) j).trans h4}
 obtain ⟨nd,hi,hpe⟩:=Lc (aa TI) (P:=x.path) (by rw [List.getElem?_map,hx];rfl);rw [<-hpe] at ME;obtain ⟨hT,Ts,hhl⟩:=uC.nt nd (aF hi);obtain ⟨g,hh,uu,hg,jT,jX,hN,hlk⟩:=hR.ps.Dg hi hT.pl;obtain ⟨B,eB⟩:=aL (nd.holders.contains s.1);have ta:=ae (ag hi (ag hg (ag jT jX)));have HT:=ae (ag hT (ag Ts hhl));have HN:=ae hN;have HCB:=ae (fun (v:World) (hv:Fr T3 wr v)=>ay (hv.2 _ _ _ _ (by decide) (hR.fr.2 _ _ _ _ (by decide) HY.2.1)) 0);clear hx hpe hi hT Ts hhl hg jT jX hN;go_wp2_with fail;clear ME hlk h5;refine (fV wr g hh uu nd HN s.1 hid B eB).mono ?_;rintro r w5 ⟨rfl,ew⟩;have B5:=ae ew;have cB5:=aa HCB w5 (Fr.below ew);obtain ⟨D2,Xe⟩:=aL (cT Dk i s.1);clear ew cB
 go_upto_if 44 with fail
 go_cut [] (fun wd=>Hid (PS w0 wd b bs bn D2 SB Uw UE Us)/\Hid (Fr T3 wr wd)/\Hid (Kb (PL b bs bn SB Uw UE Us) wr wd))
 case first =>(
 cases B;{
 go_wp2_with fail;go_meet;have e2:D2=Dk:=by have:=xI ta.1 eB;exact Xe.symm.trans this
 rw [e2];exact ⟨ae (hR.ps.below B5),ae (Fr.below B5),ae (Kb.below B5)⟩};{go_wp2_with fail;refine (y9 w5 b bs bn Dk SB Uw UE Us (ae (hR.ps.below B5)) i nd (ae ta.1) (ae uC.so) (ae HT.1) s.1 hid (ae HT.2.1) HT.2.2 eB).mono ?_;rintro r w6 ⟨P6,⟨F6,K6⟩,v6,rfl⟩;rw [aa Xe] at P6;have HP6:=ae P6;have HF6:=ae ((Fr.below B5).trans F6);have HK6:=ae ((Kb.below B5).trans K6 B5.size);clear P6 F6 K6;go_wp2_with fail;go_meet;exact ⟨HP6,HF6,HK6⟩})
 case rest =>(
 obtain ⟨P6,F6,K6⟩:=hcut;obtain ⟨q1,q2,q3,iR,q4,q5,q6⟩:=CI.drop uC ta.1 s.1;rw [aa Xe] at q1 q2 q3 q4;have N6:=P6.jC i iR g hh uu q4 ta.2.1 ta.2.2.1 ta.2.2.2;obtain ⟨V6,-,-,-,n1,-⟩:=N6.cells;have cB6:=aa HCB wc F6;have dz:=uG (m:=m-j+i) (k:=i) (by omega) Xe q4;have WB:=aa hDF;rw [show m-j+i-i=m-j by omega] at dz;rw [dz] at WB;have Mc:(D2.ns.map (·.path)).drop i=(D1.ns.map (·.path)).drop j:=by rw [q2];exact aa TI
 have sz6:w2.heap.size<=wc.heap.size:=Nat.le_trans hR.sz F6.1;have kb6:=hR.kb.trans (K6.mono hR.sub) hR.sz;have fr6:=hR.fr.trans F6;have HQ:=ae (ag q1 (ag (q3.trans (aa ag2)) (ag q4 (ag Mc WB))));have SO:=ae (ag sz6 (ag kb6 fr6));have YJ:=ae q6;clear N6 q1 q2 q3 q4 q6 dz WB Mc sz6 kb6 fr6;go_wp2_with fail;refine fx (by kernel_rfl) (fun W eW=>?_);have bW:=dG eW;have n1':=af n1 bW;have cB7:=af cB6 bW;have BW:=ae bW;clear eW n1 cB6 bW cB5 h4
 repeat still_step
 refine wpStill_nil ?_;by_cases ho:iR.owner=s.1;{
 have JZ:(iR.owner==s.1)=true:=by simp [ho]
 have e7:=HQ.2.2.2.2;rw [if_pos ho,show m-j+i-1-i=m-(j+1) by omega] at e7;have E7:=ae e7;have T7:=CI.tell HQ.1 HQ.2.2.1 2;have HRM:=CF W b bs bn D2 SB Uw UE Us (ae (P6.below BW)) i iR (ae HQ.2.2.1) (ae HQ.1.so) (ae (HQ.1.nt iR (aF HQ.2.2.1)).1) (ae HQ.1.kd);rw [aa YJ] at HRM;have ba6:=ae HRM;have Bg:i<D2.ns.length:=(aN.1 HQ.2.2.1).1;have hp7:Hid (((AH (cO D2 i 2) i).ns.map (·.path)).drop i=(D1.ns.map (·.path)).drop (j+1)):=by show List.drop i (List.map _ (List.eraseIdx _ _))=_;rw [zF,T7.2.1,xG _ _ (by rw [List.length_map];exact Bg)];exact wF HQ.2.2.2.1
 have C7:=ae (CI.rm T7.1 i);have I7:Hid ((AH (cO D2 i 2) i).ss.map (·.1)=D1.ss.map (·.1)):=T7.2.2.1.trans HQ.2.1;clear ho e7 T7 HRM Bg;go_wp2_with fail;refine ba6.mono ?_;rintro r w7 ⟨P7,⟨F7,K7⟩,v7,rfl⟩;have R7:=ae (show CR w0 Y w2 w7 b bs bn SB (PL b bs bn SB NB HB UB) (AH (cO D2 i 2) i) (Uw.eraseIdx i) (UE.eraseIdx i) (Us.eraseIdx i) from ⟨P7,(SO.2.2.trans (Fr.below BW)).trans F7,(SO.2.1.trans (Kb.below BW) SO.1).trans (K7.mono hR.sub) (by have:=BW.size;have:=SO.1;omega),Ji hR.sub,by have:=BW.size;have:=SO.1;have:=F7.1;omega⟩);clear P7 F7 K7 n1' cB7;go_wp2;go_roundw
 case rel=>exact ⟨j+1,i,_,_,_,_,by omega,by go_num,E7,hp7,C7,I7,R7⟩
 case measure=>simp [intOf];omega}
 {
 have JZ:(iR.owner==s.1)=false:=by simp [ho]
 have e7:=HQ.2.2.2.2;rw [if_neg ho,show m-j+i-(i+1)=m-(j+1) by omega] at e7;have E7:=ae e7;have hp7:=ae (wF HQ.2.2.2.1);have C7:=ae HQ.1;have I7:=ae HQ.2.1;have R7:=ae (show CR w0 Y w2 W b bs bn SB (PL b bs bn SB NB HB UB) D2 Uw UE Us from ⟨P6.below BW,SO.2.2.trans (Fr.below BW),SO.2.1.trans (Kb.below BW) SO.1,hR.sub,by have:=BW.size;have:=SO.1;omega⟩);clear ho e7;go_wp2;go_roundw
 case rel=>exact ⟨j+1,i+1,_,_,_,_,by omega,by go_num,E7,hp7,C7,I7,R7⟩
 case measure=>simp [intOf];omega})}
 {
 have bm:=dy j m;have e7:=aa hDF;rw [show m-j=0 by omega,cA] at e7;subst e7;have hFY:=hR.fr;have I8:(Dk.ss.map (·.1))[k]?=some s.1:=by rw [aa ag2,aa BQ,List.getElem?_map,aa hk];rfl
 obtain ⟨s2,yC,es2⟩:∃ s2,Dk.ss[k]?=some s2/\s2.1=s.1:=by
  rw [List.getElem?_map] at I8;cases hq:Dk.ss[k]? with
  | none=>rw [hq] at I8;cases I8
  | some s2=>rw [hq] at I8;exact ⟨s2,rfl,by simpa using I8⟩
 have HK2:=ae (ag yC es2);clear I8 yC es2;go_wp2_with fail;refine de 6 (by kernel_rfl) (fun W eW=>?_);have bW:=dG eW;have PW:=hR.ps.below bW;have FW:=hFY.trans (Fr.below (T:=T3) bW);have c0:W.cell? ⟨w.heap.size,0,none⟩=some (.U s.1):=ay (FW.2 _ _ _ _ (by decide) HY.2.1) 0;obtain ⟨-,-,-,-,k4,-⟩:=PW.dC;obtain ⟨M4,n4,o4,hn4,s4,z4⟩:=PW.my;obtain ⟨Z,cK,ho,r8⟩:=o4.drop gR underlying129 df 0;have OZ:=One.Lk PW.be r8.grown PW.lo.2.1 (ownsMap_at o4);have PZ:=PW.aV8 HK2.1 OZ (fun j' z' JU e'=>by
  have aa7:=List.pairwise_iff_getElem.1 uC.so.pw;obtain ⟨l1,v1⟩:=aN.1 HK2.1;obtain ⟨l2,v2⟩:=aN.1 JU;rcases Nat.lt_trichotomy k j' with hh | hh | hh;{have:=aa7 k j' l1 l2 hh;rw [v1,v2] at this;omega};{exact hh.symm};{have:=aa7 j' k l2 l1 hh;rw [v1,v2] at this;omega}) (fun M' n' o'=>by
  rw [HK2.2];obtain ⟨w2',DD,vF,-⟩:=o'.drop gR underlying129 df 0;rw [cK] at DD;cases DD;exact vF)
 have eCl:gv D s.1={ Dk with ss:=Dk.ss.eraseIdx k }:=by have e9:=aa eDF;rw [aa E1,<-aa em] at e9;unfold gv;rw [e9,<-II uC.so HK2.1,HK2.2]
 rw [<-eCl] at PZ;have HPZ:=ae PZ;have FZ0:=FW.trans OZ.fr;have FZ:=ae ((Fr.below (T:=T3) HBY).trans FZ0);have Ej:=HY.2.2.fr FZ0;obtain ⟨r0,r1',r2,r3,r4,r5,r6,r7,rf⟩:=Ej.cells;have RZ:=ae Ej;clear eW PZ OZ ho r8 o4 s4 z4 PW FW FZ0 Ej eCl h4 h5 hFY;simp only [List.take_succ_cons,List.take_zero,List.drop_succ_cons,List.drop_zero]
 repeat still_step
 refine wpStill_nil ?_;go_wp2;exact kT RZ (by kernel_rfl) rfl rfl ⟨_,_,_,_,PS.rep HPZ RZ (by omega) _ _ _ _ _ _ _ _,FZ.low ((aO Z (w.heap.size+1) _ _ _ _ _ _ _ _).mono (by omega)),rfl⟩})}
 {
 intro i0 pl g1 w4 vh ac2 hp hlp uT bj fO aa0 Bk;obtain ⟨j,z,g1',hj,hgj,ee⟩:=gM hp;simp only [Prod.mk.injEq] at ee;obtain ⟨rfl,rfl⟩:=ee;have VO:∀ cur ty m,wr.heap[r1]?≠some (.cells cur ty m):=fun cur ty m e=>by obtain ⟨es,clock,since,seen,c0,-,-,-,-,hi,-⟩:=nM;rw [hi] at e;cases e
 have J3:∀ es c,wr.heap[r1]?≠some (.map es c):=fun es c e=>by obtain ⟨es,clock,since,seen,c0,-,-,-,-,hi,-⟩:=nM;rw [hi] at e;cases e
 have O4:=One.ofI hPr.be fO aa3 VO;have P4:=hPr.iter O4 (fun cs ty=>VO cs ty _) J3;have F4:=sY.trans O4.fr;have gS:=Ks (f:=vL s.1) hj hlp;obtain ⟨g9,hh,uu,z1,z2,z3,N4⟩:=P4.nat gS;rw [hgj] at z1;cases z1;have Wh:(Instr.entry (.pointer (some ⟨r1,0,none⟩))).run prog w4=.ok (.tuple #[.string i0,.pointer (some ⟨g1,0,none⟩)]) w4:=Bk;have Pu:=ae (ag P4 (ag F4 gS));have HRG:=ae (ag uT bj);have ta:=ae (ag hj (ag hgj (ag z2 z3)));have HM:=ae (ag nM.left_eq uT.left_eq);clear VO J3 O4 P4 F4 gS N4 uT bj fO aa0 hp ac2 hPr sY Bk z2 z3 hgj hj;go_wp2_with fail;refine de 6 (by kernel_rfl) (fun W eW=>?_);have bW:=dG eW;have PW:=Pu.1.below bW;have NW:=PW.jC j z g1 hh uu Pu.2.2 ta.2.1 ta.2.2.1 ta.2.2.2;obtain ⟨V,-,-,-,-,-,-,-,-,n6,-⟩:=NW.cells;have FW:=Pu.2.1.trans (Fr.below (T:=T3) bW);have c0:W.cell? ⟨w.heap.size,0,none⟩=some (.U s.1):=ay (FW.2 _ _ _ _ (by decide) HY.2.1) 0;obtain ⟨M4,n4,o4,hn4,s4,z4⟩:=NW.Iq;obtain ⟨Z,cK,ho,r8⟩:=o4.drop gR underlying84 df 0;have OZ:=One.Lk PW.be r8.grown NW.lo.2.2 (ownsMap_at o4);have SZ:=SM.del (w:=W) s4 (hC.nt z (aF ta.1)).1.wpw hn4 ho;have PZ:=PW.Iq Pu.2.2 ta.2.1 ta.2.2.1 ta.2.2.2 OZ SZ;have Nk:=EG (f:=vL s.1) (left:=left) hC.kd ta.1;have PZ':Hid (PS w0 Z b bs bn { D with ns:=og (vL s.1) (fun z'=>left z'&&!z'.sameKey (bN z.path)) D.ns } SB NB HB UB):=by have:=PZ;simp only at this;rw [<-Nk];exact this
 have FZ:=ae (FW.trans OZ.fr);have tG:Z.ranges prog 9 aZ bn r1 n M (fun z'=>left z'&&!z'.sameKey (bN z.path)) vh:=by
  refine CG HRG.1 ?_ ?_;{obtain ⟨M9,n9,o9,-⟩:=PW.jQ;refine (OZ.k bn o9.lt (fun e=>(PW.hu.2.2.1 _ (aF ta.2.2.2)).2 e.symm)).trans ?_;rw [eW];rfl};{
 have hi9:∃ o:Obj,W.heap[r1]?=some o/\∀ es c,o≠.map es c:=by obtain ⟨es,clock,since,seen,c0,-,-,-,-,hi,-⟩:=HRG.1;exact ⟨_,by rw [eW];exact hi,fun es c e=>by cases e⟩
 obtain ⟨o,ho9,bL⟩:=hi9;refine (OZ.k r1 (aG ho9) (fun e=>?_)).trans (by rw [eW];rfl);obtain ⟨es,c,hm4⟩:=ownsMap_at o4;rw [e,hm4] at ho9;exact bL es c (Option.some.inj ho9).symm}
 clear eW NW SZ PZ Nk OZ ho r8 o4 s4 z4 PW FW;simp only [List.take_succ_cons,List.take_zero,List.drop_succ_cons,List.drop_zero]
 repeat still_step
 refine wpStill_nil ?_;go_wp2;go_roundw
 case rel=>exact ⟨_,_,tG,PZ',FZ⟩
 case measure=>rw [tG.left_eq,nM.left_eq];exact HRG.2})
theorem fQ {α:Type} {el:World->α->List Value->Prop} {P:Program} {K:Act->World->Prop} {Q:Exit->Act->World->Prop} {E:Prop} (jK:o.guard=none) (s x:Operand) (t:TypeId)
  (ho:o.op=.call { callee:=.builtin .append,args:=#[s,x],argTypes:=#[t,t] })
  (B:Nat) (e:TypeId) (i:TypeInfo) (z:Value) (size bytes:Nat) (ht:P.underlying t=some (.slice e)) (hi:P.info? e=some i) (hz:i.zero=some z)
  (sa:i.size=size) (fI:i.bytes=bytes) (Tj:z.cells.size=size) (il:0<size)
  (v:Value) (xs:List α) (k:Nat) (ek:Hid (xs.length=k)) (hs:a.eval s=v) (br:RT el e size B w v xs) (g:Nat) (y:α) (cs:List Value) (hx:a.eval x=.S (some ⟨g,0,none⟩) 1 1) (pL:el w y cs) (Bo:cs.length=size) (eh:∀ j u,cs[j]?=some u->w.cell? ⟨g,j,none⟩=some u) (h1:∀ u∈cs,u.oneCell'=true) (mr:∀ w',Fr [e] w w'->∀ x c,el w x c->el w' x c)
  (hk:k<4194304) (hbt:bytes<=256) (hB:B<=w.heap.size)
  (h:∀ p' c' w',RT el e size B w' (.S p' (k+1) c') (xs++[y])->w.grownBy w' v.ownBlock->Fr [e] w w'->(∀ g,(Value.slice p' (k+1) c').ownBlock=some g->v.ownBlock=some g\/w.heap.size<=g)->K (a.put o.dst (.S p' (k+1) c')) w') :
  if Region.wanted o (yielded ops a.tmps)=true then Oper.wp P o a w K Q else E:=by
 have htt:=br.nJ;obtain ⟨rs,g1,g2,g3,g4⟩:=br;rw [aa ek] at g3;refine fR jK s x t ho B e i z size bytes ht hi hz sa fI Tj il v k rs.flatten hs g3 g 1 1 cs hx (by rw [Bo,Nat.one_mul]) eh h1 (by unfold maxLen;omega) (by have:=Nat.mul_le_mul (show k+1<=4194304 by omega) hbt;omega) hB ?_
 intro v' w' dW hg oH;have hf:Fr [e] w w':=Fr.grown hg fun b hb=>by obtain ⟨cur,hc⟩:=htt b hb;exact ⟨cur,_,hc,by simp⟩
 have sn:RT el e size B w' v' (xs++[y]):=RT.snoc g1 g2 g4 (mr w' hf) pL Bo (by rw [aa ek];exact dW);obtain ⟨p',c',rfl,-⟩:=RT.form sn;rw [List.length_append,aa ek] at sn oH ⊢;exact h p' c' w' sn hg hf oH
theorem qT (nd:aD) (p0 p1 p4 p7:Option Addr) (c0 c1 c4 c7 n0 n1 n4 n7:Nat) (e0:Hid (nd.path.length=n0)) (e1:Hid (nd.value.length=n1)) (e4:Hid (nd.holders.length=n4)) (e7:Hid (nd.watchers.length=n7)) (w:World) (h0:Rd w (.S p0 n0 c0) nd.path) (h1:Rd w (.S p1 n1 c1) nd.value) (h4:nH w (.S p4 n4 c4) nd.holders) (h7:nH w (.S p7 n7 c7) nd.watchers) (l0:n0<=1048576) (l1:n1<=1048576) (l4:n4<=1048576) (l7:n7<=1048576) :
  Calls prog 112 #[JS (.S p0 n0 c0) (.S p1 n1 c1) nd.owner nd.mode (.S p4 n4 c4) nd.aB nd.gen (.S p7 n7 c7)] w fun r w'=>∃ q0 d0 q1 d1 q4 d4 q7 d7,r=.returned (JS (.S q0 n0 d0) (.S q1 n1 d1) nd.owner nd.mode (.S q4 n4 d4) nd.aB nd.gen (.S q7 n7 d7))/\TB w' (.S q0 n0 d0) nd.path/\TB w' (.S q1 n1 d1) nd.value/\TU w.heap.size w' (.S q4 n4 d4) nd.holders/\TU w.heap.size w' (.S q7 n7 d7) nd.watchers/\Bw w w':=by
 have HR:=ae fun (w':World) (hb:Bw w w')=>ag (h0.below hb) (ag (h1.below hb) (ag (h4.below hb) (h7.below hb)));obtain ⟨W0,dh,b0,z0,C0,T0⟩:=aj w #[.S p0 n0 c0,.S p1 n1 c1,.U nd.owner,.I nd.mode,.S p4 n4 c4,.U nd.aB,.U nd.gen,.S p7 n7 c7] 38;obtain ⟨W1,iM,b1,z1,C1,T1⟩:=aj W0 #[.S none 0 0,.S none 0 0,.U 0,.I 0,.S none 0 0,.U 0,.U 0,.S none 0 0] 38;rw [z0] at C1 T1 z1;have B0:=ae (ah b0 b1);have C0:=ae (C0.below (by omega) b1);have T0:Hid (∃ cur,W1.heap[w.heap.size]?=some (.cells cur 38)):=⟨_,(b1.block _ (by omega)).trans T0⟩;have R0:=ae C1;have TR:Hid (∃ cur,W1.heap[w.heap.size+1]?=some (.cells cur 38)):=⟨_,T1⟩;have Z0:=z1;go_enter func112,ntmps112;have k0:=C0.1 0 _ rfl;go_wp2_with fail;rw [<-dh,<-iM];refine (fT p0 c0 n0 nd.path e0 W1 (aa HR W1 B0).1 (by omega)).mono ?_;rintro r w1 ⟨q0,d0,rfl,oj,pM⟩;have CY:=C0.below (by omega) pM;have TY:∃ cur,w1.heap[w.heap.size]?=some (.cells cur 38):=T0.imp fun cur hc=>(pM.block _ (by omega)).trans hc;have RY:=R0.below (by omega) pM;obtain ⟨X,hX⟩:=ax (w1.setCell ⟨w.heap.size,0,none⟩ (.S q0 n0 d0));have Xv:∃ cur,w1.heap[w.heap.size+1]?=some (.cells cur 38):=TR.imp fun cur hc=>(pM.block _ (by omega)).trans hc;have TR:Hid (∃ cur,X.heap[w.heap.size+1]?=some (.cells cur 38)):=by rw [hX];exact ae (Xv.imp fun cur hc=>(dF _ _ _ _ (by show w.heap.size+1≠w.heap.size;omega)).trans hc)
 have ts:=bf (j:=0) (u:=.S q0 n0 d0) TY;rw [<-hX] at ts;have kj:=CY.1 0 _ rfl;have kf:=CY.2 0;have zj:=pM.size;have Z1:w.heap.size+1+1<=X.heap.size:=by rw [hX];simp;omega
 have C1:Hid (aq X w.heap.size [.S q0 n0 d0,.S p1 n1 c1,.U nd.owner,.I nd.mode,.S p4 n4 c4,.U nd.aB,.U nd.gen,.S p7 n7 c7]):=by rw [hX];exact ae (CY.dI 0 (by simp) _)
 have T1:=ae ts.1;have R1:Hid (aq X (w.heap.size+1) [.S none 0 0,.S none 0 0,.U 0,.I 0,.S none 0 0,.U 0,.U 0,.S none 0 0]):=by rw [hX];exact ae (RY.rj (a:=⟨w.heap.size,0,none⟩) (by show w.heap.size+1≠w.heap.size;omega) _)
 have B1:Hid (Bw w X):=by rw [hX];exact ae ((ah (aa B0) pM).setCell (p:=⟨w.heap.size,0,none⟩) aA _)
 have t0:=ae (oj.tb.fr ts.2);obtain ⟨X1,hN⟩:=ax X;rw [<-hN] at C1 T1 R1 B1 Z1 TR hX t0;have k1:=C1.1 1 _ rfl;rw [hX] at k1;go_wp2_with fail;rw [<-hX];refine (fT p1 c1 n1 nd.value e1 X1 (aa HR X1 B1).2.1 (by omega)).mono ?_;rintro r w2 ⟨q1,d1,rfl,oj,pM⟩;have CY:=C1.below (by omega) pM;have TY:∃ cur,w2.heap[w.heap.size]?=some (.cells cur 38):=T1.imp fun cur hc=>(pM.block _ (by omega)).trans hc;have RY:=R1.below (by omega) pM;obtain ⟨X,hX⟩:=ax (w2.setCell ⟨w.heap.size,1,none⟩ (.S q1 n1 d1));have Xv:∃ cur,w2.heap[w.heap.size+1]?=some (.cells cur 38):=TR.imp fun cur hc=>(pM.block _ (by omega)).trans hc;have TR:Hid (∃ cur,X.heap[w.heap.size+1]?=some (.cells cur 38)):=by rw [hX];exact ae (Xv.imp fun cur hc=>(dF _ _ _ _ (by show w.heap.size+1≠w.heap.size;omega)).trans hc)
 have ts:=bf (j:=1) (u:=.S q1 n1 d1) TY;rw [<-hX] at ts;have kj:=CY.1 1 _ rfl;have kf:=CY.2 1;have zj:=pM.size;have Z2:w.heap.size+1+1<=X.heap.size:=by rw [hX];simp;omega
 have C2:Hid (aq X w.heap.size [.S q0 n0 d0,.S q1 n1 d1,.U nd.owner,.I nd.mode,.S p4 n4 c4,.U nd.aB,.U nd.gen,.S p7 n7 c7]):=by rw [hX];exact ae (CY.dI 1 (by simp) _)
 have T2:=ae ts.1;have R2:Hid (aq X (w.heap.size+1) [.S none 0 0,.S none 0 0,.U 0,.I 0,.S none 0 0,.U 0,.U 0,.S none 0 0]):=by rw [hX];exact ae (RY.rj (a:=⟨w.heap.size,1,none⟩) (by show w.heap.size+1≠w.heap.size;omega) _)
 have B2:Hid (Bw w X):=by rw [hX];exact ae ((ah (aa B1) pM).setCell (p:=⟨w.heap.size,1,none⟩) aA _)
 have t0:=ae (((t0.fr (al pM)).fr ts.2));have t1:=ae (oj.tb.fr ts.2);obtain ⟨X2,hN⟩:=ax X;rw [<-hN] at C2 T2 R2 B2 Z2 TR hX t0 t1;have k4:=C2.1 4 _ rfl;rw [hX] at k4;go_wp2_with fail;rw [<-hX];refine (Hd p4 c4 n4 nd.holders e4 X2 (aa HR X2 B2).2.2.1 (by omega)).mono ?_;rintro r w3 ⟨q4,d4,rfl,oj,pM⟩;have CY:=C2.below (by omega) pM;have TY:∃ cur,w3.heap[w.heap.size]?=some (.cells cur 38):=T2.imp fun cur hc=>(pM.block _ (by omega)).trans hc;have RY:=R2.below (by omega) pM;obtain ⟨X,hX⟩:=ax (w3.setCell ⟨w.heap.size,4,none⟩ (.S q4 n4 d4));have Xv:∃ cur,w3.heap[w.heap.size+1]?=some (.cells cur 38):=TR.imp fun cur hc=>(pM.block _ (by omega)).trans hc;have TR:Hid (∃ cur,X.heap[w.heap.size+1]?=some (.cells cur 38)):=by rw [hX];exact ae (Xv.imp fun cur hc=>(dF _ _ _ _ (by show w.heap.size+1≠w.heap.size;omega)).trans hc)
 have ts:=bf (j:=4) (u:=.S q4 n4 d4) TY;rw [<-hX] at ts;have kj:=CY.1 4 _ rfl;have kf:=CY.2 4;have zj:=pM.size;have Z3:w.heap.size+1+1<=X.heap.size:=by rw [hX];simp;omega
 have C3:Hid (aq X w.heap.size [.S q0 n0 d0,.S q1 n1 d1,.U nd.owner,.I nd.mode,.S q4 n4 d4,.U nd.aB,.U nd.gen,.S p7 n7 c7]):=by rw [hX];exact ae (CY.dI 4 (by simp) _)
 have T3:=ae ts.1;have R3:Hid (aq X (w.heap.size+1) [.S none 0 0,.S none 0 0,.U 0,.I 0,.S none 0 0,.U 0,.U 0,.S none 0 0]):=by rw [hX];exact ae (RY.rj (a:=⟨w.heap.size,4,none⟩) (by show w.heap.size+1≠w.heap.size;omega) _)
 have B3:Hid (Bw w X):=by rw [hX];exact ae ((ah (aa B2) pM).setCell (p:=⟨w.heap.size,4,none⟩) aA _)
 have t0:=ae (((t0.fr (al pM)).fr ts.2));have t1:=ae (((t1.fr (al pM)).fr ts.2));have t4:=ae ((oj.tu (B':=w.heap.size) (by omega)).fr ts.2);obtain ⟨X3,hN⟩:=ax X;rw [<-hN] at C3 T3 R3 B3 Z3 TR hX t0 t1 t4;have k7:=C3.1 7 _ rfl;rw [hX] at k7;go_wp2_with fail;rw [<-hX];refine (Hd p7 c7 n7 nd.watchers e7 X3 (aa HR X3 B3).2.2.2 (by omega)).mono ?_;rintro r w4 ⟨q7,d7,rfl,oj,pM⟩;have CY:=C3.below (by omega) pM;have TY:∃ cur,w4.heap[w.heap.size]?=some (.cells cur 38):=T3.imp fun cur hc=>(pM.block _ (by omega)).trans hc;have RY:=R3.below (by omega) pM;obtain ⟨X,hX⟩:=ax (w4.setCell ⟨w.heap.size,7,none⟩ (.S q7 n7 d7));have Xv:∃ cur,w4.heap[w.heap.size+1]?=some (.cells cur 38):=TR.imp fun cur hc=>(pM.block _ (by omega)).trans hc;have TR:Hid (∃ cur,X.heap[w.heap.size+1]?=some (.cells cur 38)):=by rw [hX];exact ae (Xv.imp fun cur hc=>(dF _ _ _ _ (by show w.heap.size+1≠w.heap.size;omega)).trans hc)
 have ts:=bf (j:=7) (u:=.S q7 n7 d7) TY;rw [<-hX] at ts;have kj:=CY.1 7 _ rfl;have kf:=CY.2 7;have zj:=pM.size;have Z4:w.heap.size+1+1<=X.heap.size:=by rw [hX];simp;omega
 have C4:Hid (aq X w.heap.size [.S q0 n0 d0,.S q1 n1 d1,.U nd.owner,.I nd.mode,.S q4 n4 d4,.U nd.aB,.U nd.gen,.S q7 n7 d7]):=by rw [hX];exact ae (CY.dI 7 (by simp) _)
 have T4:=ae ts.1;have R4:Hid (aq X (w.heap.size+1) [.S none 0 0,.S none 0 0,.U 0,.I 0,.S none 0 0,.U 0,.U 0,.S none 0 0]):=by rw [hX];exact ae (RY.rj (a:=⟨w.heap.size,7,none⟩) (by show w.heap.size+1≠w.heap.size;omega) _)
 have B4:Hid (Bw w X):=by rw [hX];exact ae ((ah (aa B3) pM).setCell (p:=⟨w.heap.size,7,none⟩) aA _)
 have t0:=ae (((t0.fr (al pM)).fr ts.2));have t1:=ae (((t1.fr (al pM)).fr ts.2));have t4:=ae (((t4.fr (al pM)).fr ts.2));have t7:=ae ((oj.tu (B':=w.heap.size) (by omega)).fr ts.2);obtain ⟨X4,hN⟩:=ax X;rw [<-hN] at C4 T4 R4 B4 Z4 TR hX t0 t1 t4 t7;obtain ⟨s0,s1,s2,s3,s4,s5,s6,s7,sf⟩:_/\_/\_/\_/\_/\_/\_/\_/\_:=⟨C4.1 0 _ rfl,C4.1 1 _ rfl,C4.1 2 _ rfl,C4.1 3 _ rfl,C4.1 4 _ rfl,C4.1 5 _ rfl,C4.1 6 _ rfl,C4.1 7 _ rfl,C4.2⟩;obtain ⟨r0,r1,r2,r3,r4,r5,r6,r7,rf⟩:_/\_/\_/\_/\_/\_/\_/\_/\_:=⟨R4.1 0 _ rfl,R4.1 1 _ rfl,R4.1 2 _ rfl,R4.1 3 _ rfl,R4.1 4 _ rfl,R4.1 5 _ rfl,R4.1 6 _ rfl,R4.1 7 _ rfl,R4.2⟩;rw [hX] at s0 s1 s2 s3 s4 s5 s6 s7 sf r0 r1 r2 r3 r4 r5 r6 r7 rf;go_wp2;rw [<-hX] at *;have bF:=aO X4 (w.heap.size+1) (.S q0 n0 d0) (.S q1 n1 d1) (.U nd.owner) (.I nd.mode) (.S q4 n4 d4) (.U nd.aB) (.U nd.gen) (.S q7 n7 d7);obtain ⟨-,fF⟩:=rI (v0:=.S q0 n0 d0) (v1:=.S q1 n1 d1) (v2:=.U nd.owner) (v3:=.I nd.mode) (v4:=.S q4 n4 d4) (v5:=.U nd.aB) (v6:=.U nd.gen) (v7:=.S q7 n7 d7) TR;refine bodyPost_ret (v:=JS (.S q0 n0 d0) (.S q1 n1 d1) nd.owner nd.mode (.S q4 n4 d4) nd.aB nd.gen (.S q7 n7 d7)) (by simp [results,results112,go_sem,r0,r1,r2,r3,r4,r5,r6,r7]) rfl ?_;exact ⟨q0,d0,q1,d1,q4,d4,q7,d7,rfl,t0.fr fF,t1.fr fF,t4.fr fF,t7.fr fF,B4.trans (bF.mono (by omega))⟩
theorem vO.get {p:Option Addr} {n c:Nat} {es:List Ev} (h:vO w (.S p n c) es) {e:Ev} (hi:es[i]?=some e):∃ b o u,p=some ⟨b,o,none⟩/\w.cell? ⟨b,o+i*2,none⟩=some (.I e.1)/\w.cell? ⟨b,o+i*2+1,none⟩=some u/\Rd w u e.2:=by
 obtain ⟨p',c',e',hd⟩:=h;simp only [Value.slice.injEq] at e';obtain ⟨rfl,-,rfl⟩:=e';rcases hd with h0 | ⟨b,o,rfl,hA⟩;{rw [h0] at hi;simp at hi};{obtain ⟨h1,u,h2,h3⟩:=hA i e hi;exact ⟨b,o,u,rfl,h1,h2,h3⟩}
theorem DV (p:Option Addr) (c n:Nat) (Q:List Ev) (en:Hid (Q.length=n)) (w:World) (h:vO w (.S p n c) Q) (hn:n<=1048576) (hbq:Hid (∀ e∈Q,e.2.length<=1048576)) :
  Calls prog 111 #[.S p n c] w fun r w'=>∃ p' c',r=.returned (.S p' n c')/\mu w.heap.size w' (.S p' n c') Q/\Bw w w':=by
 obtain ⟨ie,Yb,mw,iT,jW⟩:=info_parts Tryz.infoEv;have HI:=ae (ag Yb (ag mw (ag iT jW)));have HR:=ae fun (w':World) (hb:Bw w w')=>h.below hb;go_enter func111,ntmps111;go_wp2
 go_loopw [3,4] (fun ov iv wr=>∃ (k:Nat) (M:List Ev) (po:Option Addr) (co:Nat),k<=n/\iv=.I k/\ov=.S po k co/\Hid (M.length=k)/\Hid (Q.take k=M)/\Hid (mu w.heap.size wr (.S po k co) M)/\Hid (Bw w wr)) (fun _ iv _=>n-(intOf iv).toNat)
 case atStart=>exact ⟨0,[],none,0,Nat.zero_le _,rfl,rfl,ae rfl,(by show _=_;simp),RT.nil _ _ _ _ _,Below.refl _ _⟩
 case round =>(
 obtain ⟨k,M,po,co,hk,rfl,rfl,eM,hM,hQ,aR⟩:=hrel;have zr:=aR.size;by_cases bj:k<n;{
 have bm:=aT k n;obtain ⟨y,hy⟩:∃ y,Q[k]?=some y:=⟨_,aK (by rw [aa en];exact bj)⟩;have E1:=ae (by rw [List.take_add_one,hy,aa hM];rfl:Q.take (k+1)=M++[y]);have hyl:=aa hbq y (aF hy);obtain ⟨b,o,u,rfl,c0,c1,hu⟩:=(aa HR w aJ).get hy;obtain ⟨pu,cu,rfl,OP⟩:=hu;have RU:=ae (show Rd w (.S pu y.2.length cu) y.2 from ⟨pu,cu,rfl,OP⟩);obtain ⟨nu,Nn⟩:=aL y.2.length;rw [aa Nn] at c1 RU hyl;have HC:=ae (fun (v:World) (hv:Bw w v)=>ag (af c0 hv) (af c1 hv));go_wp2_with fail;obtain ⟨vA,aX⟩:=ax wr.drew;have cI:=dG aX;have BA:=ae cI;have BW:=fun (v:World) (hv:Bw wr v)=>ah aR hv;refine bO (fun w'=>w'.cell? ⟨b,o+k*2,none⟩=some (.I y.1)/\w'.cell? ⟨b,o+k*2+1,none⟩=some (.S pu nu cu)) (by rw [<-aX];exact aa HC vA (BW vA cI)) fun hS=>?_;rw [<-aX] at hS ⊢;refine gy 0 1 2 3 4 5 6 7 hS ?_;refine fe 8 9 hS ?_;refine tn 10 hS ?_;refine bH 11 fun KK hK=>?_;refine ia (fT pu cu nu y.2 Nn vA (RU.below (BW vA BA)) (by omega)) ?_;rintro r v1 ⟨pa,ca,rfl,oa,fo⟩;refine ⟨_,rfl,?_⟩;have B1:=ae (ah BA fo);have OA:=ae oa.tb;refine cg hK (by exact HC v1 (BW v1 B1)) fun hS=>?_;refine tn 12 hS ?_;refine bH 13 fun KK hK=>?_;go_simp;obtain ⟨Z,hZ,bZ,zZ,CZ,-⟩:=aj v1 #[.I y.1,.S pa nu ca] 49;rw [<-hZ];have B2:=ae (ah B1 bZ);have BS:=ae CZ;have TZ:=ae (OA.fr (al bZ));have QZ:=ae (mu.fr hQ (al B2));have z2:=B2.size;refine cg hK (by exact HC Z (BW Z B2)) fun hS=>?_;refine bH 14 fun KK hK=>?_;refine fQ (by rfl) _ _ 33 (by rfl) w.heap.size 49 ie _ 2 32 underlying33 HI.1 HI.2.1 HI.2.2.1 HI.2.2.2 rfl (by decide) (.S po k co) M k eM (by rfl) (aa QZ) v1.heap.size y [.I y.1,.S pa nu ca] (by rfl) ⟨_,rfl,aa TZ⟩ rfl (fun j u hu=>BS.1 j u hu) (fun u hu=>by simp at hu;rcases hu with rfl | rfl<;>rfl) (fun w' hf=>nB.fr hf (by decide)) (by omega) (by omega) (by omega) ?_;intro p' c' w9 ya fh f9 _;have B9:=ae ((aR.trans (B2.mono (by omega))).grown fh (by omega) (fun b' e=>(QZ.lt b' e).1));have Q9:=ae ya;have hS9:w9.cell? ⟨b,o+k*2,none⟩=some (.I y.1)/\w9.cell? ⟨b,o+k*2+1,none⟩=some (.S pu nu cu):=aa HC w9 B9;refine cg hK (by exact hS9) fun hS=>?_;refine tn 15 hS ?_;refine bu ?_;go_wp2;go_roundw
 case rel=>exact ⟨k+1,M++[y],p',c',by omega,by go_num,rfl,ae (by rw [List.length_append,aa eM];rfl),E1,Q9,B9⟩
 case measure=>simp [intOf];omega}
 {
 have bm:=dy k n;have ek:k=n:=by omega
 subst ek;have e1:=aa hM;rw [List.take_of_length_le (by rw [aa en];omega)] at e1;subst e1;go_wp2;go_ret;exact ⟨_,_,rfl,hQ,aR⟩})
end Go.Proofs.YtcfcafeciggjeaaGreatDoor
