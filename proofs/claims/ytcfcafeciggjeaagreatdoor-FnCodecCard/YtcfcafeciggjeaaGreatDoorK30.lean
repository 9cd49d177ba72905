import Derived.Test.YtcfcafeciggjeaaGreatDoorK14
import Derived.Test.YtcfcafeciggjeaaGreatDoorK27
import Derived.Test.YtcfcafeciggjeaaGreatDoorK26
import Derived.Test.YtcfcafeciggjeaaGreatDoorK29
import Derived.Lib.ConvBytes
namespace Go.Proofs.YtcfcafeciggjeaaGreatDoor
set_option maxHeartbeats 3200000
set_option linter.all false
set_option maxRecDepth 100000
open Go.ChangeShapes Go.WideShapes Go.ChangeAt Go.RowKit Go.Proofs.Tryz
variable {B b bn bs c g i j mV:Nat} {D:DataW Unit} {P:Program} {cd l m:List Int} {e t x:Int} {f:aY->aY} {k:TypeId} {left:Lit->Bool} {nd:aD} {ns:List aD} {p:Option Addr} {s:aY} {ss:List aY} {v:Value} {w0:World}
def wS (e g x t:Int) (n m:Nat):Bool:=decide (e<=4611686018427387904/\g<=4611686018427387904/\x<=4611686018427387904/\0<=t/\t<=1000000/\n<=50/\m<=200)
theorem Fm (e g x t:Int) (p q:Option Addr) (c n d m:Nat) (w:World) (hn:n<=1048576) (hm:m<=1048576) (B:Bool) (eB:Hid (wS e g x t n m=B)) :
  Calls prog 42 #[cY e g x t (.S p n c) (.S q m d)] w fun r w'=>r=.returned (.bool B)/\Bw w w':=by
 go_enter func42,ntmps42;go_wp2_with fail
 all_goals (
  go_ret;refine ⟨?_,aJ.alloc aA _⟩;rw [<-aa eB];simp only [wS,Ending.returned.injEq,Value.bool.injEq])
 all_goals first | (simp_all;done) | (simp_all;omega) | (show Value.bool (decide ((m:Int)<=200))=Value.bool _;congr 1;rw [Bool.eq_iff_iff,decide_eq_true_iff,decide_eq_true_iff];omega) | skip
theorem yk (e g ow mo ep ge:Int) (P V U:Value) (p:Option Addr) (c n:Nat) (w:World) (hn:n<=1048576) (B:Bool) (eB:Hid (dN e g mo n ep ge=B)) :
  Calls prog 159 #[JS P V ow mo (.S p n c) ep ge U,.U e,.U g] w fun r w'=>r=.returned (.bool B)/\Bw w w':=by
 go_enter func159,ntmps159;go_wp2_with fail
 all_goals (
  go_ret;refine ⟨?_,aJ.alloc aA _⟩;rw [<-aa eB];simp only [dN,Ending.returned.injEq,Value.bool.injEq])
 all_goals first | (simp_all;done) | (simp_all;omega) | skip
def Nz (l:List Int):Bool:=iG l.length (fun i j=>decide (l.getD i 0<l.getD j 0))
def tz (e g:Int) (nd:aD):Bool:=vp nd.path&&(decide (nd.value.length<=40)&&(dN e g nd.mode nd.holders.length nd.aB nd.gen&&(Nz nd.holders&&Nz nd.watchers)))
theorem Co (e g x t:Int) (S N:Value) (nd:aD) (pp vq hp up:Option Addr) (pc pn vc vn hc hh uc un:Nat) (Bx:Hid (nd.path.length=pn)) (Uk:Hid (nd.value.length=vn)) (Gi:Hid (nd.holders.length=hh)) (Jk:Hid (nd.watchers.length=un)) (w:World)
  (h0:Rd w (.S pp pn pc) nd.path) (h4:nH w (.S hp hh hc) nd.holders) (h7:nH w (.S up un uc) nd.watchers) (TM:Hid (bM nd.path)) (Mb:pn<=1048576) (LR:vn<=1048576) (J4:hh<=1048576) (JX:un<=1048576) (qP:iH (.S pp pn pc)) (Aa:ML w) (B:Bool) (eB:Hid (tz e g nd=B)) :
  Calls prog 117 #[JS (.S pp pn pc) (.S vq vn vc) nd.owner nd.mode (.S hp hh hc) nd.aB nd.gen (.S up un uc),cY e g x t S N] w fun r w'=>r=.returned (.bool B)/\Bw w w':=by
 obtain ⟨kH,jF⟩:=qP.of;obtain ⟨ow,mo,ep,ge,e1,e2,e3,e4⟩:∃ a b c d,nd.owner=a/\nd.mode=b/\nd.aB=c/\nd.gen=d:=⟨_,_,_,_,rfl,rfl,rfl,rfl⟩
 rw [e1,e2,e3,e4];have HR:=ae fun (w':World) (hb:Bw w w')=>ag (h0.below hb) (ag (h4.below hb) (ag (h7.below hb) (Aa.below hb)));obtain ⟨T1,E1⟩:∃ T,Hid (vp nd.path=T):=⟨_,cw⟩;obtain ⟨T3,E3⟩:∃ T,Hid (dN e g mo hh ep ge=T):=⟨_,cw⟩;obtain ⟨T4,E4⟩:∃ T,Hid (iG hh (fun i j=>decide (nd.holders.getD i 0<nd.holders.getD j 0))=T):=⟨_,cw⟩;obtain ⟨T5,E5⟩:∃ T,Hid (iG un (fun i j=>decide (nd.watchers.getD i 0<nd.watchers.getD j 0))=T):=⟨_,cw⟩;have hB:B=(T1&&(decide (vn<=40)&&(T3&&(T4&&T5)))):=by rw [<-aa eB,tz,Nz,Nz,e2,e3,e4,aa Uk,aa Gi,aa Jk,aa E1,aa E3,aa E4,aa E5]
 have HB:=ae hB;clear h0 h4 h7 Aa hB eB e1 e2 e3 e4 qP;obtain ⟨W,hW⟩:=ax ((w.alloc (.cells #[.S pp pn pc,.S vq vn vc,.U ow,.I mo,.S hp hh hc,.U ep,.U ge,.S up un uc] 38)).alloc (.cells #[.U e,.U g,.U x,.I t,S,N] 27));have bW:Bw w W:=by rw [hW];exact (aJ.alloc aA _).alloc aU _
 have k0:W.cell? ⟨w.heap.size,0,none⟩=some (.S pp pn pc):=by rw [hW];simp
 have k1:W.cell? ⟨w.heap.size,1,none⟩=some (.S vq vn vc):=by rw [hW];simp
 have k2:W.cell? ⟨w.heap.size,2,none⟩=some (.U ow):=by rw [hW];simp
 have k3:W.cell? ⟨w.heap.size,3,none⟩=some (.I mo):=by rw [hW];simp
 have k4:W.cell? ⟨w.heap.size,4,none⟩=some (.S hp hh hc):=by rw [hW];simp
 have k5:W.cell? ⟨w.heap.size,5,none⟩=some (.U ep):=by rw [hW];simp
 have k6:W.cell? ⟨w.heap.size,6,none⟩=some (.U ge):=by rw [hW];simp
 have k7:W.cell? ⟨w.heap.size,7,none⟩=some (.S up un uc):=by rw [hW];simp
 have k8:W.cell? ⟨w.heap.size+1,0,none⟩=some (.U e):=by rw [hW];simp
 have k9:W.cell? ⟨w.heap.size+1,1,none⟩=some (.U g):=by rw [hW];simp
 go_enter func117,ntmps117;go_wp2_with fail;rw [<-hW];clear hW;refine (Fx pp pc pn nd.path Bx _ (aa HR _ bW).1 TM Mb kH jF (aa HR _ bW).2.2.2 T1 E1).mono ?_;rintro r w1 ⟨rfl,bq⟩;have b1:=ah bW bq;cases T1 with
 | false=>
  have eF:B=false:=by rw [aa HB];rfl
  subst eF;clear k0 k1 k2 k3 k4 k5 k6 k7 k8 k9;go_wp2;go_ret;exact ⟨rfl,b1⟩
 | true=>
  replace k0:=af k0 bq;replace k1:=af k1 bq;replace k2:=af k2 bq;replace k3:=af k3 bq;replace k4:=af k4 bq;replace k5:=af k5 bq;replace k6:=af k6 bq;replace k7:=af k7 bq;replace k8:=af k8 bq;replace k9:=af k9 bq;clear bq bW;by_cases hv:(vn:Int)<=40;{
 have qv:Hid (B=(T3&&(T4&&T5))):=by
  show _=_;rw [aa HB,show decide (vn<=40)=true by (rw [decide_eq_true_iff];omega)]
  rfl
 clear HB;go_wp2_with fail;refine (yk e g ow mo ep ge _ _ _ hp hc hh _ J4 T3 E3).mono ?_;rintro r w2 ⟨rfl,cX⟩;have b2:=ah b1 cX;cases T3 with
 | false=>
  have eF:B=false:=by rw [aa qv];rfl
  subst eF;clear k0 k1 k2 k3 k4 k5 k6 k7 k8 k9;go_wp2;go_ret;exact ⟨rfl,b2⟩
 | true=>
  replace k4:=af k4 cX;replace k7:=af k7 cX;clear k0 k1 k2 k3 k5 k6 k8 k9 cX;go_wp2_with fail;refine (Eg hp hc hh nd.holders Gi _ (aa HR _ b2).2.1 J4 T4 E4).mono ?_;rintro r w3 ⟨rfl,de⟩;have b3:=ah b2 de;cases T4 with
  | false=>
   have eF:B=false:=by rw [aa qv];rfl
   subst eF;clear k4 k7;go_wp2;go_ret;exact ⟨rfl,b3⟩
  | true=>
   have eT:B=T5:=by rw [aa qv];rfl
   subst eT;replace k7:=af k7 de;clear k4 de;go_wp2_with fail;refine (Eg up uc un nd.watchers Jk _ (aa HR _ b3).2.2.1 JX B E5).mono ?_;rintro r w4 ⟨rfl,gL⟩;have b4:=ah b3 gL;clear k7;go_wp2;go_ret;exact ⟨rfl,b4⟩};{
 have eF:B=false:=by rw [aa HB,show decide (vn<=40)=false by (rw [decide_eq_false_iff_not];omega)];rfl
 subst eF;clear k2 k3 k4 k5 k6 k7 k8 k9;go_wp2;go_ret;exact ⟨rfl,b1⟩}
def jh (x:Int) (ss:List aY):Bool:=(List.range ss.length).all (fun i=>DI x (ss.getD i (0,0,[])))&&iG ss.length (fun i j=>decide ((ss.getD i (0,0,[])).1<(ss.getD j (0,0,[])).1))
def jk (e g:Int) (ns:List aD):Bool:=(List.range ns.length).all (fun i=>tz e g (ns.getD i fq))&&iG ns.length (fun i j=>!leB (ns.getD j fq).path (ns.getD i fq).path)
theorem rC (e g x t:Int) (p:Option Addr) (c n:Nat) (N:Value) (ss:List aY) (en:Hid (ss.length=n)) (w:World) (h:ic w (.S p n c) ss) (hn:n<=1048576)
  (nO:Hid (∀ s∈ss,s.2.2.length<=1048576/\∀ e∈s.2.2,bM e.2/\e.2.length<=1048576)) (Aa:ML w) (B:Bool) (eB:Hid (jh x ss=B)) :
  Calls prog 43 #[cY e g x t (.S p n c) N] w fun r w'=>r=.returned (.bool B)/\Bw w w':=by
 have HR:=ae fun (w':World) (hb:Bw w w')=>ag (h.below hb) (Aa.below hb);obtain ⟨T2,E2⟩:∃ T,Hid (iG n (fun i j=>decide ((ss.getD i (0,0,[])).1<(ss.getD j (0,0,[])).1))=T):=⟨_,cw⟩;have HB:Hid (B=((List.range n).all (fun i=>DI x (ss.getD i (0,0,[])))&&T2)):=by show _=_;rw [<-aa eB,jh,aa en,aa E2]
 go_enter func43,ntmps43;go_wp2_with fail;obtain ⟨W,hW⟩:=ax (w.alloc (.cells #[.U e,.U g,.U x,.I t,.S p n c,N] 27));have bW:=ju hW;have jF:W.cell? ⟨w.heap.size,2,none⟩=some (.U x):=by rw [hW];simp
 have DO:W.cell? ⟨w.heap.size,4,none⟩=some (.S p n c):=by rw [hW];simp
 rw [<-hW];have BW:=ae bW;have OE:=ae (ag jF DO)
 go_loopw [8] (fun iv wr=>∃ k:Nat,k<=n/\iv=.I k/\Hid ((List.range k).all (fun i=>DI x (ss.getD i (0,0,[])))=true)/\Bw W wr) (fun iv _=>n-(intOf iv).toNat)
 case atStart=>exact ⟨0,Nat.zero_le _,rfl,cw,Below.refl _ _⟩
 case round =>(
 obtain ⟨k,hk,rfl,iJ,aR⟩:=hrel;have BB:=ah BW aR;have i2:=af OE.1 aR;have i4:=af OE.2 aR;by_cases bj:k<n;{
 have da:=aT k n;have fL:k<ss.length:=by rw [aa en];exact bj
 obtain ⟨⟨I,D,Q⟩,hy⟩:∃ y,ss[k]?=some y:=⟨_,aK fL⟩;have Cc:ss.getD k (0,0,[])=(I,D,Q):=by rw [List.getD_eq_getElem?_getD,hy];rfl
 obtain ⟨b,o,rfl,hcI,hcD,u,Yg,Tl⟩:∃ b o,p=some ⟨b,o,none⟩/\wr.cell? ⟨b,o+k*3,none⟩=some (.U I)/\wr.cell? ⟨b,o+k*3+1,none⟩=some (.I D)/\∃ u,wr.cell? ⟨b,o+k*3+2,none⟩=some u/\jJ wr u Q:=by obtain ⟨p',c',ev,hd⟩:=(aa HR _ BB).1;simp only [Value.slice.injEq] at ev;obtain ⟨rfl,-,-⟩:=ev;rcases hd with h0 | ⟨b,o,h1,h2⟩;{rw [h0] at fL;simp at fL};{exact ⟨b,o,h1,h2 k _ hy⟩}
 obtain ⟨hQl,hQb⟩:=aa nO _ (aF hy);obtain ⟨pq,cq,rfl,-⟩:=id Tl;obtain ⟨m,em⟩:=aH Q.length;rw [em] at Tl Yg;have hm:m<=1048576:=by rw [<-em];exact hQl
 have EM:=ae em;have HBQ:Hid (∀ e∈Q,bM e.2/\e.2.length<=1048576):=hQb;obtain ⟨V,eV⟩:=aH (DI x (I,D,Q));have EV:=ae eV;have HF:Hid (V=false->B=false):=fun h=>by rw [aa HB,dK bj (by rw [Cc,eV];exact h)];rfl
 have HT:Hid (V=true->Hid ((List.range (k+1)).all (fun i=>DI x (ss.getD i (0,0,[])))=true)):=fun h=>cM (aa iJ) (by rw [Cc,eV];exact h);have b2:Bw wr ((wr.alloc (.cells #[.U I,.I D,.S pq m cq] 35))):=aJ.alloc aA _;have YH:=ae (Tl.below b2);have HML:=ae ((aa HR _ BB).2.below b2);have j2:=af i2 b2;go_wp2_with fail;refine (AD I D x pq cq m Q EM _ (by exact YH) hm HBQ (by exact HML) V EV).mono ?_;rintro r w2 ⟨rfl,cX⟩;have b3:=ah aR (ah b2 cX);have B3:=ah BW b3;cases V with
 | false=>
  have eF:=aa HF rfl;subst eF;go_wp2;go_ret;exact ⟨rfl,B3⟩
 | true=>
  have zb:=aa HT rfl;go_wp2;go_roundw
  case rel=>exact ⟨k+1,ab,by go_num,zb,b3⟩
  exact dC};{
 have da:=dy k n;have Ex:k=n:=ab;have eT:B=T2:=by rw [aa HB,show (List.range n).all (fun i=>DI x (ss.getD i (0,0,[])))=true from Ex▸aa iJ,Bool.true_and]
 subst eT;go_wp2_with fail;refine (Oj p c n ss en _ (aa HR _ BB).1.rd hn B E2).mono ?_;rintro r w2 ⟨rfl,cX⟩;have b3:=ah BB cX;go_wp2;go_ret;exact ⟨rfl,b3⟩})
theorem vV (e g x t:Int) (S:Value) (q:Option Addr) (d m:Nat) (ns:List aD) (em:Hid (ns.length=m)) (w:World) (h:kJ w (.S q m d) ns) (hm:m<=1048576)
  (fI:Hid (∀ nd∈ns,bM nd.path/\nd.path.length<=1048576/\nd.value.length<=1048576/\nd.holders.length<=1048576/\nd.watchers.length<=1048576)) (Aa:ML w) (B:Bool) (eB:Hid (jk e g ns=B)) :
  Calls prog 44 #[cY e g x t S (.S q m d)] w fun r w'=>r=.returned (.bool B)/\Bw w w':=by
 have HR:=ae fun (w':World) (hb:Bw w w')=>ag (h.below hb) (Aa.below hb);obtain ⟨T2,E2⟩:∃ T,Hid (iG m (fun i j=>!leB (ns.getD j fq).path (ns.getD i fq).path)=T):=⟨_,cw⟩;have HB:Hid (B=((List.range m).all (fun i=>tz e g (ns.getD i fq))&&T2)):=by show _=_;rw [<-aa eB,jk,aa em,aa E2]
 go_enter func44,ntmps44;go_wp2_with fail;obtain ⟨W,hW⟩:=ax (w.alloc (.cells #[.U e,.U g,.U x,.I t,S,.S q m d] 27));have bW:=ju hW;have Pa:lX W w.heap.size e g x t S (.S q m d):=by rw [hW];simp [lX]
 rw [<-hW];have BW:=ae bW;have Pz:=ae Pa
 go_loopw [8] (fun iv wr=>∃ k:Nat,k<=m/\iv=.I k/\Hid ((List.range k).all (fun i=>tz e g (ns.getD i fq))=true)/\Bw W wr) (fun iv _=>m-(intOf iv).toNat)
 case atStart=>exact ⟨0,Nat.zero_le _,rfl,cw,Below.refl _ _⟩
 case round =>(
 obtain ⟨k,hk,rfl,iJ,aR⟩:=hrel;have BB:=ah BW aR;obtain ⟨i0,i1,i2,i3,i4,i5⟩:=Pz.below aR;by_cases bj:k<m;{
 have da:=aT k m;have fL:k<ns.length:=by rw [aa em];exact bj
 obtain ⟨nd,hy⟩:∃ y,ns[k]?=some y:=⟨_,aK fL⟩;have Cc:ns.getD k fq=nd:=by rw [List.getD_eq_getElem?_getD,hy];rfl
 obtain ⟨b,o,rfl,hA⟩:=(aa HR _ BB).1.at ab;obtain ⟨P,V,H,U,aV⟩:=hA k nd hy;obtain ⟨vG,jL,Zu,Rz,Ad⟩:=aa fI _ (aF hy);obtain ⟨pp,pc,pn,rfl,Bx⟩:=aV.r0.gD;obtain ⟨OO,vc,vn,rfl,Uk⟩:=aV.r1.gD;obtain ⟨hp,hc,hh,rfl,Gi⟩:=aV.r4.gD;obtain ⟨up,uc,un,rfl,Jk⟩:=aV.r7.gD;have Mb:pn<=1048576:=by rw [<-aa Bx];exact jL
 have LR:vn<=1048576:=by rw [<-aa Uk];exact Zu
 have J4:hh<=1048576:=by rw [<-aa Gi];exact Rz
 have JX:un<=1048576:=by rw [<-aa Jk];exact Ad
 have Kg:Hid (bM nd.path):=vG;obtain ⟨T,eV⟩:=aH (tz e g nd);have EV:=ae eV;have HF:Hid (T=false->B=false):=fun h=>by rw [aa HB,dK bj (by rw [Cc,eV];exact h)];rfl
 have HT:Hid (T=true->Hid ((List.range (k+1)).all (fun i=>tz e g (ns.getD i fq))=true)):=fun h=>cM (aa iJ) (by rw [Cc,eV];exact h);have b2:Bw wr (wr.alloc (.cells #[.S pp pn pc,.S OO vn vc,.U nd.owner,.I nd.mode,.S hp hh hc,.U nd.aB,.U nd.gen,.S up un uc] 38)):=aJ.alloc aA _;have ud:=ae (aV.below b2);have HML:=ae ((aa HR _ BB).2.below b2);obtain ⟨c0,c1,c2,c3,c4,c5,c6,c7,-,-,-,-,-⟩:=aV;have j0:=af i0 b2;have j1:=af i1 b2;have j2:=af i2 b2;have j3:=af i3 b2;have j4:=af i4 b2;have j5:=af i5 b2;go_wp2_with fail;refine (Co e g x t _ _ nd pp OO hp up pc pn vc vn hc hh uc un Bx Uk Gi Jk _ (by exact ud.r0) (by exact ud.r4) (by exact ud.r7) Kg Mb LR J4 JX ud.k0 (by exact HML) T EV).mono ?_;rintro r w2 ⟨rfl,cX⟩;have b3:=ah aR (ah b2 cX);have B3:=ah BW b3;cases T with
 | false=>
  have eF:=aa HF rfl;subst eF;go_wp2;go_ret;exact ⟨rfl,B3⟩
 | true=>
  have zb:=aa HT rfl;go_wp2;go_roundw
  case rel=>exact ⟨k+1,ab,by go_num,zb,b3⟩
  exact dC};{
 have da:=dy k m;have Ex:k=m:=ab;have eT:B=T2:=by rw [aa HB,show (List.range m).all (fun i=>tz e g (ns.getD i fq))=true from Ex▸aa iJ,Bool.true_and]
 subst eT;go_wp2_with fail;refine (Ol q d m ns em _ (aa HR _ BB).1 hm B E2).mono ?_;rintro r w2 ⟨rfl,cX⟩;have b3:=ah BB cX;go_wp2;go_ret;exact ⟨rfl,b3⟩})
open Go.Maps
section
variable {P:Program} (w:World) {ops:Array Oper} {rest:List Oper} {o:Oper} {a:Act} {Q:Exit->Act->World->Prop}
theorem kR (hg:o.guard=none) (m x:Operand) (t:TypeId) (hop:o.op=Op.lookup t m x true) (k e:TypeId) (K:Keyed P k) (ht:P.underlying t=some (.map k e)) (hz:(zeroValue e).run P w=.ok (.pointer none) w) (b n:Nat) (D:DataW Unit) (l:List (Lit × Nat)) (hM:MapTo D l)
  (hm:a.eval m=.map (some b)) (br:w.ownsMap P k aZ b n D) (key:Value) (p:Lit × Nat) (hp:p∈l) (hx:a.eval x=key) (kp:keyOf P k key=some p.1)
  (hK:wpList P ops Q rest (a.put o.dst (.tuple #[.pointer (some ⟨p.2,0,none⟩),.bool true])) w):wpList P ops Q (o::rest) a w:=
 wpList_lookup_own_ok w hg m x t hop k e K ht aZ hz .nil [] rfl b n D hm br key p.1 hx kp (fun v ps hv=>by rw [hM.at' p hp] at hv;obtain rfl:=iB hv;rw [(hM.hs p.1).2 ⟨p,hp,rfl⟩];exact hK)
theorem qx (hg:o.guard=none) (m x:Operand) (t:TypeId) (hop:o.op=Op.lookup t m x true) (k e:TypeId) (K:Keyed P k) (ht:P.underlying t=some (.map k e)) (hz:(zeroValue e).run P w=.ok (.pointer none) w) (b n:Nat) (D:DataW Unit) (l:List (Lit × Nat)) (hM:MapTo D l)
  (hm:a.eval m=.map (some b)) (br:w.ownsMap P k aZ b n D) (key:Value) (kl:Lit) (jS:∀ p∈l,p.1≠kl) (hx:a.eval x=key) (kp:keyOf P k key=some kl)
  (hK:wpList P ops Q rest (a.put o.dst (.tuple #[.pointer none,.bool false])) w):wpList P ops Q (o::rest) a w:=
 wpList_lookup_own_ok w hg m x t hop k e K ht aZ hz .nil [] rfl b n D hm br key kl hx kp (fun v ps hv=>by
  have hh:Maps.has D kl=false:=by rw [Bool.eq_false_iff];intro h;obtain ⟨p,hp,e⟩:=(hM.hs kl).1 h;exact jS p hp e
  rw [Maps.atKey_of_not_has hh] at hv;obtain rfl:=ox hv;rw [hh];exact hK)
end
theorem ke (w:World):(zeroValue 134).run prog w=.ok (.pointer none) w:=by kernel_rfl
theorem mg (h:fE ns l=some nd):nd.path=l/\∃ i:Nat,ns[i]?=some nd:=by
 have h1:=List.find?_some h;have h2:=List.mem_of_find?_eq_some h;exact ⟨by simpa using h1,List.getElem?_of_mem h2⟩
theorem zE (h:fE ns l=none):∀ nd∈ns,nd.path≠l:=by
 intro nd aV e;have:=List.find?_eq_none.1 h nd aV;simp [e] at this
theorem Ec {g:Int} {SB NB HB UB:List Nat} (l:List Int) (w:World) (dz:Hid (kc w0 w b bs bn e g x t ss ns SB NB HB UB)) (hB:Hid (bM l)) (rh:Hid (∀ nd∈ns,bM nd.path)) (hl:l.length<=1048577) (B:Bool) (eB:Hid (dw ns l=B)) :
  Calls prog 121 #[.pointer (some ⟨b,0,none⟩),.string (aC l)] w fun r w'=>r=.returned (.bool B)/\Bw w w':=by
 have Pb:w.cell? ⟨b,5,none⟩=some (.map (some bn)):=ay dz.hd 5;obtain ⟨D,oD,mD⟩:=dz.me.own;have kp:keyOf prog 9 (.string (aC l))=some (bN l):=by rw [WideMaps.keyOf_string_mk underlying9 (by rw [di];unfold maxLen;omega),kq]
 have OD:=ae oD;have MD:=ae mD;have yM:=ae kp;have iU:((aC l).toList==(aC [47]).toList)=decide (l=[47]):=sL (aa hB) (by intro y hy;simp at hy;omega);rw [show (aC [47]).toList=[47] from dR [47]] at iU;clear oD mD kp;obtain ⟨s,es⟩:=ax (aC l);rw [<-es] at iU yM ⊢;clear es;by_cases kL:l=[47];{
 have eT:B=true:=by rw [<-aa eB,dw,if_pos kL]
 subst eT;have hr:(s.toList==[47])=true:=by rw [iU];simp [kL]
 clear iU kL;go_enter func121,ntmps121;go_wp2;go_ret;exact ⟨rfl,Below.refl _ _⟩};{
 have hr:(s.toList==[47])=false:=by rw [iU];simp [kL]
 have jL:(match fE ns l with | some nd=>nd.owner==0 | none=>false)=B:=by rw [<-aa eB,dw,if_neg kL];rfl
 clear iU kL;cases hF:fE ns l with
 | none=>
  rw [hF] at jL;have eF:B=false:=jL.symm;subst eF;have jS:Hid (∀ p∈List.zipWith (fun (nd:aD) g=>(bN nd.path,g)) ns NB,p.1≠bN l):=by intro p hp;obtain ⟨i,nd,y,hx,hy,rfl⟩:=gM hp;intro ee;have hm:=aF hx;exact zE hF nd hm (jD (aa rh nd hm) hB ee)
  clear hF jL;go_enter func121,ntmps121;go_wp2_with (first
   | (at_lookup;refine qx _ rfl _ _ 130 rfl 9 _ kM underlying130 (ke _) bn _ D _ MD rfl OD _ (bN l) jS rfl yM ?_)
   | go_in)
  go_ret;exact ⟨rfl,Below.refl _ _⟩
 | some nd=>
  rw [hF] at jL;replace jL:(nd.owner==0)=B:=jL;obtain ⟨hp,i,hi⟩:=mg hF;obtain ⟨g1,h1,u1,q1,q2,q3⟩:=dz.me.at hi;obtain ⟨_,_,_,⟨V,a4,_⟩,_,_⟩:=dz.me.aI i nd g1 h1 u1 hi q1 q2 q3;have hcO:w.cell? ⟨g1,1,none⟩=some (.U nd.owner):=ay a4 1;have fK:Hid ((bN l,g1)∈List.zipWith (fun (nd:aD) g=>(bN nd.path,g)) ns NB):=by show _∈_;rw [List.mem_iff_getElem?];refine ⟨i,?_⟩;rw [List.getElem?_zipWith,hi,q1];show some (bN nd.path,g1)=some (bN l,g1);rw [hp]
  obtain ⟨ow,RU⟩:=aH nd.owner;rw [RU] at hcO jL;clear hF hp hi q1 q2 q3 a4 RU;cases B with
  | true=>
   have ho:ow=0:=by simpa using jL
   subst ho;clear jL;go_enter func121,ntmps121;go_wp2_with (first
    | (at_lookup;refine kR _ rfl _ _ 130 rfl 9 _ kM underlying130 (ke _) bn _ D _ MD rfl OD _ (bN l,g1) fK rfl yM ?_)
    | go_in)
   go_ret;exact ⟨rfl,Below.refl _ _⟩
  | false=>
   have ho:(ow==0)=false:=jL;clear jL;go_enter func121,ntmps121;go_wp2_with (first
    | (at_lookup;refine kR _ rfl _ _ 130 rfl 9 _ kM underlying130 (ke _) bn _ D _ MD rfl OD _ (bN l,g1) fK rfl yM ?_)
    | go_in)
   go_ret;exact ⟨rfl,Below.refl _ _⟩}
theorem Vu:∀ (key:Value) (kl:Lit),keyOf prog 9 key=some kl->∃ s:ByteArray,key=.string s:=by
 intro key kl hk;cases key<;>simp [keyOf,underlying9,mapKey] at hk
 exact ⟨_,rfl⟩
theorem Dt {s:ByteArray} (h:keyOf prog 9 (.string s)=some (bN l)):s=aC l:=by
 simp [keyOf,underlying9,mapKey] at h;exact LF h.2
theorem mi (hl:bM l) (hm:bM m):(bN l).sameKey (bN m)=decide (l=m):=by
 rw [Bool.eq_iff_iff,WideAt.sameKey_iff (by trivial),decide_eq_true_iff];exact ⟨fun h=>jD hl hm h,fun h=>by rw [h]⟩
theorem FQ {g:Int} {SB NB HB UB:List Nat} (w:World) (dz:Hid (kc w0 w b bs bn e g x t ss ns SB NB HB UB)) (rh:Hid (∀ nd∈ns,bM nd.path/\nd.path.length<=1048576)) (B:Bool) (eB:Hid (ns.all (fun nd=>dw ns (dm nd.path))=B)) :
  Calls prog 45 #[.pointer (some ⟨b,0,none⟩)] w fun r w'=>r=.returned (.bool B)/\Bw w w':=by
 have Pb:w.cell? ⟨b,5,none⟩=some (.map (some bn)):=ay dz.hd 5;obtain ⟨D,oD,mD⟩:=dz.me.own;obtain ⟨m,em⟩:=aH ns.length;rw [em] at oD;have aP0:Hid (∀ nd∈ns,bM nd.path):=fun nd h=>(aa rh nd h).1;have MD:=ae mD;go_enter func45,ntmps45;go_wp2_with (first
  | (at_range;refine wpList_range_own _ rfl _ 130 rfl 9 _ kM underlying130 _ bn m _ rfl oD ?_;intro w1 pI uX Hj)
  | go_in)
 go_frame
 go_loopw [3] (fun _ wr=>∃ (left:Lit->Bool) (mV:Nat),wr.ranges prog 9 aZ bn w.heap.size m D left mV/\Hid (∀ nd∈ns,left (bN nd.path)=false->dw ns (dm nd.path)=true)/\Bw w wr) (fun _ wr=>wr.rangeLeft bn w.heap.size)
 case atStart =>(
 refine ⟨_,_,pI,fun nd aV hl=>?_,oO uX⟩;exfalso;obtain ⟨i,hi⟩:=List.getElem?_of_mem aV;obtain ⟨g1,h1,u1,q1,q2,q3⟩:=dz.me.at hi;have:Maps.has D (bN nd.path)=true:=(MD.hs _).2 ⟨(bN nd.path,g1),by rw [List.mem_iff_getElem?];refine ⟨i,?_⟩;rw [List.getElem?_zipWith,hi,q1],rfl⟩
 rw [this] at hl;cases hl)
 case round =>(
 obtain ⟨left,mV,nM,iJ,aR⟩:=hrel;have lr:=ae (dz.below aR);go_wp2_with (first
  | (at_next;refine ir _ rfl _ rfl 9 kM (fun s:ByteArray=>.string s) Vu bn w.heap.size m _ _ MD _ _ rfl nM ?_ ?_)
  | go_in)
 {
 intro _ tJ;have eT:B=true:=by rw [<-aa eB,List.all_eq_true];exact fun nd aV=>aa iJ nd aV (tJ _)
 subst eT;go_wp2;go_ret;exact ⟨rfl,aR⟩};{
 intro s pl g1 w2 vh kp hp Tg uT bj fO gx Bk;obtain ⟨i,nd,g1',hi,yD,ee⟩:=gM hp;simp only [Prod.mk.injEq] at ee;obtain ⟨rfl,rfl⟩:=ee;have cX:Bw w w2:=bR aR fO aR.size (fun j hj=>by cases hj;exact Nat.le_refl _);obtain rfl:=Dt kp;have aV:=aF hi;obtain ⟨vG,jL⟩:=aa rh nd aV;obtain ⟨T,eT⟩:=aH (dw ns (dm nd.path));have ET:=ae eT;have HF:Hid (T=false->B=false):=fun h=>by rw [<-aa eB,List.all_eq_false];exact ⟨nd,aV,by rw [eT,h];simp⟩
 have HT:Hid (T=true->Hid (∀ nd'∈ns,(fun z=>left z&&!z.sameKey (bN nd.path)) (bN nd'.path)=false->dw ns (dm nd'.path)=true)):=fun h nd' ab3 hl=>by simp only [mi (aa rh nd' ab3).1 vG] at hl;by_cases ep:nd'.path=nd.path;{rw [ep,eT,h]};{simp [ep] at hl;exact iJ nd' ab3 hl}
 have jN:Hid (bM nd.path):=vG;have ra:=ae (mc vG);have jR:(dm nd.path).length<=1048577:=by unfold dm;split;{simp};{rw [List.length_take];omega}
 have ba3:=ae (dz.below cX);have Wh:(Instr.entry (.pointer (some ⟨w.heap.size,0,none⟩))).run prog w2=.ok (.tuple #[.string (aC nd.path),.pointer (some ⟨g1,0,none⟩)]) w2:=Bk;go_wp2_with fail;refine (mJ nd.path _ cw jN jL _).mono ?_;rintro r w3 ⟨rfl,rfl⟩;go_wp2_with fail;refine (Ec (dm nd.path) _ ba3 ra aP0 jR T ET).mono ?_;rintro r w4 ⟨rfl,gL⟩;have b4:=ah cX gL;cases T with
 | false=>
  have eF:=aa HF rfl;subst eF;go_wp2;go_ret;exact ⟨rfl,b4⟩
 | true=>
  have zb:=aa HT rfl;have xm:=uT.kept (az gL none) aU aU;go_wp2;go_roundw
  case rel=>exact ⟨_,vh,xm,zb,b4⟩
  case measure=>rw [xm.left_eq,nM.left_eq];exact bj})
def sS (nd:aD) (i:Int):Prop:=(nd.owner≠0/\i=nd.owner)\/i∈nd.holders\/i∈nd.watchers
theorem db.del {s:List Int} (h:db D s) (i:Int):db (D.del (.U i)) (s.filter fun j=>decide (j≠i)):=by
 intro k';by_cases e:k'=.U i;{subst e;rw [Maps.has_del_same];simp};{rw [Maps.has_del_other e,h k'];constructor;{rintro ⟨j,hj,rfl⟩;refine ⟨j,?_,rfl⟩;rw [List.mem_filter];exact ⟨hj,by simpa using fun hh=>e (by rw [hh])⟩};{rintro ⟨j,hj,rfl⟩;exact ⟨j,(List.mem_filter.1 hj).1,rfl⟩}}
theorem aH0:∀ (key:Value) (kl:Lit),keyOf prog 23 key=some kl->∃ i:Int,key=.U i:=by
 intro key kl hk;obtain ⟨x,rfl,_⟩:=keyOf_int_inv underlying23 hk;exact ⟨x,rfl⟩
theorem nI.uniq {w0 w:World} {NB HB UB:List Nat} (h:nI w0 w bn ns NB HB UB) {nd':aD} (hi:ns[i]?=some nd) (hj:ns[j]?=some nd') (hp:nd.path=nd'.path):nd=nd':=by
 obtain ⟨D,_,mD⟩:=h.own;obtain ⟨g1,_,_,q1,_,_⟩:=h.at hi;obtain ⟨g2,_,_,q2,_,_⟩:=h.at hj;have m1:(bN nd.path,g1)∈List.zipWith (fun (nd:aD) g=>(bN nd.path,g)) ns NB:=by rw [List.mem_iff_getElem?];exact ⟨i,by rw [List.getElem?_zipWith,hi,q1]⟩
 have m2:(bN nd'.path,g2)∈List.zipWith (fun (nd:aD) g=>(bN nd.path,g)) ns NB:=by rw [List.mem_iff_getElem?];exact ⟨j,by rw [List.getElem?_zipWith,hj,q2]⟩
 have e1:=mD.at' _ m1 .nil;have e2:=mD.at' _ m2 .nil;simp only [hp] at e1;simp only at e2;rw [e1] at e2;simp only [DataW.lit.injEq,Lit.int.injEq,true_and,Int.natCast_inj] at e2;subst e2;have l1:=(aN.1 q1).1;have l2:=(aN.1 q2).1;have uV:=List.pairwise_iff_getElem.1 h.me;have v1:=(aN.1 q1).2;have v2:=(aN.1 q2).2;have:i=j:=by rcases Nat.lt_trichotomy i j with hh | hh | hh;{exact absurd (v1.trans v2.symm) (uV i j l1 l2 hh)};{exact hh};{exact absurd (v2.trans v1.symm) (uV j i l2 l1 hh)}
 subst this;rw [hi] at hj;cases hj
 rfl
theorem yl {g:Int} {SB NB HB UB:List Nat} (w:World) (dz:Hid (kc w0 w b bs bn e g x t ss ns SB NB HB UB)) (rh:Hid (∀ nd∈ns,bM nd.path/\nd.holders.length<=1048576/\nd.watchers.length<=1048576)) (OQ:Hid (∀ nd∈ns,0<=nd.owner/\nd.owner<18446744073709551616)) (m:Nat) (em:Hid (ns.length=m)) (hm:m<=1048576) (n:Nat) (en:Hid (ss.length=n)) :
  Calls prog 46 #[.pointer (some ⟨b,0,none⟩)] w fun r w'=>∃ nb k D s,r=.returned (.map (some nb))/\w'.ownsMap prog 23 unitElem nb k D/\db D s/\(∀ i,i∈s↔(∃ nd∈ns,sS nd i)/\¬ ∃ z∈ss,z.1=i)/\Bw w w':=by
 have Pb:w.cell? ⟨b,5,none⟩=some (.map (some bn)):=ay dz.hd 5;have DO:w.cell? ⟨b,4,none⟩=some (.map (some bs)):=ay dz.hd 4;have Cf:b<w.heap.size:=aG dz.hd;obtain ⟨D,oD,mD⟩:=dz.me.own;obtain ⟨Ds,oS,mS⟩:=dz.ses.own;rw [aa em] at oD;rw [aa en] at oS;have MD:=ae mD;have MS:=ae mS;have OS:=ae oS;have Fy:=ae DO;have Be:=@run_makeMap prog;have b1:Bw w (w.alloc (.map #[] 0)):=aJ.alloc aA _;have bV5:=af Pb b1;have oD1:=oD.alloc (.map #[] 0);go_enter func46,ntmps46;go_wp2_with (first
  | (at_range;refine wpList_range_own _ rfl _ 130 rfl 9 _ kM underlying130 _ bn m _ rfl oD1 ?_;intro w1 pI uX Hj)
  | go_in)
 go_frame
 have iT:(w.alloc (.map #[] 0)).heap.size=w.heap.size+1:=aU;have bq:Bw w w1:=ah b1 (oO uX);have o0:w1.ownsMap prog 23 (unitElem (H:=Unit)) w.heap.size 0 (.map []):=(World.ownsMap_made w _ _ _).kept uX aU;rw [iT] at pI ⊢;have HZ1:=ae iT
 go_loopw [5] (fun _ wr=>∃ (left:Lit->Bool) (mV k:Nat) (E:DataW Unit) (s:List Int),wr.ranges prog 9 aZ bn (w.heap.size+1) m D left mV/\k+mV*2097153<=m*2097153/\wr.ownsMap prog 23 unitElem w.heap.size k E/\Hid (db E s/\∀ i,i∈s↔∃ nd∈ns,left (bN nd.path)=false/\sS nd i)/\Bw w wr) (fun _ wr=>wr.rangeLeft bn (w.heap.size+1))
 case atStart =>(
 refine ⟨_,_,0,_,[],pI,?_,o0,⟨db.nil,fun i=>?_⟩,bq⟩;{have:=oD.size_le;omega};{
 constructor;{intro h;cases h};{
 rintro ⟨nd,aV,hl,_⟩;exfalso;obtain ⟨i,hi⟩:=List.getElem?_of_mem aV;obtain ⟨g1,h1,u1,q1,q2,q3⟩:=dz.me.at hi;have:Maps.has D (bN nd.path)=true:=(MD.hs _).2 ⟨(bN nd.path,g1),by rw [List.mem_iff_getElem?];refine ⟨i,?_⟩;rw [List.getElem?_zipWith,hi,q1],rfl⟩
 rw [this] at hl;cases hl}})
 case round =>(
 obtain ⟨left,mV,k,E,s,nM,hkc,br,nG,aR⟩:=hrel;go_wp2_with (first
  | (at_next;refine ir _ rfl _ rfl 9 kM (fun s:ByteArray=>.string s) Vu bn (w.heap.size+1) m _ _ (aa MD) _ _ (by first | rfl | (rw [<-aa HZ1];rfl)) nM ?_ ?_)
  | go_in)
 {
 intro _ tJ;have gx:Hid (∀ i,i∈s↔∃ nd∈ns,sS nd i):=fun i=>by rw [nG.2 i];constructor;{rintro ⟨nd,h1,_,h2⟩;exact ⟨nd,h1,h2⟩};{rintro ⟨nd,h1,h2⟩;exact ⟨nd,h1,tJ _,h2⟩}
 have DC:=ae nG.1;have DO:=af Fy aR;have oS1:=OS.kept (az aR none) aU;obtain ⟨Y,eY⟩:=ax wr;subst eY;go_wp2_with (first
  | (at_range;refine wpList_range_own _ rfl _ 129 rfl 23 _ gR underlying129 _ bs n _ rfl oS1 ?_;intro w3 si uA hs3)
  | go_in)
 go_frame
 have zL:=br.kept uA aU;have de:Bw w w3:=bR aR uA aR.size (fun j hj=>by cases hj);have mG:w.heap.size<Y.heap.size:=br.lt
 go_loopw [6] (fun _ wr=>∃ (left:Lit->Bool) (mV:Nat) (E:DataW Unit) (s':List Int),wr.ranges prog 23 aZ bs Y.heap.size n Ds left mV/\wr.ownsMap prog 23 unitElem w.heap.size k E/\Hid (db E s'/\∀ i,i∈s'↔i∈s/\¬ ∃ z∈ss,z.1=i/\left (.U i)=false)/\Bw w wr) (fun _ wr=>wr.rangeLeft bs Y.heap.size)
 case atStart =>(
 refine ⟨_,_,E,s,si,zL,⟨DC,fun i=>?_⟩,de⟩;constructor;{
 intro hi;refine ⟨hi,?_⟩;rintro ⟨z,hz,rfl,hl⟩;obtain ⟨j,hj⟩:=List.getElem?_of_mem hz;obtain ⟨gz,Rg⟩:∃ gz,SB[j]?=some gz:=⟨_,aK (by rw [dz.ses.len];exact (aN.1 hj).1)⟩;have:Maps.has Ds (.U z.1)=true:=(MS.hs _).2 ⟨(.U z.1,gz),by rw [List.mem_iff_getElem?];exact ⟨j,by rw [List.getElem?_zipWith,hj,Rg]⟩,rfl⟩
 rw [this] at hl;cases hl};{exact fun h=>h.1})
 case round =>(
 obtain ⟨left,mV,E1,s',nM,nj,nG,aR⟩:=hrel;go_wp2_with (first
  | (at_next;refine ir _ rfl _ rfl 23 gR (fun i:Int=>.int .u64 i) aH0 bs Y.heap.size n _ _ MS _ _ rfl nM ?_ ?_)
  | go_in)
 {intro _ tJ;have HS:=aa nG;go_wp2;go_ret;refine ⟨w.heap.size,k,E1,s',rfl,nj,HS.1,fun i=>?_,aR⟩;rw [HS.2 i,aa gx i];constructor;{rintro ⟨h1,h2⟩;exact ⟨h1,fun ⟨z,hz,e⟩=>h2 ⟨z,hz,e,tJ _⟩⟩};{rintro ⟨h1,h2⟩;exact ⟨h1,fun ⟨z,hz,e,_⟩=>h2 ⟨z,hz,e⟩⟩}};{
 intro i0 pl g1 w4 vh kp hp Tg uT bj fO aa0 Bk;obtain ⟨j,z,g1',hj,hgj,ee⟩:=gM hp;simp only [Prod.mk.injEq] at ee;obtain ⟨rfl,rfl⟩:=ee;obtain ⟨i1,e1,e2,ZQ⟩:=keyOf_int_inv underlying23 kp;simp only [Value.int.injEq,true_and] at e1;simp only [Lit.int.injEq,true_and] at e2;subst e1;subst e2;have gL:Bw w w4:=bR aR fO aR.size (fun j hj=>by cases hj;omega);have uw:=nj.kept fO dx;have Wh:(Instr.entry (.pointer (some ⟨Y.heap.size,0,none⟩))).run prog w4=.ok (.tuple #[.U z.1,.pointer (some ⟨g1,0,none⟩)]) w4:=Bk;have Gx:Hid (db (E1.del (.U z.1)) (s'.filter fun j=>decide (j≠z.1))/\∀ i,i∈(s'.filter fun j=>decide (j≠z.1))↔i∈s/\¬ ∃ y∈ss,y.1=i/\(fun q=>left q&&!q.sameKey (.U z.1)) (.U i)=false):=by
  refine ⟨nG.1.del z.1,fun i=>?_⟩;rw [List.mem_filter,nG.2 i];have hk:((Lit.U i).sameKey (.U z.1)=true)↔i=z.1:=by rw [WideAt.sameKey_iff (by trivial)];simp
  by_cases ei:i=z.1;{subst ei;simp only [ne_eq,not_true_eq_false,decide_false,Bool.false_eq_true,and_false,false_iff];rintro ⟨_,h2⟩;exact h2 ⟨z,aF hj,rfl,by simp [hk.2 rfl]⟩};{simp [ei,show (Lit.U i).sameKey (.U z.1)=false by (rw [Bool.eq_false_iff];exact fun h=>ei (hk.1 h))]}
 go_wp2_with (first
  | (at_delete;refine wpList_delete_own _ rfl _ _ 84 23 rfl _ gR underlying84 unitElem w.heap.size k _ rfl uw _ _ rfl (keyOf_int_mk underlying23 ZQ) ?_;intro w5 xn Vy;go_frame)
  | go_in)
 have qh:=Vy.grown;have ew:Bw w w5:=bR gL qh gL.size (fun j hj=>by cases hj;exact Nat.le_refl _);have tG:=uT.kept qh (by have:=OS.lt;simp;omega) dx;go_roundw
 case rel=>exact ⟨_,vh,_,_,tG,xn,Gx,ew⟩
 case measure=>rw [tG.left_eq,nM.left_eq];exact bj})}
 {
 intro sb pl g1 w2 vh kp hp Tg uT bj fO gx Bk;obtain ⟨i,nd,g1',hi,yD,ee⟩:=gM hp;simp only [Prod.mk.injEq] at ee;obtain ⟨rfl,rfl⟩:=ee;have cX:Bw w w2:=bR aR fO aR.size (fun j hj=>by cases hj;omega);obtain rfl:=Dt kp;have aV:=aF hi;obtain ⟨vG,Cd,uW⟩:=aa rh nd aV;obtain ⟨g2,h1,u1,q1,q2,q3⟩:=dz.me.at hi;rw [yD] at q1;cases q1;obtain ⟨_,_,_,⟨V,a4,_⟩,⟨Dh,oh,sh⟩,⟨Du,ou,su⟩⟩:=dz.me.aI i nd g1 h1 u1 hi yD q2 q3;have DK:g1<w.heap.size:=aG a4;have k1:w.cell? ⟨g1,1,none⟩=some (.U nd.owner):=ay a4 1;have k3:w.cell? ⟨g1,3,none⟩=some (.map (some h1)):=ay a4 3;have k6:w.cell? ⟨g1,6,none⟩=some (.map (some u1)):=ay a4 6;have SH:=ae sh;have SU:=ae su;have xr:=br.kept fO (by first | (simp;done) | (simp;omega));have Wh:(Instr.entry (.pointer (some ⟨w.heap.size+1,0,none⟩))).run prog w2=.ok (.tuple #[.string (aC nd.path),.pointer (some ⟨g1,0,none⟩)]) w2:=Bk;have YN:∀ i:Int,((i∈s\/(nd.owner≠0/\i=nd.owner))\/i∈nd.holders)\/i∈nd.watchers↔∃ nd'∈ns,(fun z=>left z&&!z.sameKey (bN nd.path)) (bN nd'.path)=false/\sS nd' i:=by intro i0;rw [nG.2 i0];constructor;{rintro (((⟨nd',h1,h2,h3⟩ | h) | h) | h);{exact ⟨nd',h1,by simp [h2],h3⟩};{exact ⟨nd,aV,by simp [mi vG vG],.inl h⟩};{exact ⟨nd,aV,by simp [mi vG vG],.inr (.inl h)⟩};{exact ⟨nd,aV,by simp [mi vG vG],.inr (.inr h)⟩}};{rintro ⟨nd',h1,h2,h3⟩;by_cases ep:nd'.path=nd.path;{obtain ⟨j,hj⟩:=List.getElem?_of_mem h1;have:=dz.me.uniq hj hi ep;subst this;rcases h3 with h3 | h3 | h3;{exact .inl (.inl (.inr h3))};{exact .inl (.inr h3)};{exact .inr h3}};{refine .inl (.inl (.inl ⟨nd',h1,?_,h3⟩));simpa [mi (aa rh nd' h1).1 vG,ep] using h2}}
 have hO:=aa OQ nd aV;by_cases ho:nd.owner=0;{
 have d1:=(bQ (cX.block g1 DK) 1).trans k1;have d3:=(bQ (cX.block g1 DK) 3).trans k3;have d6:=(bQ (cX.block g1 DK) 6).trans k6;rw [ho] at d1;have M3:∀ i,i∈s↔i∈s\/(nd.owner≠0/\i=nd.owner):=fun i=>by simp [ho]
 have S3:=ae nG.1;have de:=cX;have zL:=xr;have si:=uT;obtain ⟨w3,e3⟩:=ax w2;obtain ⟨K3,eK⟩:=ax k;obtain ⟨E3,eE⟩:=ax E;obtain ⟨s3,eS⟩:=ax s;have Rt:K3<=k+1:=ab;subst e3 eK eE eS;go_wp2_with fail;refine (uN w.heap.size h1 K3 nd.holders.length E3 Dh s3 nd.holders w3 zL (oh.kept (az de none) aU) S3 SH (by have:=oh.lt;omega) ab Cd).mono ?_;rintro r w4 ⟨E4,s4,rfl,uw,LU,Xn,sw⟩;have gL:Bw w w4:=bR de sw de.size (fun j hj=>by cases hj;exact Nat.le_refl _);have f6:=(bQ (gL.block g1 DK) 6).trans k6;have S4:=ae LU;go_wp2_with fail;refine (uN w.heap.size u1 _ nd.watchers.length E4 Du s4 nd.watchers w4 uw (ou.kept (az gL none) aU) S4 SU (by have:=ou.lt;omega) ab uW).mono ?_;rintro r w5 ⟨E5,s5,rfl,xn,Xm,Mj,qh⟩;have ew:Bw w w5:=bR gL qh gL.size (fun j hj=>by cases hj;exact Nat.le_refl _);have tG:=(si.kept sw (by have:=oD.lt;simp;omega) (by first | (simp;done) | (simp;omega))).kept qh (by have:=oD.lt;simp;omega) (by first | (simp;done) | (simp;omega));have Gx:Hid (db E5 s5/\∀ i,i∈s5↔∃ nd'∈ns,(fun z=>left z&&!z.sameKey (bN nd.path)) (bN nd'.path)=false/\sS nd' i):=⟨Xm,fun i=>by rw [Mj,Xn,M3,YN]⟩
 go_wp2;go_roundw
 case rel=>first | exact ⟨_,vh,tG,_,ab,E5,xn,s5,Gx,ew⟩ | exact ⟨_,vh,_,E5,s5,tG,ab,xn,Gx,ew⟩
 case measure=>rw [tG.left_eq,nM.left_eq];exact bj}
 {
 have JZ:(nd.owner != 0)=true:=by simp [ho]
 have d1:=(bQ (cX.block g1 DK) 1).trans k1;have ac1:keyOf prog 23 (.U nd.owner)=some (.U nd.owner):=keyOf_int_mk underlying23 (jO hO);have M3:∀ i,i∈s++[nd.owner]↔i∈s\/(nd.owner≠0/\i=nd.owner):=fun i=>by simp [ho]
 have S3:=ae (nG.1.put br.isMap nd.owner (.agg []));go_wp2_with (first
  | (at_mapUpdate;refine wpList_mapUpdate_own _ rfl _ _ _ 84 rfl 23 _ gR underlying84 unitElem w.heap.size k _ rfl xr jC _ _ _ rfl rfl ac1 (.agg []) [] unitElem_mk ?_;intro w3 zL Mv;have de:Below w.heap.size w w3:=bR cX Mv cX.size (fun j hj=>by cases hj;exact Nat.le_refl _);have d3:=(bQ (de.block g1 DK) 3).trans k3;have d6:=(bQ (de.block g1 DK) 6).trans k6)
  | fail)
 have si:=uT.kept Mv (by have:=oD.lt;simp;omega) (by first | (simp;done) | (simp;omega));obtain ⟨K3,eK⟩:=ax (k+1);obtain ⟨E3,eE⟩:=ax (E.put (.U nd.owner) (.agg []));obtain ⟨s3,eS⟩:=ax (s++[nd.owner]);have Rt:K3<=k+1:=ab;rw [<-eK,<-eE] at zL;rw [<-eE,<-eS] at S3;rw [<-eS] at M3;refine (uN w.heap.size h1 K3 nd.holders.length E3 Dh s3 nd.holders w3 zL (oh.kept (az de none) aU) S3 SH (by have:=oh.lt;omega) ab Cd).mono ?_;rintro r w4 ⟨E4,s4,rfl,uw,LU,Xn,sw⟩;have gL:Bw w w4:=bR de sw de.size (fun j hj=>by cases hj;exact Nat.le_refl _);have f6:=(bQ (gL.block g1 DK) 6).trans k6;have S4:=ae LU;go_wp2_with fail;refine (uN w.heap.size u1 _ nd.watchers.length E4 Du s4 nd.watchers w4 uw (ou.kept (az gL none) aU) S4 SU (by have:=ou.lt;omega) ab uW).mono ?_;rintro r w5 ⟨E5,s5,rfl,xn,Xm,Mj,qh⟩;have ew:Bw w w5:=bR gL qh gL.size (fun j hj=>by cases hj;exact Nat.le_refl _);have tG:=(si.kept sw (by have:=oD.lt;simp;omega) (by first | (simp;done) | (simp;omega))).kept qh (by have:=oD.lt;simp;omega) (by first | (simp;done) | (simp;omega));have Gx:Hid (db E5 s5/\∀ i,i∈s5↔∃ nd'∈ns,(fun z=>left z&&!z.sameKey (bN nd.path)) (bN nd'.path)=false/\sS nd' i):=⟨Xm,fun i=>by rw [Mj,Xn,M3,YN]⟩
 go_wp2;go_roundw
 case rel=>first | exact ⟨_,vh,tG,_,ab,E5,xn,s5,Gx,ew⟩ | exact ⟨_,vh,_,E5,s5,tG,ab,xn,Gx,ew⟩
 case measure=>rw [tG.left_eq,nM.left_eq];exact bj}})
theorem QT (ss:List aY) (ids:List Int):gq ss ids=true↔Nz ids=true/\∀ i∈ids,live ss i=true:=by
 simp only [gq,Nz,iG,List.all_eq_true,List.mem_range,yy,Bool.and_eq_true];constructor;{intro h;refine ⟨fun i hi=>(h i hi).2,fun y hy=>?_⟩;obtain ⟨i,hi,rfl⟩:=List.getElem_of_mem hy;have:=(h i hi).1;rwa [List.getD_eq_getElem?_getD,aK hi] at this};{rintro ⟨h1,h2⟩ i hi;refine ⟨h2 _ ?_,h1 i hi⟩;rw [List.getD_eq_getElem?_getD,aK hi];exact List.getElem_mem hi}
theorem mH {α:Type} (l:List α) (d:α) (f:α->Bool):(∀ i,i<l.length->f (l.getD i d)=true)↔∀ y∈l,f y=true:=by
 constructor;{intro h y hy;obtain ⟨i,hi,rfl⟩:=List.getElem_of_mem hy;have:=h i hi;rwa [List.getD_eq_getElem?_getD,aK hi] at this};{intro h i hi;rw [List.getD_eq_getElem?_getD,aK hi];exact h _ (List.getElem_mem hi)}
theorem Qg (x:Int) (ss:List aY):(List.range ss.length).all (jy x ss)=true↔jh x ss=true:=by
 simp only [jh,iG,List.all_eq_true,List.mem_range,jy,DI,Bool.and_eq_true];constructor;{intro h;exact ⟨fun i hi=>⟨(h i hi).1,(h i hi).2.1,(h i hi).2.2.2⟩,fun i hi=>(h i hi).2.2.1⟩};{rintro ⟨h1,h2⟩ i hi;exact ⟨(h1 i hi).1,(h1 i hi).2.1,h2 i hi,(h1 i hi).2.2⟩}
theorem Qz (e g:Int) (ss:List aY) (ns:List aD):(List.range ns.length).all (iP e g ss ns)=true↔jk e g ns=true/\ns.all (fun nd=>dw ns (dm nd.path))=true/\∀ nd∈ns,∀ i,sS nd i->live ss i=true:=by
 have key:∀ k,iP e g ss ns k=true↔(tz e g (ns.getD k fq)=true/\(k==0||!leB (ns.getD k fq).path (ns.getD (k-1) fq).path)=true)/\dw ns (dm (ns.getD k fq).path)=true/\(fun nd=>decide (nd.owner=0)||live ss nd.owner) (ns.getD k fq)=true/\(fun nd:aD=>nd.holders.all (live ss)) (ns.getD k fq)=true/\(fun nd:aD=>nd.watchers.all (live ss)) (ns.getD k fq)=true:=by
  intro k;simp only [iP,tz,Bool.and_eq_true,QT,List.all_eq_true];have:((ns.getD k fq).owner==0||live ss (ns.getD k fq).owner)=(decide ((ns.getD k fq).owner=0)||live ss (ns.getD k fq).owner):=by
   congr 1
  rw [this];constructor;{rintro ⟨⟨a1,a2⟩,a3,a4,a5,⟨a6,a7⟩,⟨a8,a9⟩,a10⟩;exact ⟨⟨⟨a1,a4,a10,a6,a8⟩,a2⟩,a3,a5,a7,a9⟩};{rintro ⟨⟨⟨a1,a4,a10,a6,a8⟩,a2⟩,a3,a5,a7,a9⟩;exact ⟨⟨a1,a2⟩,a3,a4,a5,⟨a6,a7⟩,⟨a8,a9⟩,a10⟩}
 simp only [jk,iG,List.all_eq_true,List.mem_range,Bool.and_eq_true,key];rw [<-mH ns fq];constructor;{intro h;refine ⟨⟨fun i hi=>(h i hi).1.1,fun i hi=>(h i hi).1.2⟩,fun i hi=>(h i hi).2.1,?_⟩;have h3:=(mH ns fq (fun nd=>decide (nd.owner=0)||live ss nd.owner)).1 (fun i hi=>(h i hi).2.2.1);have h4:=(mH ns fq (fun nd:aD=>nd.holders.all (live ss))).1 (fun i hi=>List.all_eq_true.2 (h i hi).2.2.2.1);have h5:=(mH ns fq (fun nd:aD=>nd.watchers.all (live ss))).1 (fun i hi=>List.all_eq_true.2 (h i hi).2.2.2.2);rintro nd aV i (⟨h1,rfl⟩ | h1 | h1);{have:=h3 nd aV;simpa [h1] using this};{exact List.all_eq_true.1 (h4 nd aV) i h1};{exact List.all_eq_true.1 (h5 nd aV) i h1}};{rintro ⟨⟨h1,h2⟩,h3,h4⟩ i hi;refine ⟨⟨h1 i hi,h2 i hi⟩,h3 i hi,?_,?_,?_⟩;{refine (mH ns fq (fun nd=>decide (nd.owner=0)||live ss nd.owner)).2 (fun nd aV=>?_) i hi;by_cases ho:nd.owner=0;{simp [ho]};{simp [ho,h4 nd aV nd.owner (.inl ⟨ho,rfl⟩)]}};{exact List.all_eq_true.1 ((mH ns fq (fun nd:aD=>nd.holders.all (live ss))).2 (fun nd aV=>List.all_eq_true.2 fun j hj=>h4 nd aV j (.inr (.inl hj))) i hi)};{exact List.all_eq_true.1 ((mH ns fq (fun nd:aD=>nd.watchers.all (live ss))).2 (fun nd aV=>List.all_eq_true.2 fun j hj=>h4 nd aV j (.inr (.inr hj))) i hi)}}
theorem Cv (e g x t:Int) (ss:List aY) (ns:List aD):jY e g x t ss ns=true↔wS e g x t ss.length ns.length=true/\jh x ss=true/\jk e g ns=true/\ns.all (fun nd=>dw ns (dm nd.path))=true/\∀ nd∈ns,∀ i,sS nd i->live ss i=true:=by
 rw [jY,Bool.and_eq_true,Bool.and_eq_true,Qg,Qz];exact Iff.rfl
theorem Di (ss:List aY) (i:Int):live ss i=true↔∃ z∈ss,z.1=i:=by
 rw [live,List.any_eq_true];simp
theorem vk:∀ a:List UInt8,Op.bytesLess a a=false
 | []=>rfl
 | x::a=>by simp [Op.bytesLess,vk a,UInt8.lt_irrefl]
theorem sO:∀ {a b c:List UInt8},Op.bytesLess a b=true->Op.bytesLess b c=true->Op.bytesLess a c=true
 | _,[],_,h,_=>by simp [Op.bytesLess] at h
 | _,_::_,[],_,h=>by simp [Op.bytesLess] at h
 | [],_::_,_::_,_,_=>rfl
 | x::a,y::b,z::c,h,k=>by simp only [Op.bytesLess,Bool.or_eq_true,decide_eq_true_eq,Bool.and_eq_true,beq_iff_eq] at h k ⊢;rcases h with h | ⟨rfl,h⟩;{rcases k with k | ⟨rfl,k⟩;{exact .inl (UInt8.lt_trans h k)};{exact .inl h}};{rcases k with k | ⟨rfl,k⟩;{exact .inl k};{exact .inr ⟨rfl,sO h k⟩}}
theorem Ee:∀ {a b:List UInt8},Op.bytesLess a b=false->a≠b->Op.bytesLess b a=true
 | [],[],_,h=>absurd rfl h
 | [],_::_,h,_=>by simp [Op.bytesLess] at h
 | _::_,[],_,_=>rfl
 | x::a,y::b,h,gd=>by
  simp only [Op.bytesLess,Bool.or_eq_false_iff,decide_eq_false_iff_not] at h;simp only [Op.bytesLess,Bool.or_eq_true,decide_eq_true_eq,Bool.and_eq_true,beq_iff_eq];by_cases hxy:x=y;{
 subst hxy
 right
 refine ⟨rfl,Ee ?_ (fun e=>gd (by rw [e]))⟩;simpa using h.2};{exact .inl (UInt8.lt_of_le_of_ne (UInt8.not_lt.1 h.1) (Ne.symm hxy))}
theorem sP {n:Nat} {lt:Nat->Nat->Bool} (h:iG n lt=true) (tr:∀ i j k,lt i j=true->lt j k=true->lt i k=true):∀ (j i:Nat),j<n->i<j->lt i j=true:=by
 have hs:∀ j,j+1<n->lt j (j+1)=true:=fun j hj=>by have:=List.all_eq_true.1 h (j+1) (List.mem_range.2 hj);simpa using this
 intro j
 induction j with
 | zero=>intro i _ hi;omega
 | succ j ih=>
  intro i hj hi;by_cases e:i=j;{subst e;exact hs i hj};{exact tr i j (j+1) (ih i ab ab) (hs j hj)}
theorem yY (h:jh x ss=true):∀ (i j:Nat) (s s':aY),ss[i]?=some s->ss[j]?=some s'->i<j->s.1≠s'.1:=by
 intro i j s s' hi hj jc;rw [jh,Bool.and_eq_true] at h;have:=sP h.2 (fun i j k h1 h2=>by simp at h1 h2 ⊢;omega) j i (aN.1 hj).1 jc;simp only [List.getD_eq_getElem?_getD,hi,hj,Option.getD_some,decide_eq_true_eq] at this;omega
theorem oQ :(!leB l m)=true↔Op.bytesLess (aC m).toList (aC l).toList=true:=by
 simp only [leB,Bool.not_eq_true',Bool.or_eq_false_iff,beq_eq_false_iff_ne];constructor;{rintro ⟨h1,h2⟩;exact Ee h1 h2};{intro h;refine ⟨?_,fun e=>?_⟩;{rw [Bool.eq_false_iff];intro h2;have:=sO h h2;rw [vk] at this;cases this};{rw [e,vk] at h;cases h}}
theorem zy {g:Int} (h:jk e g ns=true):∀ (i j:Nat) (z z':aD),ns[i]?=some z->ns[j]?=some z'->i<j->z.path≠z'.path:=by
 intro i j z z' hi hj jc;rw [jk,Bool.and_eq_true] at h;have:=sP h.2 (fun i j k h1 h2=>oQ.2 (sO (oQ.1 h1) (oQ.1 h2))) j i (aN.1 hj).1 jc;simp only [List.getD_eq_getElem?_getD,hi,hj,Option.getD_some] at this;intro e;rw [e,oQ,vk] at this;cases this
theorem GO (h:jh x ss=true) (hx:x<=4611686018427387904):∀ s∈ss,0<=s.1/\s.1<18446744073709551616:=by
 rw [jh,Bool.and_eq_true,List.all_eq_true] at h;have H:=(mH ss (0,0,[]) (DI x)).1 fun i hi=>h.1 i (List.mem_range.2 hi);intro s hs;have:=H s hs;simp only [DI,Bool.and_eq_true,decide_eq_true_eq] at this;omega
theorem LJ (e g x t:Int) (p q:Option Addr) (c n d m:Nat) (ss:List aY) (ns:List aD) (en:Hid (ss.length=n)) (em:Hid (ns.length=m)) (w:World) (h:ic w (.S p n c) ss) (hN:kJ w (.S q m d) ns) (hn:n<=1048576) (hm:m<=1048576)
  (nO:Hid (∀ s∈ss,s.2.2.length<=1048576/\∀ e∈s.2.2,bM e.2/\e.2.length<=1048576))
  (fI:Hid (∀ nd∈ns,bM nd.path/\nd.path.length<=1048576/\nd.value.length<=1048576/\nd.holders.length<=1048576/\nd.watchers.length<=1048576))
  (IY:Hid (∀ nd∈ns,(∀ i∈nd.holders,0<=i/\i<18446744073709551616)/\∀ i∈nd.watchers,0<=i/\i<18446744073709551616))
  (OQ:Hid (∀ nd∈ns,0<=nd.owner/\nd.owner<18446744073709551616)) (Aa:ML w) (B:Bool) (eB:Hid (jY e g x t ss ns=B)) :
  Calls prog 15 #[cY e g x t (.S p n c) (.S q m d)] w fun r w'=>r=.returned (.bool B)/\Bw w w':=by
 have HR:=ae fun (w':World) (hb:Bw w w')=>ag (h.below hb) (ag (hN.below hb) (Aa.below hb));have HI:Hid (B=true↔wS e g x t n m=true/\jh x ss=true/\jk e g ns=true/\ns.all (fun nd=>dw ns (dm nd.path))=true/\∀ nd∈ns,∀ i,sS nd i->live ss i=true):=by show _↔_;rw [<-aa eB,Cv,aa en,aa em]
 obtain ⟨T1,E1⟩:∃ T,Hid (wS e g x t n m=T):=⟨_,cw⟩;obtain ⟨T2,E2⟩:∃ T,Hid (jh x ss=T):=⟨_,cw⟩;obtain ⟨T3,E3⟩:∃ T,Hid (jk e g ns=T):=⟨_,cw⟩;obtain ⟨T4,E4⟩:∃ T,Hid (ns.all (fun nd=>dw ns (dm nd.path))=T):=⟨_,cw⟩;obtain ⟨W,hW⟩:=ax (w.alloc (.cells #[.U e,.U g,.U x,.I t,.S p n c,.S q m d] 27));have bW:=ju hW;have Pa:lX W w.heap.size e g x t (.S p n c) (.S q m d):=by rw [hW];simp [lX]
 have Pz:=ae Pa;go_enter func15,ntmps15;go_wp2_with fail;rw [<-hW];refine (Fm e g x t p q c n d m _ hn hm T1 E1).mono ?_;rintro r w1 ⟨rfl,bq⟩;have b1:=ah bW bq;cases T1 with
 | false=>
  have eF:B=false:=by rw [Bool.eq_false_iff];intro hB;have:=(HI.1 hB).1;rw [aa E1] at this;cases this
  subst eF;go_wp2;go_ret;exact ⟨rfl,b1⟩
 | true=>
  obtain ⟨i0,i1,i2,i3,i4,i5⟩:=Pz.below bq;go_wp2_with fail;refine (rC e g x t p c n _ ss en _ (aa HR _ b1).1 hn nO (aa HR _ b1).2.2 T2 E2).mono ?_;rintro r w2 ⟨rfl,cX⟩;have b2:=ah b1 cX;cases T2 with
  | false=>
   have eF:B=false:=by rw [Bool.eq_false_iff];intro hB;have:=(HI.1 hB).2.1;rw [aa E2] at this;cases this
   subst eF;go_wp2;go_ret;exact ⟨rfl,b2⟩
  | true=>
   replace i0:=af i0 cX;replace i1:=af i1 cX;replace i2:=af i2 cX;replace i3:=af i3 cX;replace i4:=af i4 cX;replace i5:=af i5 cX;go_wp2_with fail;refine (vV e g x t _ q d m ns em _ (aa HR _ b2).2.1 hm fI (aa HR _ b2).2.2 T3 E3).mono ?_;rintro r w3 ⟨rfl,de⟩;have b3:=ah b2 de;cases T3 with
   | false=>
    have eF:B=false:=by rw [Bool.eq_false_iff];intro hB;have:=(HI.1 hB).2.2.1;rw [aa E3] at this;cases this
    subst eF;go_wp2;go_ret;exact ⟨rfl,b3⟩
   | true=>
    replace i0:=af i0 de;replace i1:=af i1 de;replace i2:=af i2 de;replace i3:=af i3 de;replace i4:=af i4 de;replace i5:=af i5 de;have hx:x<=4611686018427387904:=by have:=aa E1;simp only [wS,decide_eq_true_eq] at this;exact this.2.2.1
    have H1:=ae (GO E2 hx);have H2:=ae (yY E2);have H3:=ae (zy E3);go_wp2_with fail;refine (BO e g x t p q c n d m ss ns en em _ (aa HR _ b3).1 (aa HR _ b3).2.1 hn hm H1 H2 fI IY H3).mono ?_;rintro r w4 ⟨b,bs,bn,SB,NB,HB,UB,rfl,dz,gL⟩;have b4:=ah b3 gL;have lr:=ae dz;go_wp2_with fail;refine (FQ _ lr (fun nd aV=>⟨(aa fI nd aV).1,(aa fI nd aV).2.1⟩) T4 E4).mono ?_;rintro r w5 ⟨rfl,ew⟩;have b5:=ah b4 ew;cases T4 with
    | false=>
     have eF:B=false:=by rw [Bool.eq_false_iff];intro hB;have:=(HI.1 hB).2.2.2.1;rw [aa E4] at this;cases this
     subst eF;go_wp2;go_ret;exact ⟨rfl,b5⟩
    | true=>
     have ba2:=ae (lr.below ew);go_wp2_with fail;refine (yl _ ba2 (fun nd aV=>⟨(aa fI nd aV).1,(aa fI nd aV).2.2.2⟩) OQ m em hm n en).mono ?_;rintro r w6 ⟨nb,k,D,s,rfl,oD,sD,hs,DP⟩;have b6:=ah b5 DP;have hlen:∀ ty,(Builtin.len_ #[84] ty #[.map (some nb)]).run prog w6=.ok (.I (Maps.size D)) w6:=fun ty=>oD.len underlying84 ty;have il:Maps.size D=0↔s=[]:=sD.Y9 oD.isMap (fun es ee p hp=>by obtain ⟨RN,e',_,hk⟩:=oD.entries gR;rw [ee] at e';cases e';exact hk p hp)
     have hB:B=true↔s=[]:=by rw [aa HI];constructor;{rintro ⟨_,_,_,_,h5⟩;apply List.eq_nil_iff_forall_not_mem.2;intro i hi;obtain ⟨⟨nd,aV,hN⟩,jS⟩:=(hs i).1 hi;exact jS ((Di ss i).1 (h5 nd aV i hN))};{intro Hj;refine ⟨E1,E2,E3,E4,fun nd aV i hN=>?_⟩;rw [Di];by_cases hh:∃ z∈ss,z.1=i;{exact hh};{have:=(hs i).2 ⟨⟨nd,aV,hN⟩,hh⟩;rw [Hj] at this;cases this}}
     have hb:((Maps.size D:Int)==0)=B:=by rw [Bool.eq_iff_iff,hB,<-il];simp
     go_wp2;go_ret;exact ⟨rfl,b6⟩
def kS (s:aY):aY:=(s.1,0,[])
def aF8 (nd:aD):aD:={ nd with watchers:=[] }
theorem oy {w w':World} {R:Value->Option (DataW Unit × List MemPlace)} {b n:Nat} (h:w.ownsMap prog k R b n D) (K:∀ es c,w.heap[b]?=some (.map es c)->w'.heap[b]?=some (.map es c)):w'.ownsMap prog k R b n D:=by
 obtain ⟨es,clock,h1,h2⟩:=h;exact ⟨es,clock,K _ _ h1,h2⟩
def mC (w w':World):Prop:=(∀ (z:Nat) (cs:Array Value) (ty:TypeId),w.heap[z]?=some (.cells cs ty)->w'.heap[z]?=some (.cells cs ty))/\∀ (z:Nat) (es:Array MapEntry) (c:Nat),w.heap[z]?=some (.map es c)->w'.heap[z]?=some (.map es c)
theorem kc.same {w0 w w':World} {g:Int} {SB NB HB UB:List Nat} (h:kc w0 w b bs bn e g x t ss ns SB NB HB UB) (K:mC w w'):kc w0 w' b bs bn e g x t ss ns SB NB HB UB:=by
 refine ⟨K.1 _ _ _ h.hd,⟨h.ses.len,?_,fun i s gb hs hg=>?_,h.ses.me⟩,⟨h.me.len,h.me.Fp,h.me.Fo,?_,fun i nd gb hh uu hs hg h1 h2=>?_,h.me.me,h.me.BF⟩,h.lo,h.BF⟩;{obtain ⟨D,o,m⟩:=h.ses.own;exact ⟨D,oy o (K.2 _),m⟩};{obtain ⟨q0,u,q1,q2⟩:=h.ses.aI i s gb hs hg;exact ⟨q0,u,K.1 _ _ _ q1,q2⟩};{obtain ⟨D,o,m⟩:=h.me.own;exact ⟨D,oy o (K.2 _),m⟩};{obtain ⟨q0,q1,q2,⟨V,q3,q4⟩,⟨D1,o1,m1⟩,⟨D2,o2,m2⟩⟩:=h.me.aI i nd gb hh uu hs hg h1 h2;exact ⟨q0,q1,q2,⟨V,K.1 _ _ _ q3,q4⟩,⟨D1,oy o1 (K.2 _),m1⟩,⟨D2,oy o2 (K.2 _),m2⟩⟩}
theorem mC.grown {w w':World} (hg:w.grownBy w' none):mC w w':=⟨fun z cs ty h=>(hg.block z (aG h) (by simp)).trans h,fun z es c h=>(hg.block z (aG h) (by simp)).trans h⟩
theorem mC.next {w w':World} {r:Nat} {R:Value->Option (DataW Unit × List MemPlace)} {b n:Nat} (hr:w.ranges P k R b r n D left mV) (hg:w.grownBy w' (some r)):mC w w':=by
 obtain ⟨es,clock,since,seen,c0,-,-,-,-,hi,-⟩:=hr;refine ⟨fun z cs ty h=>(hg.block z (aG h) ?_).trans h,fun z es c h=>(hg.block z (aG h) ?_).trans h⟩ <;>
 {intro e;cases e;rw [hi] at h;cases h}
theorem CG {w w':World} {R:Value->Option (DataW Unit × List MemPlace)} {b r n:Nat} (h:w.ranges P k R b r n D left mV) (h1:w'.heap[b]?=w.heap[b]?) (h2:w'.heap[r]?=w.heap[r]?):w'.ranges P k R b r n D left mV:=by
 obtain ⟨es,clock,since,seen,c0,hb,F,hs,hD,hr,rest⟩:=h;exact ⟨es,clock,since,seen,c0,h1.trans hb,F,hs,hD,h2.trans hr,rest⟩
theorem kc.al9 {w0 w w':World} {g:Int} {SB NB HB UB:List Nat} (h:kc w0 w b bs bn e g x t ss ns SB NB HB UB) {gs:Nat} (hs:ss[i]?=some s) (qN:SB[i]?=some gs) (d:Int) (u:Value) (q:List Ev)
  (hb:w'.heap[gs]?=some (.cells #[.U s.1,.I d,u] 35)) (hu:jJ w0 u q) (hk:∀ z,z≠gs->w'.heap[z]?=w.heap[z]?):kc w0 w' b bs bn e g x t (ss.set i (s.1,d,q)) ns SB NB HB UB:=by
 have Bg:=(aN.1 hs).1;obtain ⟨q0,u0,q1,-⟩:=h.ses.aI i s gs hs qN;have hm:∀ {k:TypeId} {R:Value->Option (DataW Unit × List MemPlace)} {z n:Nat} {D:DataW Unit},w.ownsMap prog k R z n D->w'.heap[z]?=w.heap[z]?:=fun {k R z n D} o=>hk _ (fun e=>jv o q1 e.symm);have hc:∀ {z:Nat} {cs:Array Value} {ty:TypeId},w.heap[z]?=some (.cells cs ty)->ty≠35->w'.heap[z]?=some (.cells cs ty):=fun {z cs ty} hz ht=>(hk _ (fun e=>by rw [e,q1] at hz;simp at hz;exact ht hz.2.symm)).trans hz
 refine ⟨hc h.hd bl,⟨by simp [h.ses.len],?_,fun j s' gb uS sy=>?_,h.ses.me⟩,⟨h.me.len,h.me.Fp,h.me.Fo,?_,fun i nd gb hh uu hs hg h1 h2=>?_,h.me.me,h.me.BF⟩,h.lo,h.BF⟩;{
 obtain ⟨D,o,m⟩:=h.ses.own;refine ⟨D,by rw [List.length_set];exact oy o (fun es c hh=>(hm o).trans hh),?_⟩;have e:List.zipWith (fun (s:aY) g=>(Lit.U s.1,g)) (ss.set i (s.1,d,q)) SB=List.zipWith (fun (s:aY) g=>(Lit.U s.1,g)) ss SB:=by refine List.ext_getElem? fun j=>?_;rw [List.getElem?_zipWith,List.getElem?_zipWith,List.getElem?_set];by_cases ej:i=j;{subst ej;rw [if_pos rfl,if_pos Bg,hs,qN]};{simp [ej]}
 rw [e];exact m};{rw [List.getElem?_set] at uS;by_cases ej:i=j;{subst ej;rw [qN] at sy;cases sy;simp [Bg] at uS;subst uS;exact ⟨q0,u,hb,hu⟩};{simp [ej] at uS;obtain ⟨p0,u',p1,p2⟩:=h.ses.aI j s' gb uS sy;refine ⟨p0,u',(hk _ (fun e=>?_)).trans p1,p2⟩;have l1:=(aN.1 qN).1;have l2:=(aN.1 sy).1;have uV:=List.pairwise_iff_getElem.1 h.ses.me;have v1:=(aN.1 qN).2;have v2:=(aN.1 sy).2;rcases Nat.lt_trichotomy i j with hh | hh | hh;{exact uV i j l1 l2 hh (by rw [v1,v2,e])};{exact ej hh};{exact uV j i l2 l1 hh (by rw [v1,v2,e])}}};{obtain ⟨D,o,m⟩:=h.me.own;exact ⟨D,oy o (fun es c hh=>(hm o).trans hh),m⟩};{obtain ⟨q0,q1,q2,⟨V,q3,q4⟩,⟨D1,o1,m1⟩,⟨D2,o2,m2⟩⟩:=h.me.aI i nd gb hh uu hs hg h1 h2;exact ⟨q0,q1,q2,⟨V,hc q3 bl,q4⟩,⟨D1,oy o1 (fun es c hh=>(hm o1).trans hh),m1⟩,⟨D2,oy o2 (fun es c hh=>(hm o2).trans hh),m2⟩⟩}
theorem IG {l:List Nat} (h:l.Nodup) {a:Nat} (hi:l[i]?=some a) (hj:l[j]?=some a):i=j:=by
 have l1:=(aN.1 hi).1;have l2:=(aN.1 hj).1;have uV:=List.pairwise_iff_getElem.1 h;have v1:=(aN.1 hi).2;have v2:=(aN.1 hj).2;rcases Nat.lt_trichotomy i j with hh | hh | hh;{exact absurd (v1.trans v2.symm) (uV i j l1 l2 hh)};{exact hh};{exact absurd (v2.trans v1.symm) (uV j i l2 l1 hh)}
theorem kc.ap7 {w0 w w':World} {g:Int} {SB NB HB UB:List Nat} (h:kc w0 w b bs bn e g x t ss ns SB NB HB UB) {ub:Nat} (hs:ns[i]?=some nd) (hub:UB[i]?=some ub)
  (hb:w'.ownsMap prog 23 (unitElem (H:=Unit)) ub 0 (.map [])) (hk:∀ z,z≠ub->w'.heap[z]?=w.heap[z]?):kc w0 w' b bs bn e g x t ss (ns.set i (aF8 nd)) SB NB HB UB:=by
 have Bg:=(aN.1 hs).1;have Wi:=h.BF;simp only [List.nodup_cons,List.mem_cons,List.mem_append,not_or] at Wi;obtain ⟨⟨-,d1,d2⟩,⟨d3,d4⟩,d5⟩:=Wi;rw [List.nodup_append] at d5;obtain ⟨-,d6,d7⟩:=d5;have hum:ub∈UB:=aF hub;obtain ⟨gi,O0,ui,z1,z2,z3⟩:=h.me.at hs;rw [hub] at z3;cases z3;obtain ⟨-,-,-,-,-,⟨D0,o0,-⟩⟩:=h.me.aI i nd gi O0 ub hs z1 z2 hub;have hc:∀ {z:Nat} {cs:Array Value} {ty:TypeId},w.heap[z]?=some (.cells cs ty)->w'.heap[z]?=some (.cells cs ty):=fun {z cs ty} hz=>(hk _ (jv o0 hz)).trans hz;refine ⟨hc h.hd,⟨h.ses.len,?_,fun j s' gb uS sy=>?_,h.ses.me⟩,⟨by simp [h.me.len],by simp [h.me.Fp],by simp [h.me.Fo],?_,fun j nd' gb hh uu uS hg h1 h2=>?_,h.me.me,h.me.BF⟩,h.lo,h.BF⟩;{obtain ⟨D,o,m⟩:=h.ses.own;exact ⟨D,oy o (fun es c hh=>(hk bs (fun e=>d2 (by rw [e];exact hum))).trans hh),m⟩};{obtain ⟨q0,u,q1,q2⟩:=h.ses.aI j s' gb uS sy;exact ⟨q0,u,hc q1,q2⟩};{
 obtain ⟨D,o,m⟩:=h.me.own;refine ⟨D,by rw [List.length_set];exact oy o (fun es c hh=>(hk bn (fun e=>d4 (by rw [e];exact hum))).trans hh),?_⟩;have e:List.zipWith (fun (nd:aD) g=>(bN nd.path,g)) (ns.set i (aF8 nd)) NB=List.zipWith (fun (nd:aD) g=>(bN nd.path,g)) ns NB:=by
  refine List.ext_getElem? fun j=>?_;rw [List.getElem?_zipWith,List.getElem?_zipWith,List.getElem?_set];by_cases ej:i=j;{
 subst ej;rw [if_pos rfl,if_pos Bg,hs,z1]
 rfl}
  {simp [ej]}
 rw [e];exact m};{have gd:hh≠ub:=fun e=>d7 hh (aF h1) ub hum e;rw [List.getElem?_set] at uS;by_cases ej:i=j;{subst ej;rw [hub] at h2;cases h2;simp [Bg] at uS;subst uS;obtain ⟨q0,q1,q2,⟨V,q3,q4⟩,⟨D1,o1,m1⟩,-⟩:=h.me.aI i nd gb hh ub hs hg h1 hub;exact ⟨q0,q1,q2,⟨V,hc q3,q4⟩,⟨D1,oy o1 (fun es c hh=>(hk _ gd).trans hh),m1⟩,⟨_,hb,db.nil⟩⟩};{simp [ej] at uS;obtain ⟨q0,q1,q2,⟨V,q3,q4⟩,⟨D1,o1,m1⟩,⟨D2,o2,m2⟩⟩:=h.me.aI j nd' gb hh uu uS hg h1 h2;exact ⟨q0,q1,q2,⟨V,hc q3,q4⟩,⟨D1,oy o1 (fun es c hh=>(hk _ gd).trans hh),m1⟩,⟨D2,oy o2 (fun es c hh=>(hk _ (fun e=>ej (IG d6 hub (e▸h2)))).trans hh),m2⟩⟩}}
def turnS (f:aY->aY) (left:Lit->Bool) (ss:List aY):List aY:=ss.map fun s=>if left (.U s.1) then s else f s
def turnN (left:Lit->Bool) (ns:List aD):List aD:=ns.map fun s=>if left (bN s.path) then s else aF8 s
theorem JH (h:∀ s∈ss,left (.U s.1)=true):turnS f left ss=ss:=by
 unfold turnS;rw [List.map_congr_left (g:=id) (fun s hs=>by rw [if_pos (h s hs)];rfl),List.map_id]
theorem JN (h:∀ s∈ns,left (bN s.path)=true):turnN left ns=ns:=by
 unfold turnN;rw [List.map_congr_left (g:=id) (fun s hs=>by rw [if_pos (h s hs)];rfl),List.map_id]
theorem Sq (h:∀ k,left k=false):turnS f left ss=ss.map f:=by
 unfold turnS;exact List.map_congr_left fun s _=>by rw [if_neg (by rw [h];simp)]
theorem Sr (h:∀ k,left k=false):turnN left ns=ns.map aF8:=by
 unfold turnN;exact List.map_congr_left fun s _=>by rw [if_neg (by rw [h];simp)]
theorem JL (hs:ss[i]?=some s) (hl:left (.U s.1)=true):(turnS f left ss)[i]?=some s:=by
 unfold turnS;rw [List.getElem?_map,hs,Option.map_some,if_pos hl]
theorem Dq {ss:List aD} {s:aD} (hs:ss[i]?=some s) (hl:left (bN s.path)=true):(turnN left ss)[i]?=some s:=by
 unfold turnN;rw [List.getElem?_map,hs,Option.map_some,if_pos hl]
theorem Oh (hd:∀ (i j:Nat) (s s':aY),ss[i]?=some s->ss[j]?=some s'->i<j->s.1≠s'.1) (hs:ss[i]?=some s) :
  (turnS f left ss).set i (f s)=turnS f (fun z=>left z&&!z.sameKey (.U s.1)) ss:=by
 have Bg:=(aN.1 hs).1;refine List.ext_getElem? fun j=>?_;rw [List.getElem?_set];unfold turnS;by_cases ej:i=j;{subst ej;have hkk:(Lit.U s.1).sameKey (.U s.1)=true:=WideAt.sameKey_self (by trivial);rw [if_pos rfl,if_pos (by simpa using Bg),List.getElem?_map,hs,Option.map_some,if_neg (by simp [hkk])]};{
 simp only [ej,if_false];rw [List.getElem?_map,List.getElem?_map];cases hj:ss[j]? with
 | none=>rfl
 | some s'=>
  have gd:s'.1≠s.1:=by rcases Nat.lt_trichotomy i j with hh | hh | hh;{exact fun e=>hd i j s s' hs hj hh e.symm};{exact absurd hh ej};{exact hd j i s' s hj hs hh}
  have:(Lit.U s'.1).sameKey (.U s.1)=false:=by
   cases hq:(Lit.U s'.1).sameKey (.U s.1) with
   | false=>rfl
   | true=>rw [WideAt.sameKey_iff (by trivial)] at hq;simp at hq;exact absurd hq gd
  simp [this]}
theorem On {ss:List aD} (fI:∀ nd∈ss,bM nd.path) (hd:∀ (i j:Nat) (s s':aD),ss[i]?=some s->ss[j]?=some s'->i<j->s.path≠s'.path) {s:aD} (hs:ss[i]?=some s) :
  (turnN left ss).set i (aF8 s)=turnN (fun z=>left z&&!z.sameKey (bN s.path)) ss:=by
 have Bg:=(aN.1 hs).1;refine List.ext_getElem? fun j=>?_;rw [List.getElem?_set];unfold turnN;by_cases ej:i=j;{subst ej;have hkk:=mi (fI s (aF hs)) (fI s (aF hs));rw [if_pos rfl,if_pos (by simpa using Bg),List.getElem?_map,hs,Option.map_some,if_neg (by simp [hkk])]};{
 simp only [ej,if_false];rw [List.getElem?_map,List.getElem?_map];cases hj:ss[j]? with
 | none=>rfl
 | some s'=>
  have gd:s'.path≠s.path:=by rcases Nat.lt_trichotomy i j with hh | hh | hh;{exact fun e=>hd i j s s' hs hj hh e.symm};{exact absurd hh ej};{exact hd j i s' s hj hs hh}
  simp [mi (fI s' (aF hj)) (fI s (aF hs)),gd]}
theorem Iz {w:World} {mty kt et:TypeId} {R:Value->Option (DataW Unit × List MemPlace)} {b n:Nat} (hm:P.underlying mty=some (.map kt et)) (h:w.ownsMap P k R b n D) (ty:TypeId) :
  ∃ v w',(Builtin.clear_ #[mty] ty #[.map (some b)]).run P w=.ok v w'/\w'.ownsMap P k R b 0 (.map [])/\w.grownBy w' (some b)/\w'.heap.size=w.heap.size:=by
 obtain ⟨es,clock,hb,F,hs,hD⟩:=h;have cK:∃ v,(Builtin.clear_ #[mty] ty #[.map (some b)]).run P w=.ok v { w with heap:=w.heap.setIfInBounds b (.map #[] clock) }:=by simp [Builtin.clear_,run_underlying hm,MapKept.run_getObj_map hb,MapKept.run_setObj_map _ hb,Result.andThen]
 obtain ⟨v,hv⟩:=cK;refine ⟨v,_,hv,?_,⟨rfl,rfl,rfl,aU,fun i _ gd=>(MapKept.heap_set hb).2 i (fun e=>gd (by rw [e]))⟩,aU⟩;exact ⟨#[],clock,(MapKept.heap_set hb).1,⟨aU,MapKept.stamped_empty _,aU⟩,Nat.le_refl _,rfl⟩
theorem M8 (k:Nat) (h1:1<=k) (h2:k<=13) (s f e g:Int) (p q:Option Addr) (n m c d:Nat) (w:World) (B:Bool) (eB:Hid (vH k s f n m e g=B)) :
  Calls Tryz.prog 53 #[X5 k s (.S p n c) f (.S q m d) e g] w fun r w'=>r=.returned (.bool B)/\Bw w w':=
 Na k ab ab s f e g p q n m c d w B eB
theorem CH (k:Nat) (h1:1<=k) (h2:k<=13) (w:World) :
  Calls Tryz.prog 54 #[.I k] w fun r w'=>r=.returned (.bool (joR k))/\w'=w:=by
 have h:=E0 k ab w;rcases kinds h1 h2 with rfl | rfl | rfl | rfl | rfl | rfl | rfl | rfl | rfl | rfl | rfl | rfl | rfl<;>exact h
theorem Lg (e g x t:Int) (p:Option Addr) (n c:Nat) (q:Option Addr) (m d:Nat) (ss:List aY) (Qs:List Value) (ns:List aD) (en:Hid (ss.length=n)) (em:Hid (ns.length=m)) (B:Nat) (w:World) (hS:Hid (SpS B w (.S p n c) ss Qs)) (hN:Hid (SpN B w (.S q m d) ns)) (hB:B<=w.heap.size) (hn:n<=1048576) (hx:0<=x/\x<=4611686018427387904) (ht:0<=t/\t<=1000000) :
  Calls prog 103 #[cY e g x t (.S p n c) (.S q m d)] w fun r w'=>QR B w w' r (ik ⟨e,g,x,t,ss,ns⟩).1 (ik ⟨e,g,x,t,ss,ns⟩).2:=by
 obtain ⟨W0,dh,b0,z0,C0⟩:=ft w (.U e) (.U g) (.U x) (.I t) (.S p n c) (.S q m d);obtain ⟨W1,iM,b1,z1,C1⟩:=iq W0;obtain ⟨W2,iL,b2,z2,C2⟩:=xl W1 (.I 0) (.U 0) (.U 0) (.U 0) (.I 0) ao ao ao;rw [z0] at C1 z1;rw [z1] at C2 z2;have HC:=ae (ag ((C0.below b1).below b2) (ag (C1.below b2) C2));have bW:=ae (ah (ah b0 b1) b2);have HS:=ae (ag (hS.fr (al (aa bW))) (hN.fr (al (aa bW))));clear b0 b1 b2 C0 C1 C2;go_enter func103,ntmps103;by_cases WH:50<=n;{
 have WG:decide ((50:Int)<=(n:Int))=true:=by simp;omega
 have hI:ik ⟨e,g,x,t,ss,ns⟩=(⟨e,g,x,t,ss,ns⟩,sV 11):=by unfold ik;rw [if_pos (by simpa [aa en] using WH)]
 rw [hI];go_wp2_with fail;rw [<-dh,<-iM,<-iL];refine dL _ 1 2 3 9 10 _ 11 w.heap.size (w.heap.size+1) (w.heap.size+1+1) e g x t p n c q m d cW rfl (fun _ _=>rfl) (fun _ _=>rfl) (fun _ _=>rfl) (fun _ _=>rfl) HC.1 HC.2.1 HC.2.2 ab w.heap.size ab ab ?_;intro w' bq iV f1 gF;have HQ:=ae (QR.num (e:=e) (g:=g) (x:=x) (t:=t) en em HS.1 HS.2 (Fr.below bW) (bW.mono hB) f1 gF hB 11 0 0 0 0);clear dh iM iL f1 gF;obtain ⟨q0,q1,q2,q3,q4,q5,qf⟩:=bq.cells;obtain ⟨r0,r1,r2,r3,r4,r5,r6,r7,rf⟩:=iV.cells;simp only [Act.put,xa,xb,xc];go_wp2;exact bodyPost_ret (v:=.tuple #[cY e g x t (.S p n c) (.S q m d),gP 11 0 0 0 0 ao ao ao]) (by simp [results,results103,go_sem,q0,q1,q2,q3,q4,q5,r0,r1,r2,r3,r4,r5,r6,r7]) rfl (aa HQ)};{
 have WG:decide ((50:Int)<=(n:Int))=false:=by simp;omega
 by_cases uR:4611686018427387904<=x;{
 have aI0:decide (4611686018427387904<=x)=true:=by simp;omega
 have hI:ik ⟨e,g,x,t,ss,ns⟩=(⟨e,g,x,t,ss,ns⟩,sV 12):=by unfold ik;rw [if_neg (by simpa [aa en] using WH),if_pos uR]
 rw [hI];go_wp2_with fail;rw [<-dh,<-iM,<-iL];refine dL _ 1 2 3 14 15 _ 12 w.heap.size (w.heap.size+1) (w.heap.size+1+1) e g x t p n c q m d cW rfl (fun _ _=>rfl) (fun _ _=>rfl) (fun _ _=>rfl) (fun _ _=>rfl) HC.1 HC.2.1 HC.2.2 ab w.heap.size ab ab ?_;intro w' bq iV f1 gF;have HQ:=ae (QR.num (e:=e) (g:=g) (x:=x) (t:=t) en em HS.1 HS.2 (Fr.below bW) (bW.mono hB) f1 gF hB 12 0 0 0 0);clear dh iM iL f1 gF;obtain ⟨q0,q1,q2,q3,q4,q5,qf⟩:=bq.cells;obtain ⟨r0,r1,r2,r3,r4,r5,r6,r7,rf⟩:=iV.cells;simp only [Act.put,xa,xb,xc];go_wp2;exact bodyPost_ret (v:=.tuple #[cY e g x t (.S p n c) (.S q m d),gP 12 0 0 0 0 ao ao ao]) (by simp [results,results103,go_sem,q0,q1,q2,q3,q4,q5,r0,r1,r2,r3,r4,r5,r6,r7]) rfl (aa HQ)};{
 have aI0:decide (4611686018427387904<=x)=false:=by simp;omega
 have hI:ik ⟨e,g,x,t,ss,ns⟩=(⟨e,g,x+1,t,ss++[(x+1,t+10,[])],ns⟩,⟨0,x+1,0,0,t+10,[],[],[]⟩):=by unfold ik;rw [if_neg (by simpa [aa en] using WH),if_neg uR];rfl
 rw [hI];have wx:IntKind.u64.wrap (x+1)=x+1:=IntWalk.u64_in _ ab;have wt:IntKind.i64.wrap (t+10)=t+10:=IntWalk.i64_in _ ab;clear dh iM iL z0 z1 z2 HC HS bW;obtain ⟨V0,Wt,b0,z0,C0⟩:=ft w (.U e) (.U g) (.U (x+1)) (.I t) (.S p n c) (.S q m d);obtain ⟨V1,Hp,b1,z1,C1⟩:=iq V0;obtain ⟨V2,Yn,b2,z2,C2⟩:=xl V1 (.I 0) (.U 0) (.U 0) (.U 0) (.I 0) ao ao ao;obtain ⟨V3,Pe,b3,z3,C3,-⟩:=aj V2 #[.U (x+1),.I (t+10),.S none 0 0] 35;rw [z0] at C1 z1;rw [z1] at C2 z2;rw [z2] at C3 z3;have HC:=ae (ag (((C0.below b1).below b2).below b3) (ag ((C1.below b2).below b3) (C2.below b3)));have bW:=ae (ah (ah (ah b0 b1) b2) b3);have HS:=ae (ag (hS.fr (al (aa bW))) (hN.fr (al (aa bW))));have SQ:=ae C3;have lz:Hid ((ss.zip Qs).length=n):=by show _=_;rw [List.length_zip,hS.len,aa en];simp
 have yB:Hid (∀ b,(Value.slice p n c).ownBlock=some b->B<=b/\b<w.heap.size):=fun b hb=>hS.row.lt b hb;clear b0 b1 b2 b3 C0 C1 C2 C3 z0 z1 z2;go_wp2_with (at_builtin;rw [<-Wt,<-Hp,<-Yn,<-Pe];refine gO rfl _ _ rfl B (.S p n c) (ss.zip Qs) ((x+1,t+10,[]),ao) n lz rfl HS.1.row (w.heap.size+1+1+1) rfl rfl SQ.1 ab ab ?_);intro p' c' w9 Oa fh uY;rw [<-Wt,<-Hp,<-Yn,<-Pe] at fh uY;have S9:=HS.1.KI uY _ _ Oa;have N9:=bS.fr HS.2 uY;have B9:Below B w w9:=(bW.mono hB).grown fh ab (fun b hb=>(aa yB b hb).1);have F9:Fr [49,35,38] w w9:=(Fr.below (aa bW)).trans (uY.sub aU);have X0:=HC.1.fr uY;have X1:=HC.2.1.fr uY;have X2:=HC.2.2.fr uY;obtain ⟨k0,k1,k2,k3,k4,k5,kf⟩:=X0.cells;obtain ⟨fA,bA,gA⟩:=X0.ai0 (j:=4) F9 B9 aA hB (.S p' (n+1) c');obtain ⟨Z,hZ⟩:=ax (w9.setCell ⟨w.heap.size,4,none⟩ (.S p' (n+1) c'));have CZ:aq Z w.heap.size [.U e,.U g,.U (x+1),.I t,.S p' (n+1) c',.S q m d]:=by rw [hZ];exact X0.1.dI 4 aU _
 have X1':=X1.qz (b:=w.heap.size) (j:=4) (u:=.S p' (n+1) c') ab;rw [<-hZ] at fA bA gA X1';have X2':=X2.fr gA;have HZ:=ae (ag CZ (ag X1' X2'));have Kd:=ae (ag (S9.fr gA) (ag (bS.fr N9 gA) (ag fA bA)));have zZ:w.heap.size+3<Z.heap.size+1:=by have:=X2'.1;have:=fA.1;have h9:=uY.1;have:=gA.1;omega
 clear Oa fh uY S9 N9 B9 F9 X0 X1 X2 fA bA gA CZ X1' X2' Wt Hp Yn Pe HC HS SQ lz yB bW;go_wp2_with fail;rw [<-hZ];clear hZ k0 k1 k2 k3 k4 k5 kf;obtain ⟨vA,aX⟩:=ax Z.drew;have cI:=dG aX;have HA:=ae (ag (HZ.1.below ab cI) (ag (HZ.2.1.below cI) (HZ.2.2.below cI)));have BA:=ae cI;refine bO (fun w'=>w'.cell? ⟨w.heap.size,0,none⟩=some (.U e)/\w'.cell? ⟨w.heap.size,1,none⟩=some (.U g)/\w'.cell? ⟨w.heap.size,2,none⟩=some (.U (x+1))/\w'.cell? ⟨w.heap.size,3,none⟩=some (.I t)/\w'.cell? ⟨w.heap.size,4,none⟩=some (.S p' (n+1) c')/\w'.cell? ⟨w.heap.size,5,none⟩=some (.S q m d)) (by rw [<-aX];exact ⟨HA.1.1 0 _ rfl,HA.1.1 1 _ rfl,HA.1.1 2 _ rfl,HA.1.1 3 _ rfl,HA.1.1 4 _ rfl,HA.1.1 5 _ rfl⟩) fun hS=>?_;rw [<-aX] at hS ⊢;clear aX cI;refine gC 0 1 2 3 hS ?_;refine tn 4 hS ?_;refine bH 5 fun KK hK=>?_;obtain ⟨k0,k1,k2,k3,k4,k5,kf⟩:=HA.2.1.cells;go_simp;obtain ⟨X,hX⟩:=ax (bg vA (w.heap.size+1) (.U e) (.U g) (.U (x+1)) (.I t) (.S p' (n+1) c') (.S q m d));have bX:Below (w.heap.size+1) vA X:=by rw [hX];exact bt _ _ _ _ _ _ _ _
 have qw:=HA.2.1.put (.U e) (.U g) (.U (x+1)) (.I t) (.S p' (n+1) c') (.S q m d);have CX:=rN HA.1 (b:=w.heap.size+1) ab (.U e) (.U g) (.U (x+1)) (.I t) (.S p' (n+1) c') (.S q m d);have fX:Fr [27] vA X:=by obtain ⟨-,cur,ht⟩:=HA.2.1;rw [hX];exact dT ht
 rw [<-hX] at qw CX;have Ih:=HA.2.2.fr fX;unfold bg at hX;rw [<-hX];have HX:=ae (ag qw (ag CX (ag Ih (ag fX bX))));refine cg hK (by exact ⟨CX.1 0 _ rfl,CX.1 1 _ rfl,CX.1 2 _ rfl,CX.1 3 _ rfl,CX.1 4 _ rfl,CX.1 5 _ rfl⟩) fun hS=>?_;clear hK KK hX k0 k1 k2 k3 k4 k5 kf qw CX Ih fX bX;refine bH 6 fun KK hK=>?_;obtain ⟨k0,k1,k2,k3,k4,k5,k6,k7,kf⟩:=HX.2.2.1.cells;go_simp;obtain ⟨Ka,fY⟩:=HX.2.2.1.put (.I 0) (.U (x+1)) (.U 0) (.U 0) (.I (t+10)) ao ao ao;have bY:=aO X (w.heap.size+1+1) (.I 0) (.U (x+1)) (.U 0) (.U 0) (.I (t+10)) ao ao ao;obtain ⟨Y,hY⟩:=ax (fg X (w.heap.size+1+1) (.I 0) (.U (x+1)) (.U 0) (.U 0) (.I (t+10)) ao ao ao);rw [<-hY] at Ka fY bY;unfold fg bg at hY;rw [<-hY];have CY:=HX.2.1.aS (bY.block _ ab);have BY:=ae (ag (HX.1.fr fY) (ag Ka (ag ((Fr.below (T:=[27,41]) (aa BA)).trans ((HX.2.2.2.1.sub aU).trans (fY.sub aU))) ((BA.mono ab).trans ((HX.2.2.2.2.mono (Nat.le_succ _)).trans (bY.mono ab))))));refine cg hK (by exact ⟨CY.1 0 _ rfl,CY.1 1 _ rfl,CY.1 2 _ rfl,CY.1 3 _ rfl,CY.1 4 _ rfl,CY.1 5 _ rfl⟩) fun hS=>?_;clear hK KK hY k0 k1 k2 k3 k4 k5 k6 k7 kf Ka fY bY CY;refine bu ?_;clear hS;obtain ⟨bq,iV,f1,gF⟩:=aa BY;have HQ:=ae (QR.num (e:=e) (g:=g) (x:=x+1) (t:=t) (ae (by rw [List.length_append,aa en];rfl)) em Kd.1 Kd.2.1 Kd.2.2.1 Kd.2.2.2 f1 gF hB 0 (x+1) 0 0 (t+10));clear f1 gF;obtain ⟨q0,q1,q2,q3,q4,q5,qf⟩:=bq.cells;obtain ⟨r0,r1,r2,r3,r4,r5,r6,r7,rf⟩:=iV.cells;go_wp2;exact bodyPost_ret (v:=.tuple #[cY e g (x+1) t (.S p' (n+1) c') (.S q m d),gP 0 (x+1) 0 0 (t+10) ao ao ao]) (by simp [results,results103,go_sem,q0,q1,q2,q3,q4,q5,r0,r1,r2,r3,r4,r5,r6,r7]) rfl (aa HQ)}}
open Go.Deep
theorem cG (cd:List Int) (hb:∀ z∈cd,0<=z/\z<256) (t:Nat):0<=cd.getD t 0/\cd.getD t 0<256:=by
 by_cases h:t<cd.length;{rw [List.getD,aK h];exact hb _ (List.getElem_mem h)};{rw [List.getD,List.getElem?_eq_none ab];simp}
theorem jl (x:Int) (n:Nat) (w:World) (hn:n<=300000) :
  Calls prog 81 #[.int .u8 x,.I n] w fun e w'=>∃ p' c',e=.returned (.S p' n c')/\Own w.heap.size w' (.S p' n c') (List.replicate n x)/\Bw w w':=by
 go_enter func81,ntmps81;go_wp2
 go_loopw [5,6] (fun v i wr=>∃ (k:Nat) (p:Option Addr) (c:Nat) (l:List Int),k<=n/\i=.I k/\Hid (l=List.replicate k x)/\l.length=k/\v=.S p k c/\Own w.heap.size wr (.S p k c) l/\Bw w wr) (fun _ i _=>n-(intOf i).toNat)
 case atStart=>exact ⟨0,none,0,[],Nat.zero_le _,rfl,rfl,rfl,rfl,World.ownsRow_nil _ _ _ _,Below.refl _ _⟩
 case round =>(
 obtain ⟨k,p,c,l,hk,rfl,el,hl,rfl,ho,aR⟩:=hrel;by_cases bj:k<n;{
 obtain ⟨lm,Bu⟩:=ax (l++[x]);have OR:lm.length=k+1:=by simp [Bu,hl]
 have HLM:=ae OR;have el2:Hid (lm=List.replicate (k+1) x):=by show _=_;rw [Bu,aa el,List.replicate_succ']
 have Gf:=ae Bu;clear OR el Bu;go_wp2_with (at_builtin;refine ga rfl _ _ rfl w.heap.size (.S p k c) l lm x Gf wr.heap.size rfl rfl (Own.below ho (aJ.alloc aA _)) aU ab (by have:=aR.size;simp;omega) ?_);intro p' c' w2 vF fU;have b2:Bw w w2:=(aR.alloc aR.size (.cells #[.int .u8 x] 5)).grown fU (by have:=aR.size;simp;omega) (fun k hk=>(ho.lt k hk).1);simp only [aa HLM];have VI:Own w.heap.size w2 (.S p' (k+1) c') lm:=by have h2:=vF;simp only [aa HLM] at h2;exact h2
 clear vF fU ho aR hl Gf;go_wp2;go_roundw
 case rel=>exact ⟨k+1,p',c',lm,ab,by go_num,el2,HLM,rfl,VI,b2⟩
 exact dC};{have e:k=n:=ab;subst e;rw [aa el] at ho;clear el hl;go_wp2;go_ret;exact ⟨p,c,rfl,ho,aR⟩})
theorem Fs (p:Option Addr) (c:Nat) (l:List Int) (w:World) (hl:l.length<=1048576) (hc:l.length<=c) :
  Calls prog 30 #[.S p l.length c] w fun e w'=>e=.returned (.pointer (some ⟨w.heap.size,0,none⟩))/\w'=w.alloc (.cells #[.S p (l.take 500).length c,.I 0] 117):=by
 by_cases h:500<l.length;{
 have e:(l.take 500).length=500:=by simp;omega
 rw [e];go_enter func30,ntmps30;go_wp2;go_ret;exact ⟨rfl,rfl⟩};{
 have e:(l.take 500).length=l.length:=by simp;omega
 rw [e];go_enter func30,ntmps30;go_wp2;go_ret;exact ⟨rfl,rfl⟩}
theorem Rd.ZA {w:World} (h:Rd w (.S p l.length c) l):Rd w (.S p (l.take 500).length c) (l.take 500):=by
 obtain ⟨q,d,e,hh⟩:=h;simp only [Value.slice.injEq] at e;obtain ⟨rfl,-,rfl⟩:=e;refine ⟨p,c,rfl,?_⟩;rcases hh with rfl | ⟨b,o,rfl,hc⟩;{left;rfl}
 {
 right
 refine ⟨b,o,rfl,fun i hi=>?_⟩;rw [List.length_take] at hi;rw [hc i ab];simp [List.getD,List.getElem?_take,show i<500 by omega]}
theorem Rd.old {w:World} (h:Rd w v l) (hl:l≠[]):∀ b,v.ownBlock=some b->b<w.heap.size:=by
 obtain ⟨p,cap,rfl,h⟩:=h;intro b e;rcases h with rfl | ⟨b',o,rfl,hc⟩;{exact absurd rfl hl};{simp [Value.ownBlock] at e;subst e;have hp:0<l.length:=List.length_pos_iff.2 hl;exact World.block_lt_of_cell? w _ (hc 0 hp)}
structure lu (w:World) (g:Nat) (p:Option Addr) (cd:List Int) (c t:Nat):Prop where
 c0:w.cell? ⟨g,0,none⟩=some (.S p cd.length c)
 c1:w.cell? ⟨g,1,none⟩=some (.I (min t cd.length:Nat))
 ty:∃ cur,w.heap[g]?=some (.cells cur 117)
 rd:Rd w (.S p cd.length c) cd
 lo:cd≠[]->∀ b,(Value.slice p cd.length c).ownBlock=some b->b<g
theorem lu.lt {w:World} {t:Nat} (h:lu w g p cd c t):g<w.heap.size:=World.block_lt_of_cell? w _ h.c0
theorem lu.fz {w:World} {t:Nat} (h:lu w g p cd c t) (o:Nat):w.frozen? ⟨g,o,none⟩=false:=by
 obtain ⟨cur,hc⟩:=h.ty;simp [World.frozen?,hc]
theorem Rd.ZG {w w':World} (h:Rd w v l) (lo:l≠[]->∀ b,v.ownBlock=some b->b<B) (hb:∀ b,b<B->w'.heap[b]?=w.heap[b]?):Rd w' v l:=by
 obtain ⟨p,c,rfl,hd⟩:=h;refine ⟨p,c,rfl,?_⟩;rcases hd with hd | ⟨b,o,rfl,hd⟩;{exact .inl hd};{by_cases hl:l=[];{exact .inl hl};{exact .inr ⟨b,o,rfl,fun i hi=>(ai (hb b (lo hl b rfl)) _).trans (hd i hi)⟩}}
theorem lu.keep {w w':World} {t:Nat} (h:lu w g p cd c t) (hb:∀ b,b<=g->w'.heap[b]?=w.heap[b]?):lu w' g p cd c t:=
 ⟨(ai (hb g aA) _).trans h.c0,(ai (hb g aA) _).trans h.c1,h.ty.imp fun cur hc=>(hb g aA).trans hc,h.rd.ZG h.lo fun b hl=>hb b ab,h.lo⟩
theorem lu.low {w w':World} {t:Nat} (h:lu w g p cd c t) (hb:Below B w w') (hB:g<B):lu w' g p cd c t:=by
 have:=h.lt;by_cases hz:B<=w.heap.size;{exact h.keep fun b hl=>hb.block b ab};{exact h.keep fun b hl=>hb.block b ab}
theorem lu.step {w:World} {t:Nat} (h:lu w g p cd c t) (bj:t<cd.length):lu (w.setCell ⟨g,1,none⟩ (.I ((t:Int)+1))) g p cd c (t+1):=by
 have hh:∀ b,b≠g->(w.setCell ⟨g,1,none⟩ (.I ((t:Int)+1))).heap[b]?=w.heap[b]?:=fun b hb=>dF _ _ _ _ hb;refine ⟨?_,?_,(bf h.ty).1,h.rd.ZG h.lo fun b hl=>hh b ab,h.lo⟩;{rw [World.cell?_setCell_other w ⟨g,1,none⟩ ⟨g,0,none⟩ _ aU];exact h.c0};{rw [World.cell?_setCell_same w ⟨g,1,none⟩ _ h.c1];have e:((min (t+1) cd.length:Nat):Int)=(t:Int)+1:=ab;rw [e]}
theorem lu.stay {w:World} {t:Nat} (h:lu w g p cd c t) (bj:¬ t<cd.length):lu w g p cd c (t+1):=by
 refine ⟨h.c0,?_,h.ty,h.rd,h.lo⟩;rw [h.c1];have e:min t cd.length=min (t+1) cd.length:=ab;rw [e]
def Dr (g:Nat) (w w':World):Prop:=Fr [117] w w'/\Below g w w'/\∀ b,b≠g->b<w.heap.size->w'.heap[b]?=w.heap[b]?
theorem Dr.trans {w w1 w2:World} (h:Dr g w w1) (h2:Dr g w1 w2):Dr g w w2:=⟨h.1.trans h2.1,h.2.1.trans h2.2.1,fun b hb hl=>(h2.2.2 b hb (by have:=h.2.1.size;omega)).trans (h.2.2 b hb hl)⟩
theorem Dr.below {w w1:World} (h:Bw w w1) (hg:g<w.heap.size):Dr g w w1:=⟨Fr.below h,h.mono (by omega),fun b _ hl=>h.block b hl⟩
theorem Dr.add {w w1 w2:World} (h:Dr g w w1) (h2:Below w.heap.size w1 w2) (hg:g<w.heap.size):Dr g w w2:=
 ⟨⟨Nat.le_trans h.1.1 h2.size,fun b cur ty m ht hb=>(h2.block b (gN hb)).trans (h.1.2 b cur ty m ht hb)⟩,h.2.1.trans (h2.mono ab),fun b hb hl=>(h2.block b hl).trans (h.2.2 b hb hl)⟩
theorem fD (g:Nat) (p:Option Addr) (cd:List Int) (c t:Nat) (w:World) (h:lu w g p cd c t) (hb:bM cd) (hl:cd.length<=500) :
  Calls prog 48 #[.pointer (some ⟨g,0,none⟩)] w fun e w'=>e=.returned (.I (cd.getD t 0))/\lu w' g p cd c (t+1)/\Dr g w w':=by
 obtain ⟨c0,c1,⟨cur,ty⟩,rd,lo⟩:=id h;by_cases bj:t<cd.length;{
 have em:min t cd.length=t:=ab;rw [em] at c1;obtain ⟨q,d,e1,hh⟩:=id rd;simp only [Value.slice.injEq] at e1;obtain ⟨rfl,-,rfl⟩:=e1;rcases hh with rfl | ⟨b,o,rfl,hc⟩;{simp at bj};{
 have mx:w.cell? ⟨b,o+t,none⟩=some (.int .u8 cd[t]):=by rw [hc t bj];simp [bj]
 have hx:=hb _ (List.getElem_mem bj);have f1:=h.fz 1;have i1:(t:Int)<(cd.length:Int):=ab;have i0:=dE 0 t;have hng:¬ ((cd.length:Int)<=t):=ab;have aN3:decide ((cd.length:Int)<=t)=false:=by simp;omega
 have HG:Hid (cd.getD t 0=cd[t]):=by show _=_;simp [bj]
 have H:=ae h;have HN:b≠g:=fun e=>by have:=lo (by intro e0;subst e0;simp at bj) b rfl;omega
 have TY:=ae ty;clear hc rd lo h ty;go_enter func48,ntmps48;go_wp2
 go_quiet (fail)
 go_wp2
 go_quiet (fail)
 go_wp2;go_ret;exact ⟨by rw [HG.out];rfl,lu.step (lu.low (aa H) (below_drewN (Below.refl w.heap.size w) _) H.lt) bj,Fr.set (w:=w.drewN _) (aa TY) aU,Below.setCell (p:=⟨g,1,none⟩) ((below_drewN (Below.refl w.heap.size w) _).mono (Nat.le_of_lt H.lt)) aA _,fun b' cR sv=>dF _ _ _ _ cR⟩}};{
 have em:min t cd.length=cd.length:=ab;rw [em] at c1;have aN3:decide ((cd.length:Int)<=(cd.length:Int))=true:=aU;have HG:Hid (cd.getD t 0=0):=by show _=_;rw [List.getD,List.getElem?_eq_none ab];rfl
 have H:=ae h;clear rd lo h ty;go_enter func48,ntmps48;go_wp2
 go_quiet (fail)
 go_wp2;go_ret;exact ⟨by rw [HG.out];rfl,(H.low (below_drewN (Below.refl w.heap.size w) _) H.lt).stay bj,Dr.below (below_drewN (Below.refl w.heap.size w) _) H.lt⟩}
theorem ZH (g:Nat) (p:Option Addr) (cd:List Int) (c t:Nat) (w:World) (h:lu w g p cd c t) (hl:cd.length<=500) :
  Calls prog 135 #[.pointer (some ⟨g,0,none⟩)] w fun e w'=>e=.returned (.I ((cd.length-t:Nat):Int))/\Bw w w':=by
 have c0:=h.c0;have c1:=h.c1;have E:=ae (show ((cd.length-t:Nat):Int)=(cd.length:Int)-((min t cd.length:Nat):Int) by omega);obtain ⟨m,em⟩:=ax (min t cd.length);rw [<-em] at c1 E;have hm:m<=cd.length:=ab;generalize cd.length=n at *;clear h em;go_enter func135,ntmps135;go_wp2
 go_quiet (fail)
 go_wp2;go_ret;exact ⟨by rw [aa E];rfl,below_drewN aJ _⟩
def GC (B:Nat) (w:World) (v:Value) (l:List Int):Prop:=∃ g C,v=.S (some ⟨g,0,none⟩) l.length C.size/\B<=g/\w.heap[g]?=some (.cells C 5 (C.size,C.size+1))/\C.size<=maxLen/\l.length<=C.size/\C.toList.take l.length=l.map (Value.int .u8)
theorem GC.tb {w:World} (h:GC B w v l):TB w v l:=by
 obtain ⟨g,C,rfl,hB,hg,hm,hl,ht⟩:=h;refine ⟨⟨_,_,rfl,.inr ⟨g,0,rfl,fun i hi=>?_⟩⟩,fun b e=>.inr ?_,_,_,_,rfl,hl,hm⟩;{
 rw [Nat.zero_add,cell_of_row _ _ _ _ _ _ hg,<-Array.getElem?_toList];have:(C.toList.take l.length)[i]?=(l.map (Value.int .u8))[i]?:=by rw [ht]
 rw [List.getElem?_take,if_pos hi] at this;rw [this,List.getElem?_map,List.getD_eq_getElem?_getD,aK hi]
 rfl}
 {simp only [Value.ownBlock,Option.some.injEq] at e;subst e;exact ⟨C,_,hg⟩}
theorem GC.lt {w:World} (h:GC B w v l):∀ b,v.ownBlock=some b->B<=b/\b<w.heap.size:=fun b e=>by
 obtain ⟨g,C,rfl,hB,hg,-⟩:=h;simp only [Value.ownBlock,Option.some.injEq] at e;subst e;exact ⟨hB,gN hg⟩
theorem GC.fr {T:List TypeId} {w w':World} (h:GC B w v l) (hf:Fr T w w') (ht:5∉T:=by decide):GC B w' v l:=by
 obtain ⟨g,C,rfl,hB,hg,r⟩:=h;exact ⟨g,C,rfl,hB,hf.2 _ _ _ _ ht hg,r⟩
theorem GC.mono {B':Nat} {w:World} (h:GC B w v l) (hB:B'<=B):GC B' w v l:=by
 obtain ⟨g,C,rfl,h1,r⟩:=h;exact ⟨g,C,rfl,ab,r⟩
theorem vM (w:World) (hB:bM l) (hl:l.length<=1048576):∃ c W,(convert 9 22 (.string (aC l))).run prog w=.ok (.S (some ⟨w.heap.size,0,none⟩) l.length c) W/\GC w.heap.size W (.S (some ⟨w.heap.size,0,none⟩) l.length c) l/\Bw w W:=by
 have cK:=Lib.run_convert_string_bytes (P:=prog) w 9 22 5 (aC l) underlying9 underlying22 underlying5;rw [di] at cK;have Tt:l.length<=grownCap w l.length 0 5:=grownCap_ge w l.length 0 5;have hle:grownCap w l.length 0 5<=maxLen:=grownCap_le_maxLen w l.length 0 5 jC;have U3:(aC l).data.size=l.length:=di l;have Ce:(Lib.bytesCells w 5 (aC l)).size=grownCap w l.length 0 5:=by simp only [Lib.bytesCells,Array.size_append,Array.size_map,Array.size_replicate,U3,di];omega
 refine ⟨_,_,cK,⟨w.heap.size,Lib.bytesCells w 5 (aC l),by rw [Ce],Nat.le_refl _,Lib.bytesWorld_at_new w 5 (aC l),by rw [Ce];exact hle,by rw [Ce];exact Tt,?_⟩,⟨rfl,rfl,rfl,by rw [Lib.bytesWorld_size];omega,fun k hk=>Lib.bytesWorld_at_old _ _ _ _ hk⟩⟩;simp only [Lib.bytesCells,Array.toList_append,Array.toList_map];have e:(aC l).data.toList.map (fun b=>Value.int .u8 b.toNat)=l.map (Value.int .u8):=by rw [fM,List.map_map];refine List.map_congr_left fun z hz=>?_;have:=hB z hz;simp;omega
 rw [e,List.take_append_of_le_length aU,List.take_of_length_le aU]
theorem uh (P:Program) (g o:Nat) (t:TypeId) (fz:Nat × Nat):∀ (vs:List Value) (i:Nat) (cur:Array Value) (w:World),w.heap[g]?=some (.cells cur t fz)->o+i+vs.length<=fz.1->o+i+vs.length<=cur.size->(∀ v∈vs,v.oneCell'=true) →
  (storeCells ⟨g,o,none⟩ vs i).run P w=.ok () (w.setRow g (cur.toList.take (o+i)++vs++cur.toList.drop (o+i+vs.length)).toArray)
 | [],i,cur,w,hg,_,_,_=>by
  simp only [storeCells,List.append_nil,List.length_nil,Nat.add_zero,List.take_append_drop,Array.toArray_toList];rw [setRow_self w g cur t fz hg]
  rfl
 | v::rest,i,cur,w,hg,My,hl,h1=>by
  have hi:o+i<cur.size:=by simp at hl;omega
  have Rp:(⟨g,o,none⟩:Addr).add i=⟨g,o+i,none⟩:=by unfold Addr.add;split<;>simp_all
  have bG:w.cell? ⟨g,o+i,none⟩=some cur[o+i]:=by simp [World.cell?,hg,hi]
  have aN4:w.frozen? ⟨g,o+i,none⟩=false:=by
   obtain ⟨lo,O0⟩:=fz;simp only [World.frozen?,hg,Bool.and_eq_false_iff,decide_eq_false_iff_not]
   left
   simp only [List.length_cons] at My;omega
  have dz:(store ((⟨g,o,none⟩:Addr).add i) v).run P w=.ok () (w.setRow g (cur.setIfInBounds (o+i) v)):=by rw [Rp,run_store P w _ v _ (h1 v aU),bG];simp [aN4,setCell_eq_setRow w g (o+i) cur t fz v hg]
  have ih:=uh P g o t fz rest (i+1) (cur.setIfInBounds (o+i) v) (w.setRow g (cur.setIfInBounds (o+i) v)) (setRow_heap w g cur _ t _ hg) (by simp at My ⊢;omega) (by simp at hl ⊢;omega) (fun x hx=>h1 x (by simp [hx]));simp only [storeCells,Sem.run_bind,dz,Result.andThen_ok,ih,setRow_setRow]
  congr 3
  have e:=list_seg_step cur.toList (o+i) v rest (by simp at hl ⊢;omega);simpa [Array.toList_setIfInBounds,Nat.add_assoc] using e
theorem Xr {w:World} (h:GC B w v l) (hl:l.length<=1000) (x y:Int) (g2:Nat) (c0:w.cell? ⟨g2,0,none⟩=some (.int .u8 x)) (c1:w.cell? ⟨g2,1,none⟩=some (.int .u8 y)) (hB:B<=w.heap.size) :
  ∃ p' c' w',(Builtin.append_ #[22,22] 22 #[v,.S (some ⟨g2,0,none⟩) 2 2]).run prog w=.ok (.S p' (l.length+2) c') w'/\TB w' (.S p' (l.length+2) c') (l++[x,y])/\w.grownBy w' v.ownBlock:=by
 obtain ⟨i,hi,hz,hs,hb⟩:=info_parts Tryz.infoByte;obtain ⟨g,C,rfl,hBg,hg,hm,hlc,ht⟩:=h;have eh:∀ j u,([.int .u8 x,.int .u8 y]:List Value)[j]?=some u->w.cell? ((⟨g2,0,none⟩:Addr).add j)=some u:=fun j u hu=>by rw [Addr.add_lit];rcases j with _ | _ | j;{simp at hu;subst hu;exact c0};{simp at hu;subst hu;exact c1};{simp at hu}
 have IZ:([.int .u8 x,.int .u8 y]:List Value).length=2*i.size:=by rw [hs];rfl
 by_cases sg:l.length+2<=C.size;{
 have hf:=run_firstCells_some (P:=prog) w i.size 2 ⟨g2,0,none⟩ 2 2 [.int .u8 x,.int .u8 y] IZ eh;have dz:=uh prog g (l.length*i.size) 5 (C.size,C.size+1) [.int .u8 x,.int .u8 y] 0 C w hg (by rw [hs];simp;omega) (by rw [hs];simp;omega) (fun u hu=>by simp at hu;rcases hu with rfl | rfl<;>rfl);simp only [Nat.add_zero,hs,Nat.mul_one] at dz;refine ⟨some ⟨g,0,none⟩,C.size,w.setRow g (C.toList.take l.length++[Value.int .u8 x,Value.int .u8 y]++C.toList.drop (l.length+2)).toArray,?_,⟨⟨_,_,by rw [List.length_append];rfl,.inr ⟨g,0,rfl,fun j hj=>?_⟩⟩,fun b e=>.inr ?_,_,_,_,rfl,sg,hm⟩,⟨rfl,rfl,rfl,aU,fun k _ hk=>setRow_other w g k _ (fun e=>hk (by simp [Value.ownBlock,e]))⟩⟩;{rw [hs] at hf;simp [Builtin.append_,run_underlying underlying22,sizeOf,typeInfo,hi,Builtin.lenOf,sg,hf,Addr.add_lit,dz,hs]};{
 rw [Nat.zero_add,cell_of_row _ _ _ _ _ _ (setRow_heap w g C _ _ _ hg),List.getElem?_toArray,ht];rw [List.length_append] at hj;simp at hj;rw [List.getElem?_append_left dx,List.getD_eq_getElem?_getD];by_cases h1:j<l.length;{
 rw [List.getElem?_append_left (by simpa using h1),List.getElem?_append_left h1,List.getElem?_map,aK h1]
 rfl}
 {
 rw [List.getElem?_append_right (by simpa using h1),List.getElem?_append_right ab];simp only [List.length_map];have:j-l.length=0\/j-l.length=1:=by omega
 rcases this with e | e<;>rw [e]<;>rfl}}
 {simp only [Value.ownBlock,Option.some.injEq] at e;subst e;exact ⟨_,_,setRow_heap w g C _ _ _ hg⟩}};{
 have holds:∀ j u,(l.map (Value.int .u8))[j]?=some u->w.cell? ((⟨g,0,none⟩:Addr).add j)=some u:=fun j u hu=>by
  rw [Addr.add_lit,Nat.zero_add,cell_of_row _ _ _ _ _ _ hg,<-Array.getElem?_toList];have hj:j<l.length:=by have:=(aN.1 hu).1;simpa using this
  have:(C.toList.take l.length)[j]?=(l.map (Value.int .u8))[j]?:=by rw [ht]
  rw [List.getElem?_take,if_pos hj] at this;rw [this,hu]
 have hr:=run_append_grow (P:=prog) w 22 22 5 i (.int .u8 0) underlying22 hi hz ⟨g,0,none⟩ l.length C.size (l.map (Value.int .u8)) (by rw [hs];simp) holds ⟨g2,0,none⟩ 2 2 [.int .u8 x,.int .u8 y] IZ eh ab ab (growslice_fits ab (by rw [hb];omega));refine ⟨_,_,_,hr,⟨⟨_,_,by rw [List.length_append];rfl,.inr ⟨w.heap.size,0,rfl,fun j hj=>?_⟩⟩,fun b e=>.inr ?_,_,_,_,rfl,grownCap_ge _ _ _ _,grownCap_le_maxLen _ _ _ _ jC⟩,⟨rfl,rfl,rfl,aU,fun k hk _=>Go.heap_alloc_old w.drew _ hk⟩⟩;{
 rw [Nat.zero_add,cell_of_row _ w.heap.size _ _ _ _ (Go.heap_alloc_new w.drew _)];rw [List.length_append] at hj;simp at hj;rw [Array.getElem?_append_left dx,show (l.map (Value.int .u8)).toArray++[Value.int .u8 x,.int .u8 y].toArray=((l++[x,y]).map (Value.int .u8)).toArray by simp,List.getElem?_toArray,List.getElem?_map,List.getD_eq_getElem?_getD,aK dx]
 rfl}
 {simp only [Value.ownBlock,Option.some.injEq] at e;subst e;exact ⟨_,_,Go.heap_alloc_new w.drew _⟩}}
def CJ:List (List Int):=[[47,97],[47,97,47,120],[47,97,47,121],[47,98],[47,97,47,120,47,107],[47,98,45,49],[47,99],[47,122,122,47,116,111,112],[47,98,47,113],[47,97,47,120,47,107,47,109]]
def Vf:List (List Int):=[[],[47],[97],[47,47],[47,97,47],[47,65],[47,97,32,98],[47,97,97,97,97,97,97,97,97,97,97,97,97,97,97,97,97],[47,97,97,97,97,97,97,97,97,97,97,97,97,97,97,97,97,97],[47,49,47,50,47,51,47,52,47,53,47,54,47,55,47,56],[47,49,47,50,47,51,47,52,47,53,47,54,47,55,47,56,47,57],[47,95],[47,97,47,45],[47,97,0],[47,97,47,47,98]]
theorem Ku {T:List (List Int)} (h:(T.all fun l=>decide (l.length<=18)&&l.all fun z=>decide (0<=z)&&decide (z<256))=true) (m:Nat):bM (T.getD m [])/\(T.getD m []).length<=18:=by
 rw [List.getD_eq_getElem?_getD];cases hm:T[m]? with
 | none=>exact ⟨fun z hz=>by simp at hz,aU⟩
 | some l=>
  have:=List.all_eq_true.1 h l (aF hm);simp only [Bool.and_eq_true,decide_eq_true_eq,List.all_eq_true] at this;exact ⟨fun z hz=>this.2 z hz,this.1⟩
theorem vw (m:Nat):bM (CJ.getD m [])/\(CJ.getD m []).length<=18:=Ku (by decide) m
theorem Qx (m:Nat):bM (Vf.getD m [])/\(Vf.getD m []).length<=18:=Ku (by decide) m
theorem kV (w:World):Calls prog 134 #[] w fun r w'=>r=.returned (.S (some ⟨w.heap.size,0,none⟩) 10 10)/\(∀ m,m<10->w'.cell? ⟨w.heap.size,m,none⟩=some (.string (aC (CJ.getD m []))))/\Bw w w'/\w'.heap.size=w.heap.size+1/\∃ cur,w'.heap[w.heap.size]?=some (.cells cur 9):=by
 go_enter func134,ntmps134;go_wp2;go_ret;refine ⟨rfl,fun m hm=>?_,aJ.alloc aA _,aU,_,heap_alloc_new w _⟩;rw [cell_of_row _ _ _ _ _ _ (heap_alloc_new w _)];have:m=0\/m=1\/m=2\/m=3\/m=4\/m=5\/m=6\/m=7\/m=8\/m=9:=by omega
 rcases this with rfl | rfl | rfl | rfl | rfl | rfl | rfl | rfl | rfl | rfl<;>rfl
def aq0 (cd:List Int) (t:Nat) (P:List Int):Prop:=
 ∀ (g:Nat) (p:Option Addr) (c:Nat) (w:World),lu w g p cd c t->Calls prog 80 #[.pointer (some ⟨g,0,none⟩)] w fun r w'=>∃ pp cp,r=.returned (.S pp P.length cp)/\GC w.heap.size w' (.S pp P.length cp) P/\lu w' g p cd c (t+1)/\Dr g w w'
theorem mU (cd:List Int) (t:Nat) (hb:bM cd) (hl:cd.length<=500):∃ P,bM P/\P.length<=18/\aq0 cd t P:=by
 have hr:=cG cd hb t;obtain ⟨x,ex⟩:=ax (cd.getD t 0);rw [<-ex] at hr;by_cases a1:x<200;{obtain ⟨m,hm,em⟩:∃ m:Nat,m<7/\x % 7=m:=⟨(x % 7).toNat,ab,ab⟩;obtain ⟨P,eP⟩:=aL (CJ.getD m []);obtain ⟨bP,lP⟩:=vw m;rw [aa eP] at bP lP;refine ⟨P,bP,lP,fun g p c w h=>?_⟩;have EX:=ae ex;clear ex;go_enter func80,ntmps80;go_wp2_with fail;refine (fD g p cd c t _ h hb hl).mono ?_;rintro r w1 ⟨rfl,h1,d1⟩;rw [<-aa EX];go_wp2_with fail;refine (kV w1).mono ?_;rintro r w2 ⟨rfl,jF,b2,z2,-⟩;have Bn:=jF m ab;rw [aa eP] at Bn;obtain ⟨cc,W,hcv,u9,bW⟩:=vM w2 bP ab;have aL2:(m:Int)<10:=ab;have HH:=ae (ag h (ag h1 (ag d1 (ag b2 (ag u9 (ag bW z2))))));clear jF h h1 d1 b2 u9 bW bP lP z2;go_wp2;go_ret;obtain ⟨h,h1,d1,b2,u9,bW,z2⟩:=aa HH;have hz:=d1.2.1.size;have mn:=h1.lt;exact ⟨_,_,rfl,u9.mono (B':=w.heap.size) ab,(h1.low b2 h1.lt).low bW ab,(d1.trans (Dr.below b2 h1.lt)).trans (Dr.below bW ab)⟩};{
 by_cases a2:x<235;{obtain ⟨m,hm,em⟩:∃ m:Nat,m<10/\x % 10=m:=⟨(x % 10).toNat,ab,ab⟩;obtain ⟨P,eP⟩:=aL (CJ.getD m []);obtain ⟨bP,lP⟩:=vw m;rw [aa eP] at bP lP;refine ⟨P,bP,lP,fun g p c w h=>?_⟩;have EX:=ae ex;clear ex;go_enter func80,ntmps80;go_wp2_with fail;refine (fD g p cd c t _ h hb hl).mono ?_;rintro r w1 ⟨rfl,h1,d1⟩;rw [<-aa EX];go_wp2_with fail;refine (kV w1).mono ?_;rintro r w2 ⟨rfl,jF,b2,z2,-⟩;have Bn:=jF m ab;rw [aa eP] at Bn;obtain ⟨cc,W,hcv,u9,bW⟩:=vM w2 bP ab;have aL2:(m:Int)<10:=ab;have HH:=ae (ag h (ag h1 (ag d1 (ag b2 (ag u9 (ag bW z2))))));clear jF h h1 d1 b2 u9 bW bP lP z2;go_wp2;go_ret;obtain ⟨h,h1,d1,b2,u9,bW,z2⟩:=aa HH;have hz:=d1.2.1.size;have mn:=h1.lt;exact ⟨_,_,rfl,u9.mono (B':=w.heap.size) ab,(h1.low b2 h1.lt).low bW ab,(d1.trans (Dr.below b2 h1.lt)).trans (Dr.below bW ab)⟩};{
 obtain ⟨m,hm,em⟩:∃ m:Nat,m<15/\x % 15=m:=⟨(x % 15).toNat,ab,ab⟩;obtain ⟨P,eP⟩:=aL (Vf.getD m []);obtain ⟨bP,lP⟩:=Qx m;rw [aa eP] at bP lP;refine ⟨P,bP,lP,fun g p c w h=>?_⟩;have EX:=ae ex;clear ex;go_enter func80,ntmps80;go_wp2_with fail;refine (fD g p cd c t _ h hb hl).mono ?_;rintro r w1 ⟨rfl,h1,d1⟩;rw [<-aa EX];go_wp2_with fail;refine (kV w1).mono ?_;rintro r w2 ⟨rfl,jF,b2,z2,-⟩;have bS3:(m:Int)<15:=ab;have HH:=ae (ag h (ag h1 (ag d1 (ag b2 z2))));clear jF h h1 d1 b2 z2
 go_upto_region 8 with fail
 generalize kn:w2.alloc _=W3;have b3:Bw w2 W3:=by rw [<-kn];exact aJ.alloc aA _
 have z3:W3.heap.size=w2.heap.size+1:=by rw [<-kn];simp
 have Bn:W3.cell? ⟨w2.heap.size,m,none⟩=some (.string (aC P)):=by
  rw [<-aa eP,<-kn,cell_of_row _ _ _ _ _ _ (heap_alloc_new w2 _)];have:m=0\/m=1\/m=2\/m=3\/m=4\/m=5\/m=6\/m=7\/m=8\/m=9\/m=10\/m=11\/m=12\/m=13\/m=14:=by omega
  rcases this with rfl | rfl | rfl | rfl | rfl | rfl | rfl | rfl | rfl | rfl | rfl | rfl | rfl | rfl | rfl<;>rfl
 obtain ⟨cc,W,hcv,u9,bW⟩:=vM W3 bP ab;have UC:=ae (ag b3 (ag u9 (ag bW z3)));clear kn b3 u9 bW bP lP z3;go_wp2;go_ret;obtain ⟨h,h1,d1,b2,z2⟩:=aa HH;obtain ⟨b3,u9,bW,z3⟩:=aa UC;have hz:=d1.2.1.size;have mn:=h1.lt;exact ⟨_,_,rfl,u9.mono (B':=w.heap.size) ab,((h1.low b2 h1.lt).low b3 ab).low bW ab,((d1.trans (Dr.below b2 h1.lt)).trans (Dr.below b3 ab)).trans (Dr.below bW ab)⟩}}
def Ny (x:Int):Int:=if x<230 then 1+x % 4 else if x<245 then x % 12 else 18446744073709551615-x % 3
theorem Js (h:0<=x/\x<256):0<=Ny x/\Ny x<18446744073709551616:=by
 unfold Ny;split;{omega};{split<;>omega}
theorem Gk (g:Nat) (p:Option Addr) (cd:List Int) (c t:Nat) (w:World) (h:lu w g p cd c t) (hb:bM cd) (hl:cd.length<=500) :
  Calls prog 78 #[.pointer (some ⟨g,0,none⟩)] w fun r w'=>r=.returned (.U (Ny (cd.getD t 0)))/\lu w' g p cd c (t+1)/\Dr g w w':=by
 have hr:=cG cd hb t;go_enter func78,ntmps78;go_wp2_with fail;refine (fD g p cd c t _ h hb hl).mono ?_;rintro r w1 ⟨rfl,h1,d1⟩;obtain ⟨x,ex⟩:=ax (cd.getD t 0);rw [<-ex] at hr ⊢;have HH:=ae (ag h1 d1);have EX:=ae ex;clear ex h h1 d1;by_cases a1:x<230;{have E1:=ae (show Ny x=1+x % 4 by unfold Ny;rw [if_pos a1]);go_wp2;go_ret;exact ⟨by rw [<-aa EX,aa E1];rfl,aa HH⟩};{by_cases a2:x<245;{have E1:=ae (show Ny x=x % 12 by unfold Ny;rw [if_neg a1,if_pos a2]);go_wp2;go_ret;exact ⟨by rw [<-aa EX,aa E1];rfl,aa HH⟩};{have E1:=ae (show Ny x=18446744073709551615-x % 3 by unfold Ny;rw [if_neg a1,if_neg a2]);go_wp2;go_ret;exact ⟨by rw [<-aa EX,aa E1];rfl,aa HH⟩}}
end Go.Proofs.YtcfcafeciggjeaaGreatDoor
