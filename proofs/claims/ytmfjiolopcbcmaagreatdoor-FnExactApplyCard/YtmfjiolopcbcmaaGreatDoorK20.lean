import Derived.Test.YtmfjiolopcbcmaaGreatDoorK18
namespace Go.Proofs.YtmfjiolopcbcmaaGreatDoor
set_option maxHeartbeats 3200000
set_option linter.unusedVariables false
set_option linter.unusedSimpArgs false
set_option maxRecDepth 100000
open Go.ChangeShapes Go.WideShapes Go.ChangeAt Go.RowKit Go.Maps Go.Proofs.Tryz
variable {D:DataW Unit} {P:Program} {b bn bs i j:Nat} {e g t x:Int} {k:TypeId} {l m:List Int} {nd:aA} {ns:List aA} {ss:List aR} {w w' w0:World}
section
variable {P:Program} (w:World) {ops:Array Oper} {rest:List Oper} {o:Oper} {a:Act} {Q:Exit->Act->World->Prop}
theorem ki (hg:o.guard=none) (m x:Operand) (t:TypeId) (E6:o.op=Op.lookup t m x true) (k e:TypeId) (K:Keyed P k) (ht:P.underlying t=some (.map k e)) (hz:(zeroValue e).run P w=.ok (.pointer none) w) (b n:Nat) (D:DataW Unit) (l:List (Lit × Nat)) (hM:dZ D l)
  (hm:a.eval m=.map (some b)) (aS:w.ownsMap P k aT b n D) (key:Value) (p:Lit × Nat) (hp:p∈l) (hx:a.eval x=key) (cD:keyOf P k key=some p.1)
  (hK:wpList P ops Q rest (a.put o.dst (.tuple #[.pointer (some ⟨p.2,0,none⟩),.bool true])) w):wpList P ops Q (o::rest) a w:=
 wpList_lookup_own_ok w hg m x t E6 k e K ht aT hz .nil [] rfl b n D hm aS key p.1 hx cD (fun v ps hv=>by rw [hM.at' p hp] at hv;obtain rfl:=gJ hv;rw [(hM.hs p.1).2 ⟨p,hp,rfl⟩];exact hK)
theorem pD (hg:o.guard=none) (m x:Operand) (t:TypeId) (E6:o.op=Op.lookup t m x true) (k e:TypeId) (K:Keyed P k) (ht:P.underlying t=some (.map k e)) (hz:(zeroValue e).run P w=.ok (.pointer none) w) (b n:Nat) (D:DataW Unit) (l:List (Lit × Nat)) (hM:dZ D l)
  (hm:a.eval m=.map (some b)) (aS:w.ownsMap P k aT b n D) (key:Value) (kl:Lit) (kc:∀ p∈l,p.1≠kl) (hx:a.eval x=key) (cD:keyOf P k key=some kl)
  (hK:wpList P ops Q rest (a.put o.dst (.tuple #[.pointer none,.bool false])) w):wpList P ops Q (o::rest) a w:=
 wpList_lookup_own_ok w hg m x t E6 k e K ht aT hz .nil [] rfl b n D hm aS key kl hx cD (fun v ps hv=>by
  have hh:Maps.has D kl=false:=by rw [Bool.eq_false_iff];intro h;obtain ⟨p,hp,e⟩:=(hM.hs kl).1 h;exact kc p hp e
  rw [Maps.atKey_of_not_has hh] at hv;obtain rfl:=nj hv;rw [hh];exact hK)
end
theorem jQ (w:World):(zeroValue 116).run prog w=.ok (.pointer none) w:=by kernel_rfl
theorem ll (h:fe ns l=some nd):nd.path=l/\∃ i:Nat,ns[i]?=some nd:=by
 have h1:=List.find?_some h;have h2:=List.mem_of_find?_eq_some h;exact ⟨by simpa using h1,List.getElem?_of_mem h2⟩
theorem xL (h:fe ns l=none):∀ nd∈ns,nd.path≠l:=by
 intro nd bf e;have:=List.find?_eq_none.1 h nd bf;simp [e] at this
theorem Dz {SB NB HB UB:List Nat} (l:List Int) (w:World) (cF:Hid (jO w0 w b bs bn e g x t ss ns SB NB HB UB)) (hB:Hid (cT l)) (qD:Hid (∀ nd∈ns,cT nd.path)) (hl:l.length<=1048577) (B:Bool) (eB:Hid (dy ns l=B)) :
  Calls prog 120 #[.pointer (some ⟨b,0,none⟩),.string (aB l)] w fun r w'=>r=.returned (.bool B)/\Below w.heap.size w w':=by
 have vw:w.cell? ⟨b,5,none⟩=some (.map (some bn)):=aq cF.hd 5;obtain ⟨D,oD,mD⟩:=cF.lh.own;have cD:keyOf prog 9 (.string (aB l))=some (bj l):=by rw [WideMaps.keyOf_string_mk underlying9 (by rw [dI];unfold maxLen;omega),jT]
 have OD:=ae oD;have MD:=ae mD;have xw:=ae cD;have ib:((aB l).toList==(aB [47]).toList)=decide (l=[47]):=rD (aa hB) (by intro y hy;simp at hy;omega);rw [show (aB [47]).toList=[47] from dW [47]] at ib;clear oD mD cD;obtain ⟨s,es⟩:=ax (aB l);rw [<-es] at ib xw ⊢;clear es;by_cases j9:l=[47];{
 have eT:B=true:=by rw [<-aa eB,dy,if_pos j9]
 subst eT;have hr:(s.toList==[47])=true:=by rw [ib];simp [j9]
 clear ib j9;go_enter func120,ntmps120;go_wp2;go_ret;exact ⟨rfl,Below.refl _ _⟩};{
 have hr:(s.toList==[47])=false:=by rw [ib];simp [j9]
 have iD:(match fe ns l with | some nd=>nd.owner==0 | none=>false)=B:=by rw [<-aa eB,dy,if_neg j9];rfl
 clear ib j9;cases hF:fe ns l with
 | none=>
  rw [hF] at iD;have eF:B=false:=iD.symm;subst eF;have kc:Hid (∀ p∈List.zipWith (fun (nd:aA) g=>(bj nd.path,g)) ns NB,p.1≠bj l):=by intro p hp;obtain ⟨i,nd,y,hx,hy,rfl⟩:=gj hp;intro ee;have hm:=aL hx;exact xL hF nd hm (jc (aa qD nd hm) hB ee)
  clear hF iD;go_enter func120,ntmps120;go_wp2_with (first
   | (at_lookup;refine pD _ rfl _ _ 112 rfl 9 _ ke underlying112 (jQ _) bn _ D _ MD rfl OD _ (bj l) kc rfl xw ?_)
   | go_in)
  go_ret;exact ⟨rfl,Below.refl _ _⟩
 | some nd=>
  rw [hF] at iD;replace iD:(nd.owner==0)=B:=iD;obtain ⟨hp,i,hi⟩:=ll hF;obtain ⟨g1,h1,u1,q1,q2,q3⟩:=cF.lh.at hi;obtain ⟨_,_,_,⟨V,a4,_⟩,_,_⟩:=cF.lh.aF i nd g1 h1 u1 hi q1 q2 q3;have hcO:w.cell? ⟨g1,1,none⟩=some (.int .u64 nd.owner):=aq a4 1;have eh:Hid ((bj l,g1)∈List.zipWith (fun (nd:aA) g=>(bj nd.path,g)) ns NB):=by show _∈_;rw [List.mem_iff_getElem?];refine ⟨i,?_⟩;rw [List.getElem?_zipWith,hi,q1];show some (bj nd.path,g1)=some (bj l,g1);rw [hp]
  obtain ⟨ow,ZX⟩:=aZ nd.owner;rw [ZX] at hcO iD;clear hF hp hi q1 q2 q3 a4 ZX;cases B with
  | true=>
   have ho:ow=0:=by simpa using iD
   subst ho;clear iD;go_enter func120,ntmps120;go_wp2_with (first
    | (at_lookup;refine ki _ rfl _ _ 112 rfl 9 _ ke underlying112 (jQ _) bn _ D _ MD rfl OD _ (bj l,g1) eh rfl xw ?_)
    | go_in)
   go_ret;exact ⟨rfl,Below.refl _ _⟩
  | false=>
   have ho:(ow==0)=false:=iD;clear iD;go_enter func120,ntmps120;go_wp2_with (first
    | (at_lookup;refine ki _ rfl _ _ 112 rfl 9 _ ke underlying112 (jQ _) bn _ D _ MD rfl OD _ (bj l,g1) eh rfl xw ?_)
    | go_in)
   go_ret;exact ⟨rfl,Below.refl _ _⟩}
def uR (e g x t:Int) (n m:Nat):Bool:=decide (e<=4611686018427387904/\g<=4611686018427387904/\x<=4611686018427387904/\0<=t/\t<=1000000/\n<=50/\m<=200)
theorem Ez (e g x t:Int) (p q:Option Addr) (c n d m:Nat) (w:World) (hn:n<=1048576) (hm:m<=1048576) (B:Bool) (eB:Hid (uR e g x t n m=B)) :
  Calls prog 68 #[cL e g x t (.slice p n c) (.slice q m d)] w fun r w'=>r=.returned (.bool B)/\Below w.heap.size w w':=by
 go_enter func68,ntmps68;go_wp2_with fail
 all_goals (
  go_ret;refine ⟨?_,ar.alloc ay _⟩;rw [<-aa eB];simp only [uR,Ending.returned.injEq,Value.bool.injEq])
 all_goals first | (simp_all;done) | (simp_all;omega) | (show Value.bool (decide ((m:Int)<=200))=Value.bool _;congr 1;rw [Bool.eq_iff_iff,decide_eq_true_iff,decide_eq_true_iff];omega) | skip
theorem wV (e g ow mo ep ge:Int) (P V U:Value) (p:Option Addr) (c n:Nat) (w:World) (hn:n<=1048576) (B:Bool) (eB:Hid (fI e g mo n ep ge=B)) :
  Calls prog 142 #[Ey P V ow mo (.slice p n c) ep ge U,.int .u64 e,.int .u64 g] w fun r w'=>r=.returned (.bool B)/\Below w.heap.size w w':=by
 go_enter func142,ntmps142;go_wp2_with fail
 all_goals (
  go_ret;refine ⟨?_,ar.alloc ay _⟩;rw [<-aa eB];simp only [fI,Ending.returned.injEq,Value.bool.injEq])
 all_goals first | (simp_all;done) | (simp_all;omega) | skip
def DE (l:List Int):Bool:=gM l.length (fun i j=>decide (l.getD i 0<l.getD j 0))
def si (e g:Int) (nd:aA):Bool:=vp nd.path&&(decide (nd.value.length<=40)&&(fI e g nd.mode nd.holders.length nd.aC nd.gen&&(DE nd.holders&&DE nd.watchers)))
theorem Bk (e g x t:Int) (S N:Value) (nd:aA) (pp vq hp up:Option Addr) (pc pn vc vn hc hh uc un:Nat) (uj:Hid (nd.path.length=pn)) (Ir:Hid (nd.value.length=vn)) (yr:Hid (nd.holders.length=hh)) (AZ:Hid (nd.watchers.length=un)) (w:World)
  (h0:Rd w (.slice pp pn pc) nd.path) (h4:iA w (.slice hp hh hc) nd.holders) (h7:iA w (.slice up un uc) nd.watchers) (NM:Hid (cT nd.path)) (Ky:pn<=1048576) (hvn:vn<=1048576) (Ji:hh<=1048576) (PF:un<=1048576) (oE:dh (.slice pp pn pc)) (yh:ML w) (B:Bool) (eB:Hid (si e g nd=B)) :
  Calls prog 116 #[Ey (.slice pp pn pc) (.slice vq vn vc) nd.owner nd.mode (.slice hp hh hc) nd.aC nd.gen (.slice up un uc),cL e g x t S N] w fun r w'=>r=.returned (.bool B)/\Below w.heap.size w w':=by
 obtain ⟨jg,jf⟩:=oE.of;obtain ⟨ow,mo,ep,ge,e1,e2,e3,e4⟩:∃ a b c d,nd.owner=a/\nd.mode=b/\nd.aC=c/\nd.gen=d:=⟨_,_,_,_,rfl,rfl,rfl,rfl⟩
 rw [e1,e2,e3,e4];have HR:=ae fun (w':World) (hb:Below w.heap.size w w')=>ag (h0.below hb) (ag (h4.below hb) (ag (h7.below hb) (yh.below hb)));obtain ⟨T1,E1⟩:∃ T,Hid (vp nd.path=T):=⟨_,(by show _=_;rfl)⟩;obtain ⟨T3,E3⟩:∃ T,Hid (fI e g mo hh ep ge=T):=⟨_,(by show _=_;rfl)⟩;obtain ⟨T4,E4⟩:∃ T,Hid (gM hh (fun i j=>decide (nd.holders.getD i 0<nd.holders.getD j 0))=T):=⟨_,(by show _=_;rfl)⟩;obtain ⟨T5,E5⟩:∃ T,Hid (gM un (fun i j=>decide (nd.watchers.getD i 0<nd.watchers.getD j 0))=T):=⟨_,(by show _=_;rfl)⟩;have hB:B=(T1&&(decide (vn<=40)&&(T3&&(T4&&T5)))):=by rw [<-aa eB,si,DE,DE,e2,e3,e4,aa Ir,aa yr,aa AZ,aa E1,aa E3,aa E4,aa E5]
 have HB:=ae hB;clear h0 h4 h7 yh hB eB e1 e2 e3 e4 oE;obtain ⟨W,hW⟩:=ax ((w.alloc (.cells #[.slice pp pn pc,.slice vq vn vc,.int .u64 ow,.int .i64 mo,.slice hp hh hc,.int .u64 ep,.int .u64 ge,.slice up un uc] 103)).alloc (.cells #[.int .u64 e,.int .u64 g,.int .u64 x,.int .i64 t,S,N] 35));have bW:Below w.heap.size w W:=by rw [hW];exact (ar.alloc ay _).alloc (by simp) _
 have k0:W.cell? ⟨w.heap.size,0,none⟩=some (.slice pp pn pc):=by rw [hW];simp
 have k1:W.cell? ⟨w.heap.size,1,none⟩=some (.slice vq vn vc):=by rw [hW];simp
 have k2:W.cell? ⟨w.heap.size,2,none⟩=some (.int .u64 ow):=by rw [hW];simp
 have k3:W.cell? ⟨w.heap.size,3,none⟩=some (.int .i64 mo):=by rw [hW];simp
 have k4:W.cell? ⟨w.heap.size,4,none⟩=some (.slice hp hh hc):=by rw [hW];simp
 have k5:W.cell? ⟨w.heap.size,5,none⟩=some (.int .u64 ep):=by rw [hW];simp
 have k6:W.cell? ⟨w.heap.size,6,none⟩=some (.int .u64 ge):=by rw [hW];simp
 have k7:W.cell? ⟨w.heap.size,7,none⟩=some (.slice up un uc):=by rw [hW];simp
 have k8:W.cell? ⟨w.heap.size+1,0,none⟩=some (.int .u64 e):=by rw [hW];simp
 have k9:W.cell? ⟨w.heap.size+1,1,none⟩=some (.int .u64 g):=by rw [hW];simp
 go_enter func116,ntmps116;go_wp2_with fail;rw [<-hW];clear hW;refine (EU pp pc pn nd.path uj _ (aa HR _ bW).1 NM Ky jg jf (aa HR _ bW).2.2.2 T1 E1).mono ?_;rintro r w1 ⟨rfl,aK⟩;have b1:=ai bW aK;cases T1 with
 | false=>
  have eF:B=false:=by rw [aa HB];rfl
  subst eF;clear k0 k1 k2 k3 k4 k5 k6 k7 k8 k9;go_wp2;go_ret;exact ⟨rfl,b1⟩
 | true=>
  replace k0:=af k0 aK;replace k1:=af k1 aK;replace k2:=af k2 aK;replace k3:=af k3 aK;replace k4:=af k4 aK;replace k5:=af k5 aK;replace k6:=af k6 aK;replace k7:=af k7 aK;replace k8:=af k8 aK;replace k9:=af k9 aK;clear aK bW;by_cases hv:(vn:Int)<=40;{
 have rM:Hid (B=(T3&&(T4&&T5))):=by
  show _=_;rw [aa HB,show decide (vn<=40)=true by (rw [decide_eq_true_iff];omega)]
  rfl
 clear HB;go_wp2_with fail;refine (wV e g ow mo ep ge _ _ _ hp hc hh _ Ji T3 E3).mono ?_;rintro r w2 ⟨rfl,aG⟩;have b2:=ai b1 aG;cases T3 with
 | false=>
  have eF:B=false:=by rw [aa rM];rfl
  subst eF;clear k0 k1 k2 k3 k4 k5 k6 k7 k8 k9;go_wp2;go_ret;exact ⟨rfl,b2⟩
 | true=>
  replace k4:=af k4 aG;replace k7:=af k7 aG;clear k0 k1 k2 k3 k5 k6 k8 k9 aG;go_wp2_with fail;refine (DC hp hc hh nd.holders yr _ (aa HR _ b2).2.1 Ji T4 E4).mono ?_;rintro r w3 ⟨rfl,cX⟩;have b3:=ai b2 cX;cases T4 with
  | false=>
   have eF:B=false:=by rw [aa rM];rfl
   subst eF;clear k4 k7;go_wp2;go_ret;exact ⟨rfl,b3⟩
  | true=>
   have eT:B=T5:=by rw [aa rM];rfl
   subst eT;replace k7:=af k7 cX;clear k4 cX;go_wp2_with fail;refine (DC up uc un nd.watchers AZ _ (aa HR _ b3).2.2.1 PF B E5).mono ?_;rintro r w4 ⟨rfl,fk⟩;have b4:=ai b3 fk;clear k7;go_wp2;go_ret;exact ⟨rfl,b4⟩};{
 have eF:B=false:=by rw [aa HB,show decide (vn<=40)=false by (rw [decide_eq_false_iff_not];omega)];rfl
 subst eF;clear k2 k3 k4 k5 k6 k7 k8 k9;go_wp2;go_ret;exact ⟨rfl,b1⟩}
def iF (x:Int) (ss:List aR):Bool:=(List.range ss.length).all (fun i=>uI x (ss.getD i (0,0,[])))&&gM ss.length (fun i j=>decide ((ss.getD i (0,0,[])).1<(ss.getD j (0,0,[])).1))
def iI (e g:Int) (ns:List aA):Bool:=(List.range ns.length).all (fun i=>si e g (ns.getD i dQ))&&gM ns.length (fun i j=>!leB (ns.getD j dQ).path (ns.getD i dQ).path)
theorem qJ (e g x t:Int) (p:Option Addr) (c n:Nat) (N:Value) (ss:List aR) (en:Hid (ss.length=n)) (w:World) (h:jP w (.slice p n c) ss) (hn:n<=1048576)
  (sR:Hid (∀ s∈ss,s.2.2.length<=1048576/\∀ e∈s.2.2,cT e.2/\e.2.length<=1048576)) (yh:ML w) (B:Bool) (eB:Hid (iF x ss=B)) :
  Calls prog 69 #[cL e g x t (.slice p n c) N] w fun r w'=>r=.returned (.bool B)/\Below w.heap.size w w':=by
 have HR:=ae fun (w':World) (hb:Below w.heap.size w w')=>ag (h.below hb) (yh.below hb);obtain ⟨T2,E2⟩:∃ T,Hid (gM n (fun i j=>decide ((ss.getD i (0,0,[])).1<(ss.getD j (0,0,[])).1))=T):=⟨_,(by show _=_;rfl)⟩;have HB:Hid (B=((List.range n).all (fun i=>uI x (ss.getD i (0,0,[])))&&T2)):=by show _=_;rw [<-aa eB,iF,aa en,aa E2]
 go_enter func69,ntmps69;go_wp2_with fail;obtain ⟨W,hW⟩:=ax (w.alloc (.cells #[.int .u64 e,.int .u64 g,.int .u64 x,.int .i64 t,.slice p n c,N] 35));have bW:Below w.heap.size w W:=by rw [hW];exact ar.alloc ay _
 have jf:W.cell? ⟨w.heap.size,2,none⟩=some (.int .u64 x):=by rw [hW];simp
 have Af:W.cell? ⟨w.heap.size,4,none⟩=some (.slice p n c):=by rw [hW];simp
 rw [<-hW];have BW:=ae bW;have IV:=ae (ag jf Af)
 go_loopw [8] (fun iv wr=>∃ k:Nat,k<=n/\iv=.int .i64 k/\Hid ((List.range k).all (fun i=>uI x (ss.getD i (0,0,[])))=true)/\Below W.heap.size W wr) (fun iv _=>n-(intOf iv).toNat)
 case atStart=>exact ⟨0,Nat.zero_le _,rfl,(by show _=_;rfl),Below.refl _ _⟩
 case round =>(
 obtain ⟨k,hk,rfl,ic,aE⟩:=hrel;have BB:=ai BW aE;have i2:=af IV.1 aE;have i4:=af IV.2 aE;by_cases aU:k<n;{
 have aV:(k:Int)<(n:Int):=by omega
 have bH:k<ss.length:=by rw [aa en];exact aU
 obtain ⟨⟨I,D,Q⟩,hy⟩:∃ y,ss[k]?=some y:=⟨_,aH bH⟩;have xk:ss.getD k (0,0,[])=(I,D,Q):=by rw [List.getD_eq_getElem?_getD,hy];rfl
 obtain ⟨b,o,rfl,Sh,Si,u,Jk,zL⟩:∃ b o,p=some ⟨b,o,none⟩/\wr.cell? ⟨b,o+k*3,none⟩=some (.int .u64 I)/\wr.cell? ⟨b,o+k*3+1,none⟩=some (.int .i64 D)/\∃ u,wr.cell? ⟨b,o+k*3+2,none⟩=some u/\iO wr u Q:=by obtain ⟨p',c',ev,hd⟩:=(aa HR _ BB).1;simp only [Value.slice.injEq] at ev;obtain ⟨rfl,-,-⟩:=ev;rcases hd with h0 | ⟨b,o,h1,h2⟩;{rw [h0] at bH;simp at bH};{exact ⟨b,o,h1,h2 k _ hy⟩}
 obtain ⟨Zn,Zo⟩:=aa sR _ (aL hy);obtain ⟨pq,cq,rfl,-⟩:=id zL;obtain ⟨m,em⟩:=aZ Q.length;rw [em] at zL Jk;have hm:m<=1048576:=by rw [<-em];exact Zn
 have EM:=ae em;have HBQ:Hid (∀ e∈Q,cT e.2/\e.2.length<=1048576):=Zo;obtain ⟨V,eV⟩:=aZ (uI x (I,D,Q));have EV:=ae eV;have HF:Hid (V=false->B=false):=fun h=>by rw [aa HB,dB aU (by rw [xk,eV];exact h)];rfl
 have HT:Hid (V=true->Hid ((List.range (k+1)).all (fun i=>uI x (ss.getD i (0,0,[])))=true)):=fun h=>bQ (aa ic) (by rw [xk,eV];exact h);have b2:Below wr.heap.size wr ((wr.alloc (.cells #[.int .u64 I,.int .i64 D,.slice pq m cq] 95))):=ar.alloc ay _;have Oe:=ae (zL.below b2);have HML:=ae ((aa HR _ BB).2.below b2);have j2:=af i2 b2;go_wp2_with fail;refine (yR I D x pq cq m Q EM _ (by exact Oe) hm HBQ (by exact HML) V EV).mono ?_;rintro r w2 ⟨rfl,aG⟩;have b3:=ai aE (ai b2 aG);have B3:=ai BW b3;cases V with
 | false=>
  have eF:=aa HF rfl;subst eF;go_wp2;go_ret;exact ⟨rfl,B3⟩
 | true=>
  have rJ:=aa HT rfl;go_wp2;go_roundw
  case rel=>exact ⟨k+1,by omega,by go_num,rJ,b3⟩
  case measure=>simp [intOf];omega}
 {
 have aV:¬ (k:Int)<(n:Int):=by omega
 have ui:k=n:=by omega
 have eT:B=T2:=by rw [aa HB,show (List.range n).all (fun i=>uI x (ss.getD i (0,0,[])))=true from ui▸aa ic,Bool.true_and]
 subst eT;go_wp2_with fail;refine (MT p c n ss en _ (aa HR _ BB).1.rd hn B E2).mono ?_;rintro r w2 ⟨rfl,aG⟩;have b3:=ai BB aG;go_wp2;go_ret;exact ⟨rfl,b3⟩})
theorem uv (e g x t:Int) (S:Value) (q:Option Addr) (d m:Nat) (ns:List aA) (em:Hid (ns.length=m)) (w:World) (h:jB w (.slice q m d) ns) (hm:m<=1048576)
  (du:Hid (∀ nd∈ns,cT nd.path/\nd.path.length<=1048576/\nd.value.length<=1048576/\nd.holders.length<=1048576/\nd.watchers.length<=1048576)) (yh:ML w) (B:Bool) (eB:Hid (iI e g ns=B)) :
  Calls prog 70 #[cL e g x t S (.slice q m d)] w fun r w'=>r=.returned (.bool B)/\Below w.heap.size w w':=by
 have HR:=ae fun (w':World) (hb:Below w.heap.size w w')=>ag (h.below hb) (yh.below hb);obtain ⟨T2,E2⟩:∃ T,Hid (gM m (fun i j=>!leB (ns.getD j dQ).path (ns.getD i dQ).path)=T):=⟨_,(by show _=_;rfl)⟩;have HB:Hid (B=((List.range m).all (fun i=>si e g (ns.getD i dQ))&&T2)):=by show _=_;rw [<-aa eB,iI,aa em,aa E2]
 go_enter func70,ntmps70;go_wp2_with fail;obtain ⟨W,hW⟩:=ax (w.alloc (.cells #[.int .u64 e,.int .u64 g,.int .u64 x,.int .i64 t,S,.slice q m d] 35));have bW:Below w.heap.size w W:=by rw [hW];exact ar.alloc ay _
 have sw:js W w.heap.size e g x t S (.slice q m d):=by rw [hW];simp [js]
 rw [<-hW];have BW:=ae bW;have Ol:=ae sw
 go_loopw [8] (fun iv wr=>∃ k:Nat,k<=m/\iv=.int .i64 k/\Hid ((List.range k).all (fun i=>si e g (ns.getD i dQ))=true)/\Below W.heap.size W wr) (fun iv _=>m-(intOf iv).toNat)
 case atStart=>exact ⟨0,Nat.zero_le _,rfl,(by show _=_;rfl),Below.refl _ _⟩
 case round =>(
 obtain ⟨k,hk,rfl,ic,aE⟩:=hrel;have BB:=ai BW aE;obtain ⟨i0,i1,i2,i3,i4,i5⟩:=Ol.below aE;by_cases aU:k<m;{
 have aV:(k:Int)<(m:Int):=by omega
 have bH:k<ns.length:=by rw [aa em];exact aU
 obtain ⟨nd,hy⟩:∃ y,ns[k]?=some y:=⟨_,aH bH⟩;have xk:ns.getD k dQ=nd:=by rw [List.getD_eq_getElem?_getD,hy];rfl
 obtain ⟨b,o,rfl,hA⟩:=(aa HR _ BB).1.at (by omega);obtain ⟨P,V,H,U,bf⟩:=hA k nd hy;obtain ⟨wN,iD,NN,Jq,Su⟩:=aa du _ (aL hy);obtain ⟨pp,pc,pn,rfl,uj⟩:=bf.r0.ed;obtain ⟨Nu,vc,vn,rfl,Ir⟩:=bf.r1.ed;obtain ⟨hp,hc,hh,rfl,yr⟩:=bf.r4.ed;obtain ⟨up,uc,un,rfl,AZ⟩:=bf.r7.ed;have Ky:pn<=1048576:=by rw [<-aa uj];exact iD
 have hvn:vn<=1048576:=by rw [<-aa Ir];exact NN
 have Ji:hh<=1048576:=by rw [<-aa yr];exact Jq
 have PF:un<=1048576:=by rw [<-aa AZ];exact Su
 have Ju:Hid (cT nd.path):=wN;obtain ⟨T,eV⟩:=aZ (si e g nd);have EV:=ae eV;have HF:Hid (T=false->B=false):=fun h=>by rw [aa HB,dB aU (by rw [xk,eV];exact h)];rfl
 have HT:Hid (T=true->Hid ((List.range (k+1)).all (fun i=>si e g (ns.getD i dQ))=true)):=fun h=>bQ (aa ic) (by rw [xk,eV];exact h);have b2:Below wr.heap.size wr (wr.alloc (.cells #[.slice pp pn pc,.slice Nu vn vc,.int .u64 nd.owner,.int .i64 nd.mode,.slice hp hh hc,.int .u64 nd.aC,.int .u64 nd.gen,.slice up un uc] 103)):=ar.alloc ay _;have Nh:=ae (bf.below b2);have HML:=ae ((aa HR _ BB).2.below b2);obtain ⟨c0,c1,c2,c3,c4,c5,c6,c7,-,-,-,-,-⟩:=bf;have j0:=af i0 b2;have j1:=af i1 b2;have j2:=af i2 b2;have j3:=af i3 b2;have j4:=af i4 b2;have j5:=af i5 b2;go_wp2_with fail;refine (Bk e g x t _ _ nd pp Nu hp up pc pn vc vn hc hh uc un uj Ir yr AZ _ (by exact Nh.r0) (by exact Nh.r4) (by exact Nh.r7) Ju Ky hvn Ji PF Nh.k0 (by exact HML) T EV).mono ?_;rintro r w2 ⟨rfl,aG⟩;have b3:=ai aE (ai b2 aG);have B3:=ai BW b3;cases T with
 | false=>
  have eF:=aa HF rfl;subst eF;go_wp2;go_ret;exact ⟨rfl,B3⟩
 | true=>
  have rJ:=aa HT rfl;go_wp2;go_roundw
  case rel=>exact ⟨k+1,by omega,by go_num,rJ,b3⟩
  case measure=>simp [intOf];omega}
 {
 have aV:¬ (k:Int)<(m:Int):=by omega
 have ui:k=m:=by omega
 have eT:B=T2:=by rw [aa HB,show (List.range m).all (fun i=>si e g (ns.getD i dQ))=true from ui▸aa ic,Bool.true_and]
 subst eT;go_wp2_with fail;refine (MU q d m ns em _ (aa HR _ BB).1 hm B E2).mono ?_;rintro r w2 ⟨rfl,aG⟩;have b3:=ai BB aG;go_wp2;go_ret;exact ⟨rfl,b3⟩})
theorem Un:∀ (key:Value) (kl:Lit),keyOf prog 9 key=some kl->∃ s:ByteArray,key=.string s:=by
 intro key kl hk;cases key<;>simp [keyOf,underlying9,mapKey] at hk
 exact ⟨_,rfl⟩
theorem Cp {s:ByteArray} (h:keyOf prog 9 (.string s)=some (bj l)):s=aB l:=by
 simp [keyOf,underlying9,mapKey] at h;exact Km h.2
theorem lr (hl:cT l) (hm:cT m):(bj l).sameKey (bj m)=decide (l=m):=by
 rw [Bool.eq_iff_iff,WideAt.sameKey_iff (by trivial),decide_eq_true_iff];exact ⟨fun h=>jc hl hm h,fun h=>by rw [h]⟩
theorem Fh {SB NB HB UB:List Nat} (w:World) (cF:Hid (jO w0 w b bs bn e g x t ss ns SB NB HB UB)) (qD:Hid (∀ nd∈ns,cT nd.path/\nd.path.length<=1048576)) (B:Bool) (eB:Hid (ns.all (fun nd=>dy ns (de nd.path))=B)) :
  Calls prog 71 #[.pointer (some ⟨b,0,none⟩)] w fun r w'=>r=.returned (.bool B)/\Below w.heap.size w w':=by
 have vw:w.cell? ⟨b,5,none⟩=some (.map (some bn)):=aq cF.hd 5;obtain ⟨D,oD,mD⟩:=cF.lh.own;obtain ⟨m,em⟩:=aZ ns.length;rw [em] at oD;have aG3:Hid (∀ nd∈ns,cT nd.path):=fun nd h=>(aa qD nd h).1;have MD:=ae mD;go_enter func71,ntmps71;go_wp2_with (first
  | (at_range;refine wpList_range_own _ rfl _ 112 rfl 9 _ ke underlying112 _ bn m _ rfl oD ?_;intro w1 oA tA Gw)
  | go_in)
 go_frame
 go_loopw [3] (fun _ wr=>∃ (left:Lit->Bool) (gu:Nat),wr.ranges prog 9 aT bn w.heap.size m D left gu/\Hid (∀ nd∈ns,left (bj nd.path)=false->dy ns (de nd.path)=true)/\Below w.heap.size w wr) (fun _ wr=>wr.rangeLeft bn w.heap.size)
 case atStart =>(
 refine ⟨_,_,oA,fun nd bf hl=>?_,fu tA⟩;exfalso;obtain ⟨i,hi⟩:=List.getElem?_of_mem bf;obtain ⟨g1,h1,u1,q1,q2,q3⟩:=cF.lh.at hi;have:Maps.has D (bj nd.path)=true:=(MD.hs _).2 ⟨(bj nd.path,g1),by rw [List.mem_iff_getElem?];refine ⟨i,?_⟩;rw [List.getElem?_zipWith,hi,q1],rfl⟩
 rw [this] at hl;cases hl)
 case round =>(
 obtain ⟨left,gu,mF,ic,aE⟩:=hrel;have jl:=ae (cF.below aE);go_wp2_with (first
  | (at_next;refine gC _ rfl _ rfl 9 ke (fun s:ByteArray=>.string s) Un bn w.heap.size m _ _ MD _ _ rfl mF ?_ ?_)
  | go_in)
 {
 intro _ tY;have eT:B=true:=by rw [<-aa eB,List.all_eq_true];exact fun nd bf=>aa ic nd bf (tY _)
 subst eT;go_wp2;go_ret;exact ⟨rfl,aE⟩};{
 intro s pl g1 w2 tG cD hp hlp tp aU dS fO wE;obtain ⟨i,nd,g1',hi,wD,ee⟩:=gj hp;simp only [Prod.mk.injEq] at ee;obtain ⟨rfl,rfl⟩:=ee;have aG:Below w.heap.size w w2:=br aE dS aE.size (fun j hj=>by cases hj;exact Nat.le_refl _);obtain rfl:=Cp cD;have bf:=aL hi;obtain ⟨wN,iD⟩:=aa qD nd bf;obtain ⟨T,eT⟩:=aZ (dy ns (de nd.path));have ET:=ae eT;have HF:Hid (T=false->B=false):=fun h=>by rw [<-aa eB,List.all_eq_false];exact ⟨nd,bf,by rw [eT,h];simp⟩
 have HT:Hid (T=true->Hid (∀ nd'∈ns,(fun z=>left z&&!z.sameKey (bj nd.path)) (bj nd'.path)=false->dy ns (de nd'.path)=true)):=fun h nd' YE hl=>by simp only [lr (aa qD nd' YE).1 wN] at hl;by_cases ep:nd'.path=nd.path;{rw [ep,eT,h]};{simp [ep] at hl;exact ic nd' YE hl}
 have kK:Hid (cT nd.path):=wN;have qw:=ae (ld wN);have jy:(de nd.path).length<=1048577:=by unfold de;split;{simp};{rw [List.length_take];omega}
 have aQ5:=ae (cF.below aG);have K8:(Instr.entry (.pointer (some ⟨w.heap.size,0,none⟩))).run prog w2=.ok (.tuple #[.string (aB nd.path),.pointer (some ⟨g1,0,none⟩)]) w2:=wE;go_wp2_with fail;refine (lT nd.path _ (by show _=_;rfl) kK iD _).mono ?_;rintro r w3 ⟨rfl,rfl⟩;go_wp2_with fail;refine (Dz (de nd.path) _ aQ5 qw aG3 jy T ET).mono ?_;rintro r w4 ⟨rfl,fk⟩;have b4:=ai aG fk;cases T with
 | false=>
  have eF:=aa HF rfl;subst eF;go_wp2;go_ret;exact ⟨rfl,b4⟩
 | true=>
  have rJ:=aa HT rfl;have vj:=tp.kept (az fk none) (by simp) (by simp);go_wp2;go_roundw
  case rel=>exact ⟨_,tG,vj,rJ,b4⟩
  case measure=>rw [vj.left_eq,mF.left_eq];exact aU})
def rH (nd:aA) (i:Int):Prop:=(nd.owner≠0/\i=nd.owner)\/i∈nd.holders\/i∈nd.watchers
theorem cI.del {s:List Int} (h:cI D s) (i:Int):cI (D.del (.int .u64 i)) (s.filter fun j=>decide (j≠i)):=by
 intro k';by_cases e:k'=.int .u64 i;{subst e;rw [Maps.has_del_same];simp};{rw [Maps.has_del_other e,h k'];constructor;{rintro ⟨j,hj,rfl⟩;refine ⟨j,?_,rfl⟩;rw [List.mem_filter];exact ⟨hj,by simpa using fun hh=>e (by rw [hh])⟩};{rintro ⟨j,hj,rfl⟩;exact ⟨j,(List.mem_filter.1 hj).1,rfl⟩}}
theorem az3:∀ (key:Value) (kl:Lit),keyOf prog 22 key=some kl->∃ i:Int,key=.int .u64 i:=by
 intro key kl hk;obtain ⟨x,rfl,_⟩:=keyOf_int_inv underlying22 hk;exact ⟨x,rfl⟩
theorem mH.uniq {NB HB UB:List Nat} (h:mH w0 w bn ns NB HB UB) {nd':aA} (hi:ns[i]?=some nd) (hj:ns[j]?=some nd') (hp:nd.path=nd'.path):nd=nd':=by
 obtain ⟨D,_,mD⟩:=h.own;obtain ⟨g1,_,_,q1,_,_⟩:=h.at hi;obtain ⟨g2,_,_,q2,_,_⟩:=h.at hj;have m1:(bj nd.path,g1)∈List.zipWith (fun (nd:aA) g=>(bj nd.path,g)) ns NB:=by rw [List.mem_iff_getElem?];exact ⟨i,by rw [List.getElem?_zipWith,hi,q1]⟩
 have m2:(bj nd'.path,g2)∈List.zipWith (fun (nd:aA) g=>(bj nd.path,g)) ns NB:=by rw [List.mem_iff_getElem?];exact ⟨j,by rw [List.getElem?_zipWith,hj,q2]⟩
 have e1:=mD.at' _ m1 .nil;have e2:=mD.at' _ m2 .nil;simp only [hp] at e1;simp only at e2;rw [e1] at e2;simp only [DataW.lit.injEq,Lit.int.injEq,true_and,Int.natCast_inj] at e2;subst e2;have l1:=(aM.1 q1).1;have l2:=(aM.1 q2).1;have tv:=List.pairwise_iff_getElem.1 h.lh;have v1:=(aM.1 q1).2;have v2:=(aM.1 q2).2;have:i=j:=by rcases Nat.lt_trichotomy i j with hh | hh | hh;{exact absurd (v1.trans v2.symm) (tv i j l1 l2 hh)};{exact hh};{exact absurd (v2.trans v1.symm) (tv j i l2 l1 hh)}
 subst this;rw [hi] at hj;cases hj
 rfl
theorem wY {SB NB HB UB:List Nat} (w:World) (cF:Hid (jO w0 w b bs bn e g x t ss ns SB NB HB UB)) (qD:Hid (∀ nd∈ns,cT nd.path/\nd.holders.length<=1048576/\nd.watchers.length<=1048576)) (RM:Hid (∀ nd∈ns,0<=nd.owner/\nd.owner<18446744073709551616)) (m:Nat) (em:Hid (ns.length=m)) (hm:m<=1048576) (n:Nat) (en:Hid (ss.length=n)) :
  Calls prog 72 #[.pointer (some ⟨b,0,none⟩)] w fun r w'=>∃ nb k D s,r=.returned (.map (some nb))/\w'.ownsMap prog 22 unitElem nb k D/\cI D s/\(∀ i,i∈s↔(∃ nd∈ns,rH nd i)/\¬ ∃ z∈ss,z.1=i)/\Below w.heap.size w w':=by
 have vw:w.cell? ⟨b,5,none⟩=some (.map (some bn)):=aq cF.hd 5;have Af:w.cell? ⟨b,4,none⟩=some (.map (some bs)):=aq cF.hd 4;have x8:b<w.heap.size:=aI cF.hd;obtain ⟨D,oD,mD⟩:=cF.lh.own;obtain ⟨Ds,oS,mS⟩:=cF.En.own;rw [aa em] at oD;rw [aa en] at oS;have MD:=ae mD;have MS:=ae mS;have OS:=ae oS;have Ti:=ae Af;have DU:=@run_makeMap prog;have b1:Below w.heap.size w (w.alloc (.map #[] 0)):=ar.alloc ay _;have aG0:=af vw b1;have oD1:=oD.alloc (.map #[] 0);go_enter func72,ntmps72;go_wp2_with (first
  | (at_range;refine wpList_range_own _ rfl _ 112 rfl 9 _ ke underlying112 _ bn m _ rfl oD1 ?_;intro w1 oA tA Gw)
  | go_in)
 go_frame
 have gi:(w.alloc (.map #[] 0)).heap.size=w.heap.size+1:=by simp
 have aK:Below w.heap.size w w1:=ai b1 (fu tA);have o0:w1.ownsMap prog 22 (unitElem (H:=Unit)) w.heap.size 0 (.map []):=(World.ownsMap_made w _ _ _).kept tA (by simp);rw [gi] at oA ⊢;have HZ1:=ae gi
 go_loopw [5] (fun _ wr=>∃ (left:Lit->Bool) (gu k:Nat) (E:DataW Unit) (s:List Int),wr.ranges prog 9 aT bn (w.heap.size+1) m D left gu/\k+gu*2097153<=m*2097153/\wr.ownsMap prog 22 unitElem w.heap.size k E/\Hid (cI E s/\∀ i,i∈s↔∃ nd∈ns,left (bj nd.path)=false/\rH nd i)/\Below w.heap.size w wr) (fun _ wr=>wr.rangeLeft bn (w.heap.size+1))
 case atStart =>(
 refine ⟨_,_,0,_,[],oA,?_,o0,⟨cI.nil,fun i=>?_⟩,aK⟩;{have:=oD.size_le;omega};{
 constructor;{intro h;cases h};{
 rintro ⟨nd,bf,hl,_⟩;exfalso;obtain ⟨i,hi⟩:=List.getElem?_of_mem bf;obtain ⟨g1,h1,u1,q1,q2,q3⟩:=cF.lh.at hi;have:Maps.has D (bj nd.path)=true:=(MD.hs _).2 ⟨(bj nd.path,g1),by rw [List.mem_iff_getElem?];refine ⟨i,?_⟩;rw [List.getElem?_zipWith,hi,q1],rfl⟩
 rw [this] at hl;cases hl}})
 case round =>(
 obtain ⟨left,gu,k,E,s,mF,hkc,aS,jw,aE⟩:=hrel;go_wp2_with (first
  | (at_next;refine gC _ rfl _ rfl 9 ke (fun s:ByteArray=>.string s) Un bn (w.heap.size+1) m _ _ (aa MD) _ _ (by first | rfl | (rw [<-aa HZ1];rfl)) mF ?_ ?_)
  | go_in)
 {
 intro _ tY;have fO:Hid (∀ i,i∈s↔∃ nd∈ns,rH nd i):=fun i=>by rw [jw.2 i];constructor;{rintro ⟨nd,h1,_,h2⟩;exact ⟨nd,h1,h2⟩};{rintro ⟨nd,h1,h2⟩;exact ⟨nd,h1,tY _,h2⟩}
 have xV:=ae jw.1;have Af:=af Ti aE;have oS1:=OS.kept (az aE none) (by simp);obtain ⟨Y,eY⟩:=ax wr;subst eY;go_wp2_with (first
  | (at_range;refine wpList_range_own _ rfl _ 111 rfl 22 _ gp underlying111 _ bs n _ rfl oS1 ?_;intro w3 q9 pf hs3)
  | go_in)
 go_frame
 have xW:=aS.kept pf (by simp);have cX:Below w.heap.size w w3:=br aE pf aE.size (fun j hj=>by cases hj);have Je:w.heap.size<Y.heap.size:=aS.lt
 go_loopw [6] (fun _ wr=>∃ (left:Lit->Bool) (gu:Nat) (E:DataW Unit) (s':List Int),wr.ranges prog 22 aT bs Y.heap.size n Ds left gu/\wr.ownsMap prog 22 unitElem w.heap.size k E/\Hid (cI E s'/\∀ i,i∈s'↔i∈s/\¬ ∃ z∈ss,z.1=i/\left (.int .u64 i)=false)/\Below w.heap.size w wr) (fun _ wr=>wr.rangeLeft bs Y.heap.size)
 case atStart =>(
 refine ⟨_,_,E,s,q9,xW,⟨xV,fun i=>?_⟩,cX⟩;constructor;{
 intro hi;refine ⟨hi,?_⟩;rintro ⟨z,hz,rfl,hl⟩;obtain ⟨j,hj⟩:=List.getElem?_of_mem hz;obtain ⟨gz,PQ⟩:∃ gz,SB[j]?=some gz:=⟨_,aH (by rw [cF.En.len];exact (aM.1 hj).1)⟩;have:Maps.has Ds (.int .u64 z.1)=true:=(MS.hs _).2 ⟨(.int .u64 z.1,gz),by rw [List.mem_iff_getElem?];exact ⟨j,by rw [List.getElem?_zipWith,hj,PQ]⟩,rfl⟩
 rw [this] at hl;cases hl};{exact fun h=>h.1})
 case round =>(
 obtain ⟨left,gu,E1,s',mF,mw,jw,aE⟩:=hrel;go_wp2_with (first
  | (at_next;refine gC _ rfl _ rfl 22 gp (fun i:Int=>.int .u64 i) az3 bs Y.heap.size n _ _ MS _ _ rfl mF ?_ ?_)
  | go_in)
 {intro _ tY;have HS:=aa jw;go_wp2;go_ret;refine ⟨w.heap.size,k,E1,s',rfl,mw,HS.1,fun i=>?_,aE⟩;rw [HS.2 i,aa fO i];constructor;{rintro ⟨h1,h2⟩;exact ⟨h1,fun ⟨z,hz,e⟩=>h2 ⟨z,hz,e,tY _⟩⟩};{rintro ⟨h1,h2⟩;exact ⟨h1,fun ⟨z,hz,e,_⟩=>h2 ⟨z,hz,e⟩⟩}};{
 intro i0 pl g1 w4 tG cD hp hlp tp aU dS Yp wE;obtain ⟨j,z,g1',hj,YV,ee⟩:=gj hp;simp only [Prod.mk.injEq] at ee;obtain ⟨rfl,rfl⟩:=ee;obtain ⟨i1,e1,e2,Yk⟩:=keyOf_int_inv underlying22 cD;simp only [Value.int.injEq,true_and] at e1;simp only [Lit.int.injEq,true_and] at e2;subst e1;subst e2;have fk:Below w.heap.size w w4:=br aE dS aE.size (fun j hj=>by cases hj;omega);have sN:=mw.kept dS (by simp;omega);have K8:(Instr.entry (.pointer (some ⟨Y.heap.size,0,none⟩))).run prog w4=.ok (.tuple #[.int .u64 z.1,.pointer (some ⟨g1,0,none⟩)]) w4:=wE;have FP:Hid (cI (E1.del (.int .u64 z.1)) (s'.filter fun j=>decide (j≠z.1))/\∀ i,i∈(s'.filter fun j=>decide (j≠z.1))↔i∈s/\¬ ∃ y∈ss,y.1=i/\(fun q=>left q&&!q.sameKey (.int .u64 z.1)) (.int .u64 i)=false):=by
  refine ⟨jw.1.del z.1,fun i=>?_⟩;rw [List.mem_filter,jw.2 i];have hk:((Lit.int .u64 i).sameKey (.int .u64 z.1)=true)↔i=z.1:=by rw [WideAt.sameKey_iff (by trivial)];simp
  by_cases ei:i=z.1;{subst ei;simp only [ne_eq,not_true_eq_false,decide_false,Bool.false_eq_true,and_false,false_iff];rintro ⟨_,h2⟩;exact h2 ⟨z,aL hj,rfl,by simp [hk.2 rfl]⟩};{simp [ei,show (Lit.int .u64 i).sameKey (.int .u64 z.1)=false by (rw [Bool.eq_false_iff];exact fun h=>ei (hk.1 h))]}
 go_wp2_with (first
  | (at_delete;refine wpList_delete_own _ rfl _ _ 109 22 rfl _ gp underlying109 unitElem w.heap.size k _ rfl sN _ _ rfl (keyOf_int_mk underlying22 Yk) ?_;intro w5 vm Ut;go_frame)
  | go_in)
 have oB:=Ut.grown;have dH:Below w.heap.size w w5:=br fk oB fk.size (fun j hj=>by cases hj;exact Nat.le_refl _);have sr:=tp.kept oB (by have:=OS.lt;simp;omega) (by simp;omega);go_roundw
 case rel=>exact ⟨_,tG,_,_,sr,vm,FP,dH⟩
 case measure=>rw [sr.left_eq,mF.left_eq];exact aU})}
 {
 intro sb pl g1 w2 tG cD hp hlp tp aU dS fO wE;obtain ⟨i,nd,g1',hi,wD,ee⟩:=gj hp;simp only [Prod.mk.injEq] at ee;obtain ⟨rfl,rfl⟩:=ee;have aG:Below w.heap.size w w2:=br aE dS aE.size (fun j hj=>by cases hj;omega);obtain rfl:=Cp cD;have bf:=aL hi;obtain ⟨wN,Nz,AV⟩:=aa qD nd bf;obtain ⟨g2,h1,u1,q1,q2,q3⟩:=cF.lh.at hi;rw [wD] at q1;cases q1;obtain ⟨_,_,_,⟨V,a4,_⟩,⟨Dh,oh,sh⟩,⟨Du,ou,su⟩⟩:=cF.lh.aF i nd g1 h1 u1 hi wD q2 q3;have CL:g1<w.heap.size:=aI a4;have k1:w.cell? ⟨g1,1,none⟩=some (.int .u64 nd.owner):=aq a4 1;have k3:w.cell? ⟨g1,3,none⟩=some (.map (some h1)):=aq a4 3;have k6:w.cell? ⟨g1,6,none⟩=some (.map (some u1)):=aq a4 6;have SH:=ae sh;have SU:=ae su;have vo:=aS.kept dS (by first | (simp;done) | (simp;omega));have K8:(Instr.entry (.pointer (some ⟨w.heap.size+1,0,none⟩))).run prog w2=.ok (.tuple #[.string (aB nd.path),.pointer (some ⟨g1,0,none⟩)]) w2:=wE;have G8:∀ i:Int,((i∈s\/(nd.owner≠0/\i=nd.owner))\/i∈nd.holders)\/i∈nd.watchers↔∃ nd'∈ns,(fun z=>left z&&!z.sameKey (bj nd.path)) (bj nd'.path)=false/\rH nd' i:=by intro i0;rw [jw.2 i0];constructor;{rintro (((⟨nd',h1,h2,h3⟩ | h) | h) | h);{exact ⟨nd',h1,by simp [h2],h3⟩};{exact ⟨nd,bf,by simp [lr wN wN],.inl h⟩};{exact ⟨nd,bf,by simp [lr wN wN],.inr (.inl h)⟩};{exact ⟨nd,bf,by simp [lr wN wN],.inr (.inr h)⟩}};{rintro ⟨nd',h1,h2,h3⟩;by_cases ep:nd'.path=nd.path;{obtain ⟨j,hj⟩:=List.getElem?_of_mem h1;have:=cF.lh.uniq hj hi ep;subst this;rcases h3 with h3 | h3 | h3;{exact .inl (.inl (.inr h3))};{exact .inl (.inr h3)};{exact .inr h3}};{refine .inl (.inl (.inl ⟨nd',h1,?_,h3⟩));simpa [lr (aa qD nd' h1).1 wN,ep] using h2}}
 have hO:=aa RM nd bf;by_cases ho:nd.owner=0;{
 have d1:=(bq (aG.block g1 CL) 1).trans k1;have d3:=(bq (aG.block g1 CL) 3).trans k3;have d6:=(bq (aG.block g1 CL) 6).trans k6;rw [ho] at d1;have M3:∀ i,i∈s↔i∈s\/(nd.owner≠0/\i=nd.owner):=fun i=>by simp [ho]
 have S3:=ae jw.1;have cX:=aG;have xW:=vo;have q9:=tp;obtain ⟨w3,e3⟩:=ax w2;obtain ⟨K3,eK⟩:=ax k;obtain ⟨E3,eE⟩:=ax E;obtain ⟨s3,eS⟩:=ax s;have Jn:K3<=k+1:=by omega
 subst e3 eK eE eS;go_wp2_with fail;refine (ot w.heap.size h1 K3 nd.holders.length E3 Dh s3 nd.holders w3 xW (oh.kept (az cX none) (by simp)) S3 SH (by have:=oh.lt;omega) (by omega) Nz).mono ?_;rintro r w4 ⟨E4,s4,rfl,sN,Cv,CG,qz⟩;have fk:Below w.heap.size w w4:=br cX qz cX.size (fun j hj=>by cases hj;exact Nat.le_refl _);have f6:=(bq (fk.block g1 CL) 6).trans k6;have S4:=ae Cv;go_wp2_with fail;refine (ot w.heap.size u1 _ nd.watchers.length E4 Du s4 nd.watchers w4 sN (ou.kept (az fk none) (by simp)) S4 SU (by have:=ou.lt;omega) (by omega) AV).mono ?_;rintro r w5 ⟨E5,s5,rfl,vm,Cu,CF,oB⟩;have dH:Below w.heap.size w w5:=br fk oB fk.size (fun j hj=>by cases hj;exact Nat.le_refl _);have sr:=(q9.kept qz (by have:=oD.lt;simp;omega) (by first | (simp;done) | (simp;omega))).kept oB (by have:=oD.lt;simp;omega) (by first | (simp;done) | (simp;omega));have FP:Hid (cI E5 s5/\∀ i,i∈s5↔∃ nd'∈ns,(fun z=>left z&&!z.sameKey (bj nd.path)) (bj nd'.path)=false/\rH nd' i):=⟨Cu,fun i=>by rw [CF,CG,M3,G8]⟩
 go_wp2;go_roundw
 case rel=>first | exact ⟨_,tG,sr,_,by omega,E5,vm,s5,FP,dH⟩ | exact ⟨_,tG,_,E5,s5,sr,by omega,vm,FP,dH⟩
 case measure=>rw [sr.left_eq,mF.left_eq];exact aU}
 {
 have Jf:(nd.owner != 0)=true:=by simp [ho]
 have d1:=(bq (aG.block g1 CL) 1).trans k1;have YN:keyOf prog 22 (.int .u64 nd.owner)=some (.int .u64 nd.owner):=keyOf_int_mk underlying22 (jt hO);have M3:∀ i,i∈s++[nd.owner]↔i∈s\/(nd.owner≠0/\i=nd.owner):=fun i=>by simp [ho]
 have S3:=ae (jw.1.put aS.isMap nd.owner (.agg []));go_wp2_with (first
  | (at_mapUpdate;refine wpList_mapUpdate_own _ rfl _ _ _ 109 rfl 22 _ gp underlying109 unitElem w.heap.size k _ rfl vo (by unfold maxLen;omega) _ _ _ rfl rfl YN (.agg []) [] unitElem_mk ?_;intro w3 xW KT;have cX:Below w.heap.size w w3:=br aG KT aG.size (fun j hj=>by cases hj;exact Nat.le_refl _);have d3:=(bq (cX.block g1 CL) 3).trans k3;have d6:=(bq (cX.block g1 CL) 6).trans k6)
  | fail)
 have q9:=tp.kept KT (by have:=oD.lt;simp;omega) (by first | (simp;done) | (simp;omega));obtain ⟨K3,eK⟩:=ax (k+1);obtain ⟨E3,eE⟩:=ax (E.put (.int .u64 nd.owner) (.agg []));obtain ⟨s3,eS⟩:=ax (s++[nd.owner]);have Jn:K3<=k+1:=by omega
 rw [<-eK,<-eE] at xW;rw [<-eE,<-eS] at S3;rw [<-eS] at M3;refine (ot w.heap.size h1 K3 nd.holders.length E3 Dh s3 nd.holders w3 xW (oh.kept (az cX none) (by simp)) S3 SH (by have:=oh.lt;omega) (by omega) Nz).mono ?_;rintro r w4 ⟨E4,s4,rfl,sN,Cv,CG,qz⟩;have fk:Below w.heap.size w w4:=br cX qz cX.size (fun j hj=>by cases hj;exact Nat.le_refl _);have f6:=(bq (fk.block g1 CL) 6).trans k6;have S4:=ae Cv;go_wp2_with fail;refine (ot w.heap.size u1 _ nd.watchers.length E4 Du s4 nd.watchers w4 sN (ou.kept (az fk none) (by simp)) S4 SU (by have:=ou.lt;omega) (by omega) AV).mono ?_;rintro r w5 ⟨E5,s5,rfl,vm,Cu,CF,oB⟩;have dH:Below w.heap.size w w5:=br fk oB fk.size (fun j hj=>by cases hj;exact Nat.le_refl _);have sr:=(q9.kept qz (by have:=oD.lt;simp;omega) (by first | (simp;done) | (simp;omega))).kept oB (by have:=oD.lt;simp;omega) (by first | (simp;done) | (simp;omega));have FP:Hid (cI E5 s5/\∀ i,i∈s5↔∃ nd'∈ns,(fun z=>left z&&!z.sameKey (bj nd.path)) (bj nd'.path)=false/\rH nd' i):=⟨Cu,fun i=>by rw [CF,CG,M3,G8]⟩
 go_wp2;go_roundw
 case rel=>first | exact ⟨_,tG,sr,_,by omega,E5,vm,s5,FP,dH⟩ | exact ⟨_,tG,_,E5,s5,sr,by omega,vm,FP,dH⟩
 case measure=>rw [sr.left_eq,mF.left_eq];exact aU}})
theorem Pz (ss:List aR) (ids:List Int):fV ss ids=true↔DE ids=true/\∀ i∈ids,live ss i=true:=by
 simp only [fV,DE,gM,List.all_eq_true,List.mem_range,zI,Bool.and_eq_true];constructor;{intro h;refine ⟨fun i hi=>(h i hi).2,fun y hy=>?_⟩;obtain ⟨i,hi,rfl⟩:=List.getElem_of_mem hy;have:=(h i hi).1;rwa [List.getD_eq_getElem?_getD,aH hi] at this};{rintro ⟨h1,h2⟩ i hi;refine ⟨h2 _ ?_,h1 i hi⟩;rw [List.getD_eq_getElem?_getD,aH hi];exact List.getElem_mem hi}
theorem jN {α:Type} (l:List α) (d:α) (f:α->Bool):(∀ i,i<l.length->f (l.getD i d)=true)↔∀ y∈l,f y=true:=by
 constructor;{intro h y hy;obtain ⟨i,hi,rfl⟩:=List.getElem_of_mem hy;have:=h i hi;rwa [List.getD_eq_getElem?_getD,aH hi] at this};{intro h i hi;rw [List.getD_eq_getElem?_getD,aH hi];exact h _ (List.getElem_mem hi)}
theorem OM (x:Int) (ss:List aR):(List.range ss.length).all (jX x ss)=true↔iF x ss=true:=by
 simp only [iF,gM,List.all_eq_true,List.mem_range,jX,uI,Bool.and_eq_true];constructor;{intro h;exact ⟨fun i hi=>⟨(h i hi).1,(h i hi).2.1,(h i hi).2.2.2⟩,fun i hi=>(h i hi).2.2.1⟩};{rintro ⟨h1,h2⟩ i hi;exact ⟨(h1 i hi).1,(h1 i hi).2.1,h2 i hi,(h1 i hi).2.2⟩}
theorem Pf (e g:Int) (ss:List aR) (ns:List aA):(List.range ns.length).all (ja e g ss ns)=true↔iI e g ns=true/\ns.all (fun nd=>dy ns (de nd.path))=true/\∀ nd∈ns,∀ i,rH nd i->live ss i=true:=by
 have key:∀ k,ja e g ss ns k=true↔(si e g (ns.getD k dQ)=true/\(k==0||!leB (ns.getD k dQ).path (ns.getD (k-1) dQ).path)=true)/\dy ns (de (ns.getD k dQ).path)=true/\(fun nd=>decide (nd.owner=0)||live ss nd.owner) (ns.getD k dQ)=true/\(fun nd:aA=>nd.holders.all (live ss)) (ns.getD k dQ)=true/\(fun nd:aA=>nd.watchers.all (live ss)) (ns.getD k dQ)=true:=by
  intro k;simp only [ja,si,Bool.and_eq_true,Pz,List.all_eq_true];have:((ns.getD k dQ).owner==0||live ss (ns.getD k dQ).owner)=(decide ((ns.getD k dQ).owner=0)||live ss (ns.getD k dQ).owner):=by
   congr 1
  rw [this];constructor;{rintro ⟨⟨a1,a2⟩,a3,a4,a5,⟨a6,a7⟩,⟨a8,a9⟩,a10⟩;exact ⟨⟨⟨a1,a4,a10,a6,a8⟩,a2⟩,a3,a5,a7,a9⟩};{rintro ⟨⟨⟨a1,a4,a10,a6,a8⟩,a2⟩,a3,a5,a7,a9⟩;exact ⟨⟨a1,a2⟩,a3,a4,a5,⟨a6,a7⟩,⟨a8,a9⟩,a10⟩}
 simp only [iI,gM,List.all_eq_true,List.mem_range,Bool.and_eq_true,key];rw [<-jN ns dQ];constructor;{intro h;refine ⟨⟨fun i hi=>(h i hi).1.1,fun i hi=>(h i hi).1.2⟩,fun i hi=>(h i hi).2.1,?_⟩;have h3:=(jN ns dQ (fun nd=>decide (nd.owner=0)||live ss nd.owner)).1 (fun i hi=>(h i hi).2.2.1);have h4:=(jN ns dQ (fun nd:aA=>nd.holders.all (live ss))).1 (fun i hi=>List.all_eq_true.2 (h i hi).2.2.2.1);have h5:=(jN ns dQ (fun nd:aA=>nd.watchers.all (live ss))).1 (fun i hi=>List.all_eq_true.2 (h i hi).2.2.2.2);rintro nd bf i (⟨h1,rfl⟩ | h1 | h1);{have:=h3 nd bf;simpa [h1] using this};{exact List.all_eq_true.1 (h4 nd bf) i h1};{exact List.all_eq_true.1 (h5 nd bf) i h1}};{rintro ⟨⟨h1,h2⟩,h3,h4⟩ i hi;refine ⟨⟨h1 i hi,h2 i hi⟩,h3 i hi,?_,?_,?_⟩;{refine (jN ns dQ (fun nd=>decide (nd.owner=0)||live ss nd.owner)).2 (fun nd bf=>?_) i hi;by_cases ho:nd.owner=0;{simp [ho]};{simp [ho,h4 nd bf nd.owner (.inl ⟨ho,rfl⟩)]}};{exact List.all_eq_true.1 ((jN ns dQ (fun nd:aA=>nd.holders.all (live ss))).2 (fun nd bf=>List.all_eq_true.2 fun j hj=>h4 nd bf j (.inr (.inl hj))) i hi)};{exact List.all_eq_true.1 ((jN ns dQ (fun nd:aA=>nd.watchers.all (live ss))).2 (fun nd bf=>List.all_eq_true.2 fun j hj=>h4 nd bf j (.inr (.inr hj))) i hi)}}
theorem BI (e g x t:Int) (ss:List aR) (ns:List aA):ng e g x t ss ns=true↔uR e g x t ss.length ns.length=true/\iF x ss=true/\iI e g ns=true/\ns.all (fun nd=>dy ns (de nd.path))=true/\∀ nd∈ns,∀ i,rH nd i->live ss i=true:=by
 rw [ng,Bool.and_eq_true,Bool.and_eq_true,OM,Pf];exact Iff.rfl
theorem Cj (ss:List aR) (i:Int):live ss i=true↔∃ z∈ss,z.1=i:=by
 rw [live,List.any_eq_true];simp
theorem ox:∀ a:List UInt8,Op.bytesLess a a=false
 | []=>rfl
 | x::a=>by simp [Op.bytesLess,ox a,UInt8.lt_irrefl]
theorem rF:∀ {a b c:List UInt8},Op.bytesLess a b=true->Op.bytesLess b c=true->Op.bytesLess a c=true
 | _,[],_,h,_=>by simp [Op.bytesLess] at h
 | _,_::_,[],_,h=>by simp [Op.bytesLess] at h
 | [],_::_,_::_,_,_=>rfl
 | x::a,y::b,z::c,h,k=>by simp only [Op.bytesLess,Bool.or_eq_true,decide_eq_true_eq,Bool.and_eq_true,beq_iff_eq] at h k ⊢;rcases h with h | ⟨rfl,h⟩;{rcases k with k | ⟨rfl,k⟩;{exact .inl (UInt8.lt_trans h k)};{exact .inl h}};{rcases k with k | ⟨rfl,k⟩;{exact .inl k};{exact .inr ⟨rfl,rF h k⟩}}
theorem DB:∀ {a b:List UInt8},Op.bytesLess a b=false->a≠b->Op.bytesLess b a=true
 | [],[],_,h=>absurd rfl h
 | [],_::_,h,_=>by simp [Op.bytesLess] at h
 | _::_,[],_,_=>rfl
 | x::a,y::b,h,bm=>by
  simp only [Op.bytesLess,Bool.or_eq_false_iff,decide_eq_false_iff_not] at h;simp only [Op.bytesLess,Bool.or_eq_true,decide_eq_true_eq,Bool.and_eq_true,beq_iff_eq];by_cases Yj:x=y;{
 subst Yj
 right
 refine ⟨rfl,DB ?_ (fun e=>bm (by rw [e]))⟩;simpa using h.2};{exact .inl (UInt8.lt_of_le_of_ne (UInt8.not_lt.1 h.1) (Ne.symm Yj))}
theorem rG {n:Nat} {lt:Nat->Nat->Bool} (h:gM n lt=true) (tr:∀ i j k,lt i j=true->lt j k=true->lt i k=true):∀ (j i:Nat),j<n->i<j->lt i j=true:=by
 have hs:∀ j,j+1<n->lt j (j+1)=true:=fun j hj=>by have:=List.all_eq_true.1 h (j+1) (List.mem_range.2 hj);simpa using this
 intro j
 induction j with
 | zero=>intro i _ hi;omega
 | succ j ih=>
  intro i hj hi;by_cases e:i=j;{subst e;exact hs i hj};{exact tr i j (j+1) (ih i (by omega) (by omega)) (hs j hj)}
theorem xE (h:iF x ss=true):∀ (i j:Nat) (s s':aR),ss[i]?=some s->ss[j]?=some s'->i<j->s.1≠s'.1:=by
 intro i j s s' hi hj jd;rw [iF,Bool.and_eq_true] at h;have:=rG h.2 (fun i j k h1 h2=>by simp at h1 h2 ⊢;omega) j i (aM.1 hj).1 jd;simp only [List.getD_eq_getElem?_getD,hi,hj,Option.getD_some,decide_eq_true_eq] at this;omega
theorem ko :(!leB l m)=true↔Op.bytesLess (aB m).toList (aB l).toList=true:=by
 simp only [leB,Bool.not_eq_true',Bool.or_eq_false_iff,beq_eq_false_iff_ne];constructor;{rintro ⟨h1,h2⟩;exact DB h1 h2};{intro h;refine ⟨?_,fun e=>?_⟩;{rw [Bool.eq_false_iff];intro h2;have:=rF h h2;rw [ox] at this;cases this};{rw [e,ox] at h;cases h}}
theorem xK (h:iI e g ns=true):∀ (i j:Nat) (z z':aA),ns[i]?=some z->ns[j]?=some z'->i<j->z.path≠z'.path:=by
 intro i j z z' hi hj jd;rw [iI,Bool.and_eq_true] at h;have:=rG h.2 (fun i j k h1 h2=>ko.2 (rF (ko.1 h1) (ko.1 h2))) j i (aM.1 hj).1 jd;simp only [List.getD_eq_getElem?_getD,hi,hj,Option.getD_some] at this;intro e;rw [e,ko,ox] at this;cases this
theorem Gi (h:iF x ss=true) (hx:x<=4611686018427387904):∀ s∈ss,0<=s.1/\s.1<18446744073709551616:=by
 rw [iF,Bool.and_eq_true,List.all_eq_true] at h;have H:=(jN ss (0,0,[]) (uI x)).1 fun i hi=>h.1 i (List.mem_range.2 hi);intro s hs;have:=H s hs;simp only [uI,Bool.and_eq_true,decide_eq_true_eq] at this;omega
theorem Uo (e g x t:Int) (p q:Option Addr) (c n d m:Nat) (ss:List aR) (ns:List aA) (en:Hid (ss.length=n)) (em:Hid (ns.length=m)) (w:World) (h:jP w (.slice p n c) ss) (hN:jB w (.slice q m d) ns) (hn:n<=1048576) (hm:m<=1048576)
  (sR:Hid (∀ s∈ss,s.2.2.length<=1048576/\∀ e∈s.2.2,cT e.2/\e.2.length<=1048576))
  (du:Hid (∀ nd∈ns,cT nd.path/\nd.path.length<=1048576/\nd.value.length<=1048576/\nd.holders.length<=1048576/\nd.watchers.length<=1048576))
  (KE:Hid (∀ nd∈ns,(∀ i∈nd.holders,0<=i/\i<18446744073709551616)/\∀ i∈nd.watchers,0<=i/\i<18446744073709551616))
  (RM:Hid (∀ nd∈ns,0<=nd.owner/\nd.owner<18446744073709551616)) (yh:ML w) (B:Bool) (eB:Hid (ng e g x t ss ns=B)) :
  Calls prog 28 #[cL e g x t (.slice p n c) (.slice q m d)] w fun r w'=>r=.returned (.bool B)/\Below w.heap.size w w':=by
 have HR:=ae fun (w':World) (hb:Below w.heap.size w w')=>ag (h.below hb) (ag (hN.below hb) (yh.below hb));have HI:Hid (B=true↔uR e g x t n m=true/\iF x ss=true/\iI e g ns=true/\ns.all (fun nd=>dy ns (de nd.path))=true/\∀ nd∈ns,∀ i,rH nd i->live ss i=true):=by show _↔_;rw [<-aa eB,BI,aa en,aa em]
 obtain ⟨T1,E1⟩:∃ T,Hid (uR e g x t n m=T):=⟨_,(by show _=_;rfl)⟩;obtain ⟨T2,E2⟩:∃ T,Hid (iF x ss=T):=⟨_,(by show _=_;rfl)⟩;obtain ⟨T3,E3⟩:∃ T,Hid (iI e g ns=T):=⟨_,(by show _=_;rfl)⟩;obtain ⟨T4,E4⟩:∃ T,Hid (ns.all (fun nd=>dy ns (de nd.path))=T):=⟨_,(by show _=_;rfl)⟩;obtain ⟨W,hW⟩:=ax (w.alloc (.cells #[.int .u64 e,.int .u64 g,.int .u64 x,.int .i64 t,.slice p n c,.slice q m d] 35));have bW:Below w.heap.size w W:=by rw [hW];exact ar.alloc ay _
 have sw:js W w.heap.size e g x t (.slice p n c) (.slice q m d):=by rw [hW];simp [js]
 have Ol:=ae sw;go_enter func28,ntmps28;go_wp2_with fail;rw [<-hW];refine (Ez e g x t p q c n d m _ hn hm T1 E1).mono ?_;rintro r w1 ⟨rfl,aK⟩;have b1:=ai bW aK;cases T1 with
 | false=>
  have eF:B=false:=by rw [Bool.eq_false_iff];intro hB;have:=(HI.1 hB).1;rw [aa E1] at this;cases this
  subst eF;go_wp2;go_ret;exact ⟨rfl,b1⟩
 | true=>
  obtain ⟨i0,i1,i2,i3,i4,i5⟩:=Ol.below aK;go_wp2_with fail;refine (qJ e g x t p c n _ ss en _ (aa HR _ b1).1 hn sR (aa HR _ b1).2.2 T2 E2).mono ?_;rintro r w2 ⟨rfl,aG⟩;have b2:=ai b1 aG;cases T2 with
  | false=>
   have eF:B=false:=by rw [Bool.eq_false_iff];intro hB;have:=(HI.1 hB).2.1;rw [aa E2] at this;cases this
   subst eF;go_wp2;go_ret;exact ⟨rfl,b2⟩
  | true=>
   replace i0:=af i0 aG;replace i1:=af i1 aG;replace i2:=af i2 aG;replace i3:=af i3 aG;replace i4:=af i4 aG;replace i5:=af i5 aG;go_wp2_with fail;refine (uv e g x t _ q d m ns em _ (aa HR _ b2).2.1 hm du (aa HR _ b2).2.2 T3 E3).mono ?_;rintro r w3 ⟨rfl,cX⟩;have b3:=ai b2 cX;cases T3 with
   | false=>
    have eF:B=false:=by rw [Bool.eq_false_iff];intro hB;have:=(HI.1 hB).2.2.1;rw [aa E3] at this;cases this
    subst eF;go_wp2;go_ret;exact ⟨rfl,b3⟩
   | true=>
    replace i0:=af i0 cX;replace i1:=af i1 cX;replace i2:=af i2 cX;replace i3:=af i3 cX;replace i4:=af i4 cX;replace i5:=af i5 cX;have hx:x<=4611686018427387904:=by have:=aa E1;simp only [uR,decide_eq_true_eq] at this;exact this.2.2.1
    have H1:=ae (Gi E2 hx);have H2:=ae (xE E2);have H3:=ae (xK E3);go_wp2_with fail;refine (sH e g x t p q c n d m ss ns en em _ (aa HR _ b3).1 (aa HR _ b3).2.1 hn hm H1 H2 du KE H3).mono ?_;rintro r w4 ⟨b,bs,bn,SB,NB,HB,UB,rfl,cF,fk⟩;have b4:=ai b3 fk;have jl:=ae cF;go_wp2_with fail;refine (Fh _ jl (fun nd bf=>⟨(aa du nd bf).1,(aa du nd bf).2.1⟩) T4 E4).mono ?_;rintro r w5 ⟨rfl,dH⟩;have b5:=ai b4 dH;cases T4 with
    | false=>
     have eF:B=false:=by rw [Bool.eq_false_iff];intro hB;have:=(HI.1 hB).2.2.2.1;rw [aa E4] at this;cases this
     subst eF;go_wp2;go_ret;exact ⟨rfl,b5⟩
    | true=>
     have aQ4:=ae (jl.below dH);go_wp2_with fail;refine (wY _ aQ4 (fun nd bf=>⟨(aa du nd bf).1,(aa du nd bf).2.2.2⟩) RM m em hm n en).mono ?_;rintro r w6 ⟨nb,k,D,s,rfl,oD,sD,hs,Ah⟩;have b6:=ai b5 Ah;have hlen:∀ ty,(Builtin.len_ #[109] ty #[.map (some nb)]).run prog w6=.ok (.int .i64 (Maps.size D)) w6:=fun ty=>oD.len underlying109 ty;have fH:Maps.size D=0↔s=[]:=sD.XF oD.isMap (fun es ee p hp=>by obtain ⟨Qz,e',_,hk⟩:=oD.entries gp;rw [ee] at e';cases e';exact hk p hp)
     have hB:B=true↔s=[]:=by rw [aa HI];constructor;{rintro ⟨_,_,_,_,h5⟩;apply List.eq_nil_iff_forall_not_mem.2;intro i hi;obtain ⟨⟨nd,bf,hN⟩,kc⟩:=(hs i).1 hi;exact kc ((Cj ss i).1 (h5 nd bf i hN))};{intro Gw;refine ⟨E1,E2,E3,E4,fun nd bf i hN=>?_⟩;rw [Cj];by_cases hh:∃ z∈ss,z.1=i;{exact hh};{have:=(hs i).2 ⟨⟨nd,bf,hN⟩,hh⟩;rw [Gw] at this;cases this}}
     have hb:((Maps.size D:Int)==0)=B:=by rw [Bool.eq_iff_iff,hB,<-fH];simp
     go_wp2;go_ret;exact ⟨rfl,b6⟩
def ax7 (nd:aA):aA:={ nd with watchers:=[] }
theorem nw {R:Value->Option (DataW Unit × List MemPlace)} {b n:Nat} (h:w.ownsMap Tryz.prog k R b n D) (K:∀ es c,w.heap[b]?=some (.map es c)->w'.heap[b]?=some (.map es c)):w'.ownsMap Tryz.prog k R b n D:=by
 obtain ⟨es,clock,h1,h2⟩:=h;exact ⟨es,clock,K _ _ h1,h2⟩
theorem BO {R:Value->Option (DataW Unit × List MemPlace)} {b r n:Nat} {left:Lit->Bool} {gu:Nat} (h:w.ranges P k R b r n D left gu) (h1:w'.heap[b]?=w.heap[b]?) (h2:w'.heap[r]?=w.heap[r]?):w'.ranges P k R b r n D left gu:=by
 obtain ⟨es,clock,since,seen,c0,hb,F,hs,hD,hr,rest⟩:=h;exact ⟨es,clock,since,seen,c0,h1.trans hb,F,hs,hD,h2.trans hr,rest⟩
theorem Hm {l:List Nat} (h:l.Nodup) {a:Nat} (hi:l[i]?=some a) (hj:l[j]?=some a):i=j:=by
 have l1:=(aM.1 hi).1;have l2:=(aM.1 hj).1;have tv:=List.pairwise_iff_getElem.1 h;have v1:=(aM.1 hi).2;have v2:=(aM.1 hj).2;rcases Nat.lt_trichotomy i j with hh | hh | hh;{exact absurd (v1.trans v2.symm) (tv i j l1 l2 hh)};{exact hh};{exact absurd (v2.trans v1.symm) (tv j i l2 l1 hh)}
def Ge (f:aR->aR) (left:Lit->Bool) (ss:List aR):List aR:=ss.map fun s=>if left (.int .u64 s.1) then s else f s
def Gf (left:Lit->Bool) (ns:List aA):List aA:=ns.map fun s=>if left (bj s.path) then s else ax7 s
theorem Hi {mty kt et:TypeId} {R:Value->Option (DataW Unit × List MemPlace)} {b n:Nat} (hm:P.underlying mty=some (.map kt et)) (h:w.ownsMap P k R b n D) (ty:TypeId) :
  ∃ v w',(Builtin.clear_ #[mty] ty #[.map (some b)]).run P w=.ok v w'/\w'.ownsMap P k R b 0 (.map [])/\w.grownBy w' (some b)/\w'.heap.size=w.heap.size:=by
 obtain ⟨es,clock,hb,F,hs,hD⟩:=h;have bS:∃ v,(Builtin.clear_ #[mty] ty #[.map (some b)]).run P w=.ok v { w with heap:=w.heap.setIfInBounds b (.map #[] clock) }:=by simp [Builtin.clear_,run_underlying hm,MapKept.run_getObj_map hb,MapKept.run_setObj_map _ hb,Result.andThen]
 obtain ⟨v,hv⟩:=bS;refine ⟨v,_,hv,?_,⟨rfl,rfl,rfl,by simp,fun i _ bm=>(MapKept.heap_set hb).2 i (fun e=>bm (by rw [e]))⟩,by simp⟩;exact ⟨#[],clock,(MapKept.heap_set hb).1,⟨by simp,MapKept.stamped_empty _,by simp⟩,Nat.le_refl _,rfl⟩
end Go.Proofs.YtmfjiolopcbcmaaGreatDoor
