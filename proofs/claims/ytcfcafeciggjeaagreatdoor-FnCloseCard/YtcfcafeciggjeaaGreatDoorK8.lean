import Derived.Test.YtcfcafeciggjeaaGreatDoorK6
import Derived.Test.YtcfcafeciggjeaaGreatDoorK7
import Derived.Deep.DeepCutAuto
namespace Go.Proofs.YtcfcafeciggjeaaGreatDoor
set_option maxHeartbeats 1600000
set_option linter.unusedVariables false
set_option linter.unusedSimpArgs false
set_option maxRecDepth 100000
open Go.ChangeShapes Go.WideShapes Go.ChangeAt Go.RowKit Go.Proofs.Tryz
variable {b:Nat} {ns:List aA} {v:Value} {w w':World}
abbrev mh (w:World) (b:Nat) (e g x t:Int) (S N:Value):Prop:=w.cell? ⟨b,0,none⟩=some (.int .u64 e)/\w.cell? ⟨b,1,none⟩=some (.int .u64 g)/\w.cell? ⟨b,2,none⟩=some (.int .u64 x)/\w.cell? ⟨b,3,none⟩=some (.int .i64 t)/\w.cell? ⟨b,4,none⟩=some S/\w.cell? ⟨b,5,none⟩=some N
theorem mh.below {e g x t:Int} {S N:Value} (h:mh w b e g x t S N) (hb:Below w.heap.size w w'):mh w' b e g x t S N:=
 ⟨af h.1 hb,af h.2.1 hb,af h.2.2.1 hb,af h.2.2.2.1 hb,af h.2.2.2.2.1 hb,af h.2.2.2.2.2 hb⟩
theorem jd (e g x t:Int) (p q:Option Addr) (c n d m:Nat) (N:Value) (ss:List aL) (ids:List Int) (en:Hid (ss.length=n)) (em:Hid (ids.length=m)) (w:World) (h:IS w (.slice p n c) ss) (hi:kL w (.slice q m d) ids) (hn:n<=1048576) (hm:m<=1048576) (B:Bool) (eB:Hid (dZ ss ids=B)) :
  Calls prog 90 #[cK e g x t (.slice p n c) N,.slice q m d] w fun r w'=>r=.returned (.bool B)/\Below w.heap.size w w':=by
 have HR:=ae fun (w':World) (hb:Below w.heap.size w w')=>ag (h.below hb) (hi.below hb);clear h hi;go_enter func90,ntmps90;go_wp2_with fail;obtain ⟨W,hW⟩:=ar (w.alloc (.cells #[.int .u64 e,.int .u64 g,.int .u64 x,.int .i64 t,.slice p n c,N] 27));have bW:Below w.heap.size w W:=by rw [hW];exact ay.alloc ax _
 have Jg:mh W w.heap.size e g x t (.slice p n c) N:=by rw [hW];simp [mh]
 rw [<-hW];clear hW;have BW:=ae bW;have Jy:=ae Jg;clear bW Jg
 go_loopw [5] (fun iv wr=>∃ k:Nat,k<=m/\iv=.int .i64 k/\Hid ((List.range k).all (uk ss ids)=true)/\Below W.heap.size W wr) (fun iv _=>m-(intOf iv).toNat)
 case atStart=>exact ⟨0,Nat.zero_le _,rfl,(by show _=_;rfl),Below.refl _ _⟩
 case round =>(
 obtain ⟨k,hk,rfl,gC,aT⟩:=hrel;have BB:=ai BW aT;by_cases br:k<m;{
 have bt:(k:Int)<(m:Int):=by omega
 have dT:k<ids.length:=by rw [aa em];exact br
 obtain ⟨hS,hU⟩:=aa HR _ BB;obtain ⟨b,o,rfl,bE⟩:∃ b o,q=some ⟨b,o,none⟩/\∀ i,i<m->wr.cell? ⟨b,o+i,none⟩=some (.int .u64 (ids.getD i 0)):=by obtain ⟨p',c',ev,hd⟩:=hU;simp only [Value.slice.injEq] at ev;obtain ⟨rfl,-,-⟩:=ev;rcases hd with h0 | ⟨b,o,h1,h2⟩;{rw [h0] at dT;simp at dT};{exact ⟨b,o,h1,fun i hi=>h2 i (by rw [aa em];exact hi)⟩}
 have i6:=Jy.below aT;have uz:=bE k br;obtain ⟨y,ey⟩:=aN (ids.getD k 0);rw [ey] at uz;have xv:=ae hS;obtain ⟨L,eL⟩:=aN (live ss y);have EL:Hid ((ss.any fun s=>s.1==y)=L):=eL;have fo:uk ss ids k=(L&&(k==0||decide (ids.getD (k-1) 0<y))):=by rw [uk,ey,eL]
 have hF:uk ss ids k=false->B=false:=fun h=>by rw [<-aa eB,dZ,aa em];exact db br h
 clear hS hU dT;cases L with
 | false=>
  have eF:=hF (by rw [fo];rfl);subst eF;have K0:=ae (ag i6 uz);clear fo hF eL bE ey i6 uz;go_wp2_with fail;refine wp_region_noPanic ?_;refine wp_region_held_drew (S:=fun w'=>mh w' w.heap.size e g x t (.slice p n c) N/\w'.cell? ⟨b,o+k,none⟩=some (.int .u64 y)) (by kernel_rfl) (by exact K0) (fun hS=>?_);refine gp 0 1 2 3 hS ?_;refine tn 4 hS ?_;refine ry [5] ?_;refine cn (fun KK hK=>?_) ?_;{refine ld (iO e g x t p c n N ss en _ (xv.below ay.drew) hn y false EL) ?_;rintro r w2 ⟨rfl,aS⟩;refine ⟨_,rfl,?_⟩;have cL:Below wr.heap.size wr w2:=ai (Below.refl wr.heap.size wr).drew aS;refine bm hK ⟨K0.1.below cL,af K0.2 cL⟩ fun hS=>?_;clear hK KK;refine dQ 6 7 hS ?_;refine sn 8 hS ?_;refine sn 9 hS ?_;refine sn 10 hS ?_;refine sn 11 hS ?_;refine sn 12 hS ?_;refine sn 13 hS ?_;refine sn 14 hS ?_;refine sn 15 hS ?_;refine sn 16 hS ?_;refine sn 17 hS ?_;refine sn 18 hS ?_;refine sn 19 hS ?_;refine sn 20 hS ?_;refine sn 21 hS ?_;refine tn 22 hS ?_;refine wpAnyH_done (by kernel_rfl) ?_ _;refine aX ?_;have b2:=ai BB cL;clear aS cL hS;go_wp2;go_ret;exact ⟨rfl,b2⟩};exact AllReadyH.nil
 | true=>
  by_cases vf:k=0;{
 have pL:Hid ((List.range (k+1)).all (uk ss ids)=true):=bU (aa gC) (by rw [fo,vf];rfl);have HK0:=ae vf;have hp:¬ 0<k:=by omega
 have Xf:¬ (0:Int)<(k:Int):=by omega
 have K0:=ae (ag i6 uz);clear fo hF eL bE ey vf i6 uz;go_wp2_with fail;refine wp_region_noPanic ?_;refine wp_region_held_drew (S:=fun w'=>mh w' w.heap.size e g x t (.slice p n c) N/\w'.cell? ⟨b,o+k,none⟩=some (.int .u64 y)) (by kernel_rfl) (by exact K0) (fun hS=>?_);refine gp 0 1 2 3 hS ?_;refine tn 4 hS ?_;refine aH 5 fun KK hK=>?_;refine ld (iO e g x t p c n N ss en _ (xv.below ay.drew) hn y true EL) ?_;rintro r w2 ⟨rfl,aS⟩;refine ⟨_,rfl,?_⟩;have cL:Below wr.heap.size wr w2:=ai (Below.refl wr.heap.size wr).drew aS;refine bm hK ⟨K0.1.below cL,af K0.2 cL⟩ fun hS=>?_;clear hK KK;refine gp 6 7 8 9 hS ?_;refine tn 10 hS ?_;refine sn 11 hS ?_;refine sn 12 hS ?_;refine sn 13 hS ?_;refine sn 14 hS ?_;refine sn 15 hS ?_;refine sn 16 hS ?_;refine sn 17 hS ?_;refine sn 18 hS ?_;refine sn 19 hS ?_;refine sn 20 hS ?_;refine dQ 21 22 hS ?_;refine wpAnyH_done (by kernel_rfl) ?_ _;refine aX ?_;have b2:=ai aT cL;clear aS cL hS;go_wp2;go_roundw
 case rel=>exact ⟨k+1,by omega,by go_num,pL,b2⟩
 case measure=>simp [intOf];omega}
  {
 obtain ⟨j,ej⟩:∃ j:Nat,(k:Int)-1=(j:Int):=⟨k-1,by omega⟩;have By:k-1=j:=by omega
 have MQ:=bE j (by omega);obtain ⟨z,ez⟩:=aN (ids.getD j 0);rw [ez] at MQ;rw [By,ez] at fo;have hp:0<k:=by omega
 have Xf:(0:Int)<(k:Int):=by omega
 have Ph:(j:Int)<(m:Int):=by omega
 have Un:(0:Int)<=(j:Int):=by omega
 have wj:IntKind.i64.wrap (j:Int)=(j:Int):=IntWalk.i64_in _ (by omega);by_cases WY:z<y;{
 have hle:¬ y<=z:=by omega
 have Pe:decide (y<=z)=false:=by simp;omega
 have pL:Hid ((List.range (k+1)).all (uk ss ids)=true):=bU (aa gC) (by rw [fo];simp [WY]);clear WY;have K0:=ae (ag i6 (ag uz MQ));clear fo hF eL bE ey ez vf i6 uz MQ By;go_wp2_with fail;refine wp_region_noPanic ?_;refine wp_region_held_drew (S:=fun w'=>mh w' w.heap.size e g x t (.slice p n c) N/\w'.cell? ⟨b,o+k,none⟩=some (.int .u64 y)/\w'.cell? ⟨b,o+j,none⟩=some (.int .u64 z)) (by kernel_rfl) (by exact K0) (fun hS=>?_);refine gp 0 1 2 3 hS ?_;refine tn 4 hS ?_;refine aH 5 fun KK hK=>?_;refine ld (iO e g x t p c n N ss en _ (xv.below ay.drew) hn y true EL) ?_;rintro r w2 ⟨rfl,aS⟩;refine ⟨_,rfl,?_⟩;have cL:Below wr.heap.size wr w2:=ai (Below.refl wr.heap.size wr).drew aS;refine bm hK ⟨K0.1.below cL,af K0.2.1 cL,af K0.2.2 cL⟩ fun hS=>?_;clear hK KK;refine gj 6 7 8 9 10 11 12 13 hS ?_;refine gj 14 15 16 17 18 19 20 21 hS ?_;refine tn 22 hS ?_;refine wpAnyH_done (by kernel_rfl) ?_ _;refine aX ?_;have b2:=ai aT cL;clear aS cL hS;go_wp2;go_roundw
 case rel=>exact ⟨k+1,by omega,by go_num,pL,b2⟩
 case measure=>simp [intOf];omega}
 {
 have hle:y<=z:=by omega
 have Pe:decide (y<=z)=true:=by simp;omega
 have eF:=hF (by rw [fo];simp [WY,vf]);subst eF;clear WY;have K0:=ae (ag i6 (ag uz MQ));clear fo hF eL bE ey ez vf i6 uz MQ By;go_wp2_with fail;refine wp_region_noPanic ?_;refine wp_region_held_drew (S:=fun w'=>mh w' w.heap.size e g x t (.slice p n c) N/\w'.cell? ⟨b,o+k,none⟩=some (.int .u64 y)/\w'.cell? ⟨b,o+j,none⟩=some (.int .u64 z)) (by kernel_rfl) (by exact K0) (fun hS=>?_);refine gp 0 1 2 3 hS ?_;refine tn 4 hS ?_;refine aH 5 fun KK hK=>?_;refine ld (iO e g x t p c n N ss en _ (xv.below ay.drew) hn y true EL) ?_;rintro r w2 ⟨rfl,aS⟩;refine ⟨_,rfl,?_⟩;have cL:Below wr.heap.size wr w2:=ai (Below.refl wr.heap.size wr).drew aS;refine bm hK ⟨K0.1.below cL,af K0.2.1 cL,af K0.2.2 cL⟩ fun hS=>?_;clear hK KK;refine gj 6 7 8 9 10 11 12 13 hS ?_;refine gj 14 15 16 17 18 19 20 21 hS ?_;refine tn 22 hS ?_;refine wpAnyH_done (by kernel_rfl) ?_ _;refine aX ?_;have b2:=ai BB cL;clear aS cL hS;go_wp2;go_ret;exact ⟨rfl,b2⟩}}};{
 have bt:¬ (k:Int)<(m:Int):=by omega
 have eT:B=true:=by
  rw [<-aa eB,dZ,aa em];have:k=m:=by omega
  rw [<-this];exact gC
 subst eT;go_wp2;go_ret;exact ⟨rfl,BB⟩})
def fQ (i:Nat) (e:Ev):Bool:=if i=7 then e.1==4&&e.2.length==0 else decide (1<=e.1)&&(decide (e.1<=3)&&vp e.2)
def dM (es:List Ev):Bool:=decide (es.length<=8)&&(List.range es.length).all fun i=>fQ i (es.getD i (0,[]))
theorem mV (p:Option Addr) (c n:Nat) (es:List Ev) (en:Hid (es.length=n)) (w:World) (h:L5 w (.slice p n c) es) (hn:n<=1048576) (fK:Hid (∀ e∈es,bQ e.2/\e.2.length<=1048576)) (B:Bool) (eB:Hid (dM es=B)) :
  Calls prog 85 #[.slice p n c] w fun r w'=>r=.returned (.bool B)/\Below w.heap.size w w':=by
 have HR:=ae fun (w':World) (hb:Below w.heap.size w w')=>h.below hb;by_cases h8:n<=8;{
 have P8:¬ (8:Int)<(n:Int):=by omega
 go_enter func85,ntmps85;go_wp2_with fail
 go_loopw [3] (fun iv wr=>∃ k:Nat,k<=n/\iv=.int .i64 k/\Hid ((List.range k).all (fun i=>fQ i (es.getD i (0,[])))=true)/\Below w.heap.size w wr) (fun iv _=>n-(intOf iv).toNat)
 case atStart=>exact ⟨0,Nat.zero_le _,rfl,(by show _=_;rfl),Below.refl _ _⟩
 case round =>(
 obtain ⟨k,hk,rfl,gC,aT⟩:=hrel;by_cases br:k<n;{
 have bt:(k:Int)<(n:Int):=by omega
 have dT:k<es.length:=by rw [aa en];exact br
 obtain ⟨⟨K,P⟩,hy⟩:∃ y,es[k]?=some y:=⟨_,aE dT⟩;have xo:es.getD k (0,[])=(K,P):=by rw [List.getD_eq_getElem?_getD,hy];rfl
 obtain ⟨b,o,rfl,Uw,u,Pt,CH⟩:∃ b o,p=some ⟨b,o,none⟩/\wr.cell? ⟨b,o+k*2,none⟩=some (.int .i64 K)/\∃ u,wr.cell? ⟨b,o+k*2+1,none⟩=some u/\Rd wr u P:=by obtain ⟨p',c',ev,hd⟩:=aa HR _ aT;simp only [Value.slice.injEq] at ev;obtain ⟨rfl,-,-⟩:=ev;rcases hd with h0 | ⟨b,o,h1,h2⟩;{rw [h0] at dT;simp at dT};{exact ⟨b,o,h1,h2 k _ hy⟩}
 obtain ⟨Nb,XD⟩:=aa fK _ (aF hy);obtain ⟨pp,pc,rfl,-⟩:=id CH;obtain ⟨m,em⟩:=aN P.length;rw [em] at CH Pt;have hm:m<=1048576:=by rw [<-em];exact XD
 have EM:=ae em;have Fp:=ae Nb;have QQ:=ae CH;have hF:fQ k (K,P)=false->B=false:=fun h=>by rw [<-aa eB,dM,aa en,db br (by rw [xo];exact h),Bool.and_false]
 have hT:fQ k (K,P)=true->Hid ((List.range (k+1)).all (fun i=>fQ i (es.getD i (0,[])))=true):=fun h=>bU (aa gC) (by rw [xo];exact h);by_cases h7:k=7;{
 subst h7;have Uw:wr.cell? ⟨b,o+14,none⟩=some (.int .i64 K):=Uw;have Pt:wr.cell? ⟨b,o+14+1,none⟩=some (.slice pp m pc):=Pt;have aZ3:wr.cell? ⟨b,o+15,none⟩=some (.slice pp m pc):=Pt;by_cases h4:K=4;{
 have XM:(K==4)=true:=by simp [h4]
 by_cases ur:m=0;{
 have Ue:((m:Int)==0)=true:=by simp;omega
 have pL:=hT (by rw [fQ,if_pos rfl];simp [h4,aa EM,ur]);go_wp2;go_roundw
 case rel=>exact ⟨7+1,by omega,by go_num,pL,aT⟩
 case measure=>simp [intOf];omega}
 {
 have Ue:((m:Int)==0)=false:=by simp;omega
 have eF:=hF (by rw [fQ,if_pos rfl];simp [h4,aa EM,ur]);subst eF;go_wp2;go_ret;exact ⟨rfl,aT⟩}};{
 have XM:(K==4)=false:=by simp [h4]
 have eF:=hF (by rw [fQ,if_pos rfl];simp [h4]);subst eF;go_wp2;go_ret;exact ⟨rfl,aT⟩}};{
 have XK:¬ (k:Int)=7:=by omega
 have h7d:((k:Int)==7)=false:=by simp;omega
 by_cases h4:K=4;{
 have XM:(K==4)=true:=by simp [h4]
 have eF:=hF (by rw [fQ,if_neg h7];simp [h4]);subst eF;go_wp2;go_ret;exact ⟨rfl,aT⟩};{
 have XM:(K==4)=false:=by simp [h4]
 by_cases h1:K<1;{
 have C5:¬ 1<=K:=by omega
 have eF:=hF (by rw [fQ,if_neg h7];simp;omega);subst eF;go_wp2;go_ret;exact ⟨rfl,aT⟩};{
 by_cases h3:3<K;{
 have h3':¬ K<=3:=by omega
 have eF:=hF (by rw [fQ,if_neg h7];simp;omega);subst eF;go_wp2;go_ret;exact ⟨rfl,aT⟩};{
 have C5:¬ K<1:=h1;have g1:1<=K:=by omega
 have g3:K<=3:=by omega
 obtain ⟨V,eV⟩:=aN (vp P);have EV:=ae eV;have fo:fQ k (K,P)=V:=by rw [fQ,if_neg h7,eV];simp [g1,g3]
 go_wp2_with fail;refine (rY pp pc m P EM _ QQ Fp hm V EV).mono ?_;rintro r w2 ⟨rfl,aS⟩;have b2:=ai aT aS;cases V with
 | false=>
  have eF:=hF (by exact fo);subst eF;go_wp2;go_ret;exact ⟨rfl,b2⟩
 | true=>
  have pL:=hT (by exact fo);go_wp2;go_roundw
  case rel=>exact ⟨k+1,by omega,by go_num,pL,b2⟩
  case measure=>simp [intOf];omega}}}}}
 {
 have bt:¬ (k:Int)<(n:Int):=by omega
 have eT:B=true:=by
  rw [<-aa eB,dM,aa en];have:k=n:=by omega
  rw [<-this,aa gC];simp;omega
 subst eT;go_wp2;go_ret;exact ⟨rfl,aT⟩})}
 {
 have P8:(8:Int)<(n:Int):=by omega
 have eF:B=false:=by rw [<-aa eB,dM,aa en];simp [h8]
 subst eF;go_enter func85,ntmps85;go_wp2;go_ret;exact ⟨rfl,Below.refl _ _⟩}
def gU (nx:Int) (ss:List aL) (i:Nat):Bool:=
 decide (1<=(ss.getD i (0,0,[])).1)&&(decide ((ss.getD i (0,0,[])).1<=nx)&&((i==0||decide ((ss.getD (i-1) (0,0,[])).1<(ss.getD i (0,0,[])).1)) &&
  (decide (0<=(ss.getD i (0,0,[])).2.1)&&(decide ((ss.getD i (0,0,[])).2.1<=1000015)&&dM (ss.getD i (0,0,[])).2.2))))
theorem qX (e g x t:Int) (p:Option Addr) (c n k:Nat) (N:Value) (ss:List aL) (en:Hid (ss.length=n)) (w:World) (h:IS w (.slice p n c) ss) (hn:n<=1048576) (hk:k<n)
  (fK:Hid (∀ s∈ss,s.2.2.length<=1048576/\∀ e∈s.2.2,bQ e.2/\e.2.length<=1048576)) (B:Bool) (eB:Hid (gU x ss k=B)) :
  Calls prog 33 #[cK e g x t (.slice p n c) N,.int .i64 k] w fun r w'=>r=.returned (.bool B)/\Below w.heap.size w w':=by
 have HR:=ae fun (w':World) (hb:Below w.heap.size w w')=>h.below hb;have dT:k<ss.length:=by rw [aa en];exact hk
 obtain ⟨⟨I,D,Q⟩,hy⟩:∃ y,ss[k]?=some y:=⟨_,aE dT⟩;have xo:ss.getD k (0,0,[])=(I,D,Q):=by rw [List.getD_eq_getElem?_getD,hy];rfl
 obtain ⟨b,o,rfl,KS⟩:∃ b o,p=some ⟨b,o,none⟩/\∀ i s,ss[i]?=some s->w.cell? ⟨b,o+i*3,none⟩=some (.int .u64 s.1)/\w.cell? ⟨b,o+i*3+1,none⟩=some (.int .i64 s.2.1)/\∃ u,w.cell? ⟨b,o+i*3+2,none⟩=some u/\L5 w u s.2.2:=by obtain ⟨p',c',ev,hd⟩:=h;simp only [Value.slice.injEq] at ev;obtain ⟨rfl,-,-⟩:=ev;rcases hd with h0 | ⟨b,o,h1,h2⟩;{rw [h0] at dT;simp at dT};{exact ⟨b,o,h1,h2⟩}
 obtain ⟨hI,hD,u,hU,hQ⟩:=KS k _ hy;obtain ⟨XB,XC⟩:=aa fK _ (aF hy);obtain ⟨pq,cq,rfl,-⟩:=id hQ;obtain ⟨m,em⟩:=aN Q.length;rw [em] at hQ hU;have hm:m<=1048576:=by rw [<-em];exact XB
 have EM:=ae em;have Ys:Hid (∀ e∈Q,bQ e.2/\e.2.length<=1048576):=XC;have RI:=ae hQ;obtain ⟨T,eT⟩:=aN (dM Q);have ET:Hid (dM Q=T):=eT;have fo:gU x ss k=(decide (1<=I)&&(decide (I<=x)&&((k==0||decide ((ss.getD (k-1) (0,0,[])).1<I))&&(decide (0<=D)&&(decide (D<=1000015)&&T))))):=by rw [gU,xo,eT]
 rw [show (gU x ss k)=B from aa eB] at fo;have Yv:Hid (B=(decide (1<=I)&&(decide (I<=x)&&((k==0||decide ((ss.getD (k-1) (0,0,[])).1<I))&&(decide (0<=D)&&(decide (D<=1000015)&&T)))))):=fo;clear fo;have Jd:(k:Int)<(n:Int):=by omega
 have aa0:(0:Int)<=(k:Int):=by omega
 have HL:=ae dT;clear hy xo XB XC hQ em eT h eB dT;have HCA:=ae KS;clear KS;go_enter func33,ntmps33;have b1:Below w.heap.size w (w.alloc (.cells #[.int .u64 e,.int .u64 g,.int .u64 x,.int .i64 t,.slice (some ⟨b,o,none⟩) n c,N] 27)):=ay.alloc ax _;have i1:=af hI b1;have i2:=af hD b1;have i3:=af hU b1;go_wp2_with fail;obtain ⟨X,hX⟩:=ar ((w.alloc (.cells #[.int .u64 e,.int .u64 g,.int .u64 x,.int .i64 t,.slice (some ⟨b,o,none⟩) n c,N] 27)).alloc (.cells #[.int .u64 I,.int .i64 D,.slice pq m cq] 35));have BX:Hid (Below w.heap.size w X):=by show Below _ _ _;rw [hX];exact b1.alloc (by simp) _
 have kA:X.cell? ⟨w.heap.size+1,0,none⟩=some (.int .u64 I):=by rw [hX];simp
 have kD:X.cell? ⟨w.heap.size+1,1,none⟩=some (.int .i64 D):=by rw [hX];simp
 have kQ:X.cell? ⟨w.heap.size+1,2,none⟩=some (.slice pq m cq):=by rw [hX];simp
 have kB:X.cell? ⟨w.heap.size,2,none⟩=some (.int .u64 x):=by rw [hX];simp
 have kC:X.cell? ⟨w.heap.size,4,none⟩=some (.slice (some ⟨b,o,none⟩) n c):=by rw [hX];simp
 rw [<-hX];have KA:=ae kA;have KB:=ae kB;have KC:=ae kC;clear hX b1 i1 i2 i3 kA kB kC hI hD hU;by_cases h1:I<1;{
 have eF:B=false:=by rw [aa Yv];simp;omega
 subst eF;have h1d:decide (I<1)=true:=by simp;omega
 refine wp_region_noPanic ?_;refine wp_region_held_drew (S:=fun w'=>w'.cell? ⟨w.heap.size+1,0,none⟩=some (.int .u64 I)/\w'.cell? ⟨w.heap.size,2,none⟩=some (.int .u64 x)/\w'.cell? ⟨w.heap.size,4,none⟩=some (.slice (some ⟨b,o,none⟩) n c)) (by kernel_rfl) (by exact ⟨KA,KB,KC⟩) (fun hS=>?_);refine gp 0 1 2 3 hS ?_;refine sn 4 hS ?_;refine sn 5 hS ?_;refine sn 6 hS ?_;refine sn 7 hS ?_;refine sn 8 hS ?_;refine dQ 9 10 hS ?_;refine sn 11 hS ?_;refine sn 12 hS ?_;refine sn 13 hS ?_;refine sn 14 hS ?_;refine sn 15 hS ?_;refine sn 16 hS ?_;refine sn 17 hS ?_;refine sn 18 hS ?_;refine sn 19 hS ?_;refine sn 20 hS ?_;refine sn 21 hS ?_;refine sn 22 hS ?_;refine sn 23 hS ?_;refine sn 24 hS ?_;refine tn 25 hS ?_;refine wpAnyH_done (by kernel_rfl) ?_ _;refine aX ?_;clear hS;go_wp2;go_ret;exact ⟨rfl,BX.drew⟩};{
 have h1d:decide (I<1)=false:=by simp;omega
 by_cases h2:x<I;{
 have eF:B=false:=by rw [aa Yv];simp;omega
 subst eF;have h2d:decide (x<I)=true:=by simp;omega
 refine wp_region_noPanic ?_;refine wp_region_held_drew (S:=fun w'=>w'.cell? ⟨w.heap.size+1,0,none⟩=some (.int .u64 I)/\w'.cell? ⟨w.heap.size,2,none⟩=some (.int .u64 x)/\w'.cell? ⟨w.heap.size,4,none⟩=some (.slice (some ⟨b,o,none⟩) n c)) (by kernel_rfl) (by exact ⟨KA,KB,KC⟩) (fun hS=>?_);refine gj 0 1 2 3 4 5 6 7 hS ?_;refine dQ 8 9 hS ?_;refine tn 10 hS ?_;refine sn 11 hS ?_;refine sn 12 hS ?_;refine sn 13 hS ?_;refine sn 14 hS ?_;refine sn 15 hS ?_;refine sn 16 hS ?_;refine sn 17 hS ?_;refine sn 18 hS ?_;refine sn 19 hS ?_;refine sn 20 hS ?_;refine sn 21 hS ?_;refine sn 22 hS ?_;refine sn 23 hS ?_;refine sn 24 hS ?_;refine tn 25 hS ?_;refine wpAnyH_done (by kernel_rfl) ?_ _;refine aX ?_;clear hS;go_wp2;go_ret;exact ⟨rfl,BX.drew⟩};{
 have h2d:decide (x<I)=false:=by simp;omega
 by_cases vf:k=0;{
 have hp:¬ 0<k:=by omega
 have Xf:¬ (0:Int)<(k:Int):=by omega
 have HK0:=ae vf;clear vf;refine wp_region_noPanic ?_;refine wp_region_held_drew (S:=fun w'=>w'.cell? ⟨w.heap.size+1,0,none⟩=some (.int .u64 I)/\w'.cell? ⟨w.heap.size,2,none⟩=some (.int .u64 x)/\w'.cell? ⟨w.heap.size,4,none⟩=some (.slice (some ⟨b,o,none⟩) n c)) (by kernel_rfl) (by exact ⟨KA,KB,KC⟩) (fun hS=>?_);refine gj 0 1 2 3 4 5 6 7 hS ?_;refine gp 8 9 10 11 hS ?_;refine dQ 12 13 hS ?_;refine sn 14 hS ?_;refine sn 15 hS ?_;refine sn 16 hS ?_;refine sn 17 hS ?_;refine sn 18 hS ?_;refine sn 19 hS ?_;refine sn 20 hS ?_;refine sn 21 hS ?_;refine sn 22 hS ?_;refine sn 23 hS ?_;refine dQ 24 25 hS ?_;refine wpAnyH_done (by kernel_rfl) ?_ _;refine aX ?_;clear hS;have fo:=aa Yv;rw [show (k==0)=true by simp [aa HK0]] at fo;by_cases h5:D<0;{
 have eF:B=false:=by rw [fo];simp;omega
 subst eF;clear fo;have h5':D<0:=h5;go_wp2;go_ret;exact ⟨rfl,BX.drew⟩};{
 by_cases h6:1000015<D;{
 have eF:B=false:=by rw [fo];simp;omega
 subst eF;clear fo;go_wp2;go_ret;exact ⟨rfl,BX.drew⟩};{
 have eQ:B=T:=by rw [fo];simp [show 1<=I by omega,show I<=x by omega,show 0<=D by omega,show D<=1000015 by omega]
 subst eQ;clear fo;go_wp2_with fail;refine (mV pq cq m Q EM _ (by exact RI.below BX.drew) hm Ys B ET).mono ?_;rintro r w2 ⟨rfl,aS⟩;have b2:=ai BX.drew aS;clear aS;go_wp2;go_ret;exact ⟨rfl,b2⟩}}};{
 obtain ⟨j,ej⟩:∃ j:Nat,(k:Int)-1=(j:Int):=⟨k-1,by omega⟩;have By:k-1=j:=by omega
 have wu:j<ss.length:=by have:=aa HL;omega
 obtain ⟨⟨z,zz⟩,hz⟩:∃ y,ss[j]?=some y:=⟨_,aE wu⟩;have Tm:(ss.getD j (0,0,[])).1=z:=by rw [List.getD_eq_getElem?_getD,hz];rfl
 have fo:=aa Yv;rw [By,Tm] at fo;have kZ:=af (aa HCA j _ hz).1 BX;have KZ:Hid (X.cell? ⟨b,o+j*3,none⟩=some (.int .u64 z)):=kZ;have hp:0<k:=by omega
 have Xf:(0:Int)<(k:Int):=by omega
 have Ph:(j:Int)<(n:Int):=by omega
 have Un:(0:Int)<=(j:Int):=by omega
 have wj:IntKind.i64.wrap (j:Int)=(j:Int):=IntWalk.i64_in _ (by omega);rw [show (k==0)=false by simp [vf],Bool.false_or] at fo;have zL:Hid (B=(decide (1<=I)&&(decide (I<=x)&&(decide (z<I)&&(decide (0<=D)&&(decide (D<=1000015)&&T)))))):=fo;clear fo;clear hz Tm wu kZ By vf;by_cases hzI:z<I;{
 have hle:¬ I<=z:=by omega
 have Pe:decide (I<=z)=false:=by simp;omega
 refine wp_region_noPanic ?_;refine wp_region_held_drew (S:=fun w'=>w'.cell? ⟨w.heap.size+1,0,none⟩=some (.int .u64 I)/\w'.cell? ⟨w.heap.size,2,none⟩=some (.int .u64 x)/\w'.cell? ⟨w.heap.size,4,none⟩=some (.slice (some ⟨b,o,none⟩) n c)/\w'.cell? ⟨b,o+j*3,none⟩=some (.int .u64 z)) (by kernel_rfl) (by exact ⟨KA,KB,KC,KZ⟩) (fun hS=>?_);refine gj 0 1 2 3 4 5 6 7 hS ?_;refine gj 8 9 10 11 12 13 14 15 hS ?_;refine gj 16 17 18 19 20 21 22 23 hS ?_;refine dQ 24 25 hS ?_;refine wpAnyH_done (by kernel_rfl) ?_ _;refine aX ?_;clear hS;by_cases h5:D<0;{
 have eF:B=false:=by rw [aa zL];simp;omega
 subst eF;clear zL;have h5':D<0:=h5;go_wp2;go_ret;exact ⟨rfl,BX.drew⟩};{
 by_cases h6:1000015<D;{
 have eF:B=false:=by rw [aa zL];simp;omega
 subst eF;clear zL;go_wp2;go_ret;exact ⟨rfl,BX.drew⟩};{
 have eQ:B=T:=by rw [aa zL];simp only [show decide (1<=I)=true by (rw [decide_eq_true_iff];omega),show decide (I<=x)=true by (rw [decide_eq_true_iff];omega),show decide (z<I)=true by (rw [decide_eq_true_iff];omega),show decide (0<=D)=true by (rw [decide_eq_true_iff];omega),show decide (D<=1000015)=true by (rw [decide_eq_true_iff];omega),Bool.true_and]
 subst eQ;clear zL;go_wp2_with fail;refine (mV pq cq m Q EM _ (by exact RI.below BX.drew) hm Ys B ET).mono ?_;rintro r w2 ⟨rfl,aS⟩;have b2:=ai BX.drew aS;clear aS;go_wp2;go_ret;exact ⟨rfl,b2⟩}}};{
 have hle:I<=z:=by omega
 have Pe:decide (I<=z)=true:=by simp;omega
 have eF:B=false:=by rw [aa zL];simp;omega
 subst eF;clear zL;refine wp_region_noPanic ?_;refine wp_region_held_drew (S:=fun w'=>w'.cell? ⟨w.heap.size+1,0,none⟩=some (.int .u64 I)/\w'.cell? ⟨w.heap.size,2,none⟩=some (.int .u64 x)/\w'.cell? ⟨w.heap.size,4,none⟩=some (.slice (some ⟨b,o,none⟩) n c)/\w'.cell? ⟨b,o+j*3,none⟩=some (.int .u64 z)) (by kernel_rfl) (by exact ⟨KA,KB,KC,KZ⟩) (fun hS=>?_);refine gj 0 1 2 3 4 5 6 7 hS ?_;refine gj 8 9 10 11 12 13 14 15 hS ?_;refine gj 16 17 18 19 20 21 22 23 hS ?_;refine dQ 24 25 hS ?_;refine wpAnyH_done (by kernel_rfl) ?_ _;refine aX ?_;clear hS;go_wp2;go_ret;exact ⟨rfl,BX.drew⟩}}}}
theorem tv (w:World) (C:Array Value) (e:TypeId) (fr:Nat × Nat) (i:Nat):(w.alloc (.cells C e fr)).cell? ⟨w.heap.size,i,none⟩=C[i]?:=by
 have h:(w.alloc (.cells C e fr)).heap[w.heap.size]?=some (.cells C e fr):=by show (w.heap.push (.cells C e fr))[w.heap.size]?=_;simp
 unfold World.cell?;rw [h]
 rfl
def xn (l:List Int) (k:Nat):Nat:=(List.range k).foldl (fun a i=>if l.getD i 0=47 then i else a) 0
theorem lx (l:List Int) (k:Nat):xn l (k+1)=if l.getD k 0=47 then k else xn l k:=by
 rw [xn,List.range_succ,List.foldl_append];rfl
def dF (l:List Int):List Int:=if xn l l.length=0 then [47] else l.take (xn l l.length)
theorem gu (p:Option Addr) (c n:Nat) (l:List Int) (en:Hid (l.length=n)) (w:World) (h:Rd w (.slice p n c) l) (hn:n<=1048576) (hc:n<=c) (wN:c<=maxLen) :
  Calls prog 88 #[.slice p n c] w fun r w'=>∃ q m d,r=.returned (.slice q m d)/\(dF l).length=m/\m<=n+1/\Rd w' (.slice q m d) (dF l)/\Below w.heap.size w w':=by
 have HR:=ae h;clear h;go_enter func88,ntmps88;go_wp2_with fail
 go_loopw [3,4] (fun av iv wr=>∃ k a:Nat,k<=n/\iv=.int .i64 k/\av=.int .i64 a/\a<=k/\Hid (xn l k=a)/\wr=w) (fun _ iv _=>n-(intOf iv).toNat)
 case atStart=>exact ⟨0,0,Nat.zero_le _,rfl,rfl,Nat.le_refl _,(by show _=_;rfl),rfl⟩
 case round =>(
 obtain ⟨k,a,hk,rfl,rfl,hak,Rf,rfl⟩:=hrel;by_cases br:k<n;{
 have bt:(k:Int)<(n:Int):=by omega
 have dT:k<l.length:=by rw [aa en];exact br
 obtain ⟨b,o,rfl,-,bE⟩:=HR.at (by omega);have uz:=bE k dT;have cF:=lx l k;obtain ⟨y,ey⟩:=aN (l.getD k 0);rw [ey] at uz cF;clear bE dT ey;by_cases j9:y=47;{
 subst j9;rw [if_pos rfl] at cF;have jQ:=ae cF;clear cF;go_wp2;go_roundw
 case rel=>exact ⟨k+1,k,by omega,by go_num,rfl,by omega,jQ,by first | rfl | trivial⟩
 case measure=>simp [intOf];omega}
 {
 have bc3:(y==47)=false:=by simp [j9]
 rw [if_neg j9,aa Rf] at cF;have jQ:=ae cF;clear cF;go_wp2;go_roundw
 case rel=>exact ⟨k+1,a,by omega,by go_num,rfl,by omega,jQ,by first | rfl | trivial⟩
 case measure=>simp [intOf];omega}}
 {
 have bt:¬ (k:Int)<(n:Int):=by omega
 have xr:k=n:=by omega
 subst xr;clear hk br;by_cases ha:a=0;{
 subst ha;have CJ:Hid (dF l=[47]):=by show _=_;rw [dF,aa en,aa Rf,if_pos rfl]
 have hcv:=Lib.run_convert_bytes_const (P:=prog) wr 22 5 #[.int .u8 47] 1 1 underlying22 underlying5;go_wp2;go_ret;refine ⟨_,_,_,rfl,by rw [aa CJ];rfl,by omega,?_,ay.alloc ax _⟩;rw [aa CJ];refine ⟨_,_,rfl,.inr ⟨wr.heap.size,0,rfl,fun i hi=>?_⟩⟩
 match i,hi with
 | 0,_=>(rw [Nat.zero_add,tv];rfl)}
 {
 have MV:((a:Int)==0)=false:=by simp [ha]
 have CJ:Hid (dF l=l.take a):=by show _=_;rw [dF,aa en,aa Rf,if_neg ha]
 obtain ⟨b,o,rfl,-,-⟩:=HR.at (by rw [aa en];omega);have g1:(a:Int)<=(k:Int):=by omega
 have g2:(a:Int)<=(c:Int):=by omega
 have HRC:=HR.cut 0 a (Nat.zero_le _) (by rw [aa en];omega) (some ⟨b,o,none⟩) (.inr rfl) c (l.take a) (by simp);have HRD:=ae HRC;clear HRC;go_wp2;go_ret;exact ⟨_,_,_,rfl,by rw [aa CJ,List.length_take,aa en];omega,by omega,by rw [aa CJ];exact aa HRD,Below.refl _ _⟩}})
def fV (v:Value):Prop:=∃ p n c,v=.slice p n c/\n<=c/\c<=maxLen
structure kk (w:World) (b a:Nat) (nd:aA) (P V H U:Value):Prop where
 c0:w.cell? ⟨b,a,none⟩=some P
 c1:w.cell? ⟨b,a+1,none⟩=some V
 c2:w.cell? ⟨b,a+2,none⟩=some (.int .u64 nd.owner)
 c3:w.cell? ⟨b,a+3,none⟩=some (.int .i64 nd.mode)
 c4:w.cell? ⟨b,a+4,none⟩=some H
 c5:w.cell? ⟨b,a+5,none⟩=some (.int .u64 nd.aD)
 c6:w.cell? ⟨b,a+6,none⟩=some (.int .u64 nd.gen)
 c7:w.cell? ⟨b,a+7,none⟩=some U
 r0:Rd w P nd.path
 r1:Rd w V nd.value
 r4:kL w H nd.holders
 r7:kL w U nd.watchers
 k0:fV P
theorem kk.below {a:Nat} {nd:aA} {P V H U:Value} (h:kk w b a nd P V H U) (hb:Below w.heap.size w w'):kk w' b a nd P V H U:=
 ⟨af h.c0 hb,af h.c1 hb,af h.c2 hb,af h.c3 hb,af h.c4 hb,af h.c5 hb,af h.c6 hb,af h.c7 hb,h.r0.below hb,h.r1.below hb,h.r4.below hb,h.r7.below hb,h.k0⟩
def mi (w:World) (v:Value) (ns:List aA):Prop:=
 ∃ (p:Option Addr) (c:Nat),v=.slice p ns.length c/\(ns=[]\/∃ b o,p=some ⟨b,o,none⟩/\∀ i nd,ns[i]?=some nd->∃ P V H U,kk w b (o+i*8) nd P V H U)
theorem mi.below (h:mi w v ns) (hb:Below w.heap.size w w'):mi w' v ns:=by
 obtain ⟨p,c,rfl,h⟩:=h;refine ⟨p,c,rfl,?_⟩;rcases h with h | ⟨b,o,rfl,h⟩;{exact .inl h};{refine .inr ⟨b,o,rfl,fun i e he=>?_⟩;obtain ⟨P,V,H,U,h1⟩:=h i e he;exact ⟨P,V,H,U,h1.below hb⟩}
abbrev Jb (P V:Value) (ow mo:Int) (H:Value) (ep ge:Int) (U:Value):Value:=.agg #[P,V,.int .u64 ow,.int .i64 mo,H,.int .u64 ep,.int .u64 ge,U]
def dh (e g mo:Int) (nh:Nat) (ep ge:Int):Bool:=
 if mo=1 then nh==1&&(decide (1<=ge)&&(decide (ge<=g)&&decide (ep<=e))) else ep==0&&(ge==0&&(if mo=0 then nh==0 else mo==2&&decide (1<=nh)))
theorem oR (e g x t ow mo ep ge:Int) (S N P V U:Value) (p:Option Addr) (c n:Nat) (w:World) (hn:n<=1048576) (B:Bool) (eB:Hid (dh e g mo n ep ge=B)) :
  Calls prog 91 #[cK e g x t S N,Jb P V ow mo (.slice p n c) ep ge U] w fun r w'=>r=.returned (.bool B)/\Below w.heap.size w w':=by
 go_enter func91,ntmps91;go_wp2_with fail
 all_goals (
  go_ret;refine ⟨?_,(ay.alloc ax _).alloc (by simp) _⟩;rw [<-aa eB];simp only [dh,Ending.returned.injEq,Value.bool.injEq])
 all_goals first | (simp_all;done) | (simp_all;omega) | skip
 all_goals (
  show Value.bool ((n:Int)==0)=Value.bool _
  congr 1
  have e0:mo=0:=(by simpa using ‹(mo==0)=true›);have e1:ge=0:=(by simpa using ‹(ge != 0)=false›);subst e0 e1;rw [Bool.eq_iff_iff]
  simp_all)
theorem mi.at {p:Option Addr} {n c:Nat} (h:mi w (.slice p n c) ns) (hl:0<ns.length):∃ b o,p=some ⟨b,o,none⟩/\∀ i nd,ns[i]?=some nd->∃ P V H U,kk w b (o+i*8) nd P V H U:=by
 obtain ⟨p',c',ev,hd⟩:=h;simp only [Value.slice.injEq] at ev;obtain ⟨rfl,-,-⟩:=ev;rcases hd with h0 | ⟨b,o,h1,h2⟩;{rw [h0] at hl;simp at hl};{exact ⟨b,o,h1,h2⟩}
theorem Rd.ew {l:List Int} (h:Rd w v l):∃ p c n,v=.slice p n c/\Hid (l.length=n):=by
 obtain ⟨p,c,rfl,-⟩:=h;exact ⟨p,c,_,rfl,(by show _=_;rfl)⟩
theorem List.fE {α:Type} {ns:List α} {k:Nat} {y:α} (h:ns[k]?=some y):y::ns.drop (k+1)=ns.drop k:=by
 obtain ⟨hk,rfl⟩:=aJ.1 h;exact (List.drop_eq_getElem_cons hk).symm
def ga (ns:List aA) (l:List Int):Option aA:=ns.find? fun nd=>decide (nd.path=l)
theorem jY (e g x t:Int) (p q:Option Addr) (c n d m:Nat) (S:Value) (ns:List aA) (l:List Int) (en:Hid (ns.length=n)) (em:Hid (l.length=m)) (w:World) (h:mi w (.slice p n c) ns) (hl:Rd w (.slice q m d) l) (hn:n<=1048576) (hm:m<=2097152)
  (fK:Hid (bQ l/\∀ nd∈ns,bQ nd.path)) :
  Calls prog 108 #[cK e g x t S (.slice p n c),.slice q m d] w fun r w'=>((∃ (k:Nat) (nd:aA),r=.returned (.int .i64 k)/\k<n/\ns[k]?=some nd/\ga ns l=some nd)\/(r=.returned (.int .i64 (-1))/\ga ns l=none))/\Below w.heap.size w w':=by
 have HR:=ae fun (w':World) (hb:Below w.heap.size w w')=>ag (h.below hb) (hl.below hb);go_enter func108,ntmps108;go_wp2_with fail;obtain ⟨W,hW⟩:=ar (w.alloc (.cells #[.int .u64 e,.int .u64 g,.int .u64 x,.int .i64 t,S,.slice p n c] 27));have bW:Below w.heap.size w W:=by rw [hW];exact ay.alloc ax _
 have KT:W.cell? ⟨w.heap.size,5,none⟩=some (.slice p n c):=by rw [hW];simp
 rw [<-hW];have BW:=ae bW;have HC5:=ae KT
 go_loopw [5] (fun iv wr=>∃ k:Nat,k<=n/\iv=.int .i64 k/\Hid (ga (ns.take k) l=none)/\Below W.heap.size W wr) (fun iv _=>n-(intOf iv).toNat)
 case atStart=>exact ⟨0,Nat.zero_le _,rfl,(by show _=_;rfl),Below.refl _ _⟩
 case round =>(
 obtain ⟨k,hk,rfl,lG,aT⟩:=hrel;have BB:=ai BW aT;have i5:=af HC5 aT;by_cases br:k<n;{
 have bt:(k:Int)<(n:Int):=by omega
 have dT:k<ns.length:=by rw [aa en];exact br
 obtain ⟨hN,hL⟩:=aa HR _ BB;obtain ⟨b,o,rfl,hA⟩:=hN.at (by omega);obtain ⟨nd,hy⟩:∃ y,ns[k]?=some y:=⟨_,aE dT⟩;obtain ⟨P,V,H,U,aK⟩:=hA k nd hy;have hP:=aK.c0;have CH:=aK.r0;obtain ⟨pp,pc,pn,rfl,wX⟩:=CH.ew;have Nb:=fK.2 nd (aF hy);have HY:=ae hy;have QQ:=ae CH;have Fp:=ae Nb;have HLL:=ae hL;go_wp2_with fail;refine (jX pp q pc d pn m nd.path l wX em _ QQ HLL Fp fK.1).mono ?_;rintro r w2 ⟨rfl,aS⟩;by_cases CJ:nd.path=l;{
 rw [show decide (nd.path=l)=true by simp [CJ]];have hF:Hid (ga ns l=some nd):=by
  show _=_;have e1:ns=ns.take k++nd::ns.drop (k+1):=by rw [List.fE (aa HY),List.take_append_drop]
  rw [e1,ga,List.find?_append,show (ns.take k).find? (fun nd=>decide (nd.path=l))=none from aa lG];simp [CJ]
 have b2:=ai BB aS;go_wp2;go_ret;exact ⟨.inl ⟨k,nd,rfl,br,HY,hF⟩,b2⟩};{
 rw [show decide (nd.path=l)=false by simp [CJ]];have GU:Hid (ga (ns.take (k+1)) l=none):=by show _=_;rw [List.take_add_one,aa HY,ga,List.find?_append,show (ns.take k).find? (fun nd=>decide (nd.path=l))=none from aa lG];simp [CJ]
 have b2:=ai aT aS;go_wp2;go_roundw
 case rel=>exact ⟨k+1,by omega,by go_num,GU,b2⟩
 case measure=>simp [intOf];omega}}
 {
 have bt:¬ (k:Int)<(n:Int):=by omega
 have hF:Hid (ga ns l=none):=by show _=_;have:=aa lG;rwa [List.take_of_length_le (by rw [aa en];omega)] at this
 go_wp2;go_ret;exact ⟨.inr ⟨rfl,hF⟩,BB⟩})
def dG (ns:List aA) (l:List Int):Bool:=if l=[47] then true else match ga ns l with | some nd=>nd.owner==0 | none=>false
theorem fH (e g x t:Int) (p q:Option Addr) (c n d m:Nat) (S:Value) (ns:List aA) (l:List Int) (en:Hid (ns.length=n)) (em:Hid (l.length=m)) (w:World) (h:mi w (.slice p n c) ns) (hl:Rd w (.slice q m d) l) (hn:n<=1048576) (hm:m<=2097152)
  (fK:Hid (bQ l/\∀ nd∈ns,bQ nd.path)) (B:Bool) (eB:Hid (dG ns l=B)) :
  Calls prog 87 #[cK e g x t S (.slice p n c),.slice q m d] w fun r w'=>r=.returned (.bool B)/\Below w.heap.size w w':=by
 have HR:=ae fun (w':World) (hb:Below w.heap.size w w')=>ag (h.below hb) (hl.below hb);clear h hl;obtain ⟨W,hW⟩:=ar (w.alloc (.cells #[.int .u64 e,.int .u64 g,.int .u64 x,.int .i64 t,S,.slice p n c] 27));have bW:Below w.heap.size w W:=by rw [hW];exact ay.alloc ax _
 have sW:W.heap.size=w.heap.size+1:=by rw [hW];simp
 have KT:mh W w.heap.size e g x t S (.slice p n c):=by rw [hW];simp [mh]
 have hcv:=Lib.run_convert_bytes_const (P:=prog) W 22 5 #[.int .u8 47] 1 1 underlying22 underlying5;simp only [show (#[Value.int .u8 47]:Array Value).size=1 from rfl] at hcv;obtain ⟨X,hX⟩:=ar (W.alloc (.cells #[.int .u8 47] 5 (1,1+1)));have rX:Rd X (.slice (some ⟨w.heap.size+1,0,none⟩) 1 1) [47]:=by
  rw [hX,<-sW];refine ⟨_,_,rfl,.inr ⟨W.heap.size,0,rfl,fun i hi=>?_⟩⟩
  match i,hi with
  | 0,_=>(rw [Nat.zero_add,tv];rfl)
 have bX:Below w.heap.size w X:=by rw [hX];exact bW.alloc (by omega) _
 have iX:mh X w.heap.size e g x t S (.slice p n c):=KT.below (by rw [hX];exact ay.alloc ax _);rw [<-hX,sW,hW] at hcv;clear sW KT bW hX hW;have RX:=ae rX;have BX:=ae bX;have IX:=ae iX;clear rX bX iX;go_enter func87,ntmps87;go_wp2_with fail;refine (jX q _ d 1 m 1 l [47] em (by show _=_;rfl) _ (aa HR _ (aa BX)).2 (aa RX) fK.1 (by intro x hx;simp at hx;omega)).mono ?_;rintro r w2 ⟨rfl,aS⟩;have b2:=ai BX aS;obtain ⟨j0,j1,j2,j3,j4,j5⟩:=IX.below aS;clear hcv aS;by_cases j9:l=[47];{
 rw [show decide (l=[47])=true by simp [j9]];have eT:B=true:=by rw [<-aa eB,dG,if_pos j9]
 subst eT;clear j9;go_wp2;go_ret;exact ⟨rfl,b2⟩};{
 rw [show decide (l=[47])=false by simp [j9]];have hB:(match ga ns l with | some nd=>nd.owner==0 | none=>false)=B:=by rw [<-aa eB,dG,if_neg j9]
 have HB:=ae hB;clear hB j9;go_wp2_with fail;refine (jY e g x t p q c n d m S ns l en em _ (aa HR _ b2).1 (aa HR _ b2).2 hn hm fK).mono ?_;rintro r w3 ⟨hr,dA⟩;have b3:=ai b2 dA;have k5:=af j5 dA;clear j0 j1 j2 j3 j4 j5 dA;rcases hr with ⟨k,nd,rfl,hk,hy,hF⟩ | ⟨rfl,hF⟩;{
 rw [hF] at HB;have dT:k<ns.length:=by rw [aa en];exact hk
 obtain ⟨b,o,rfl,hA⟩:=(aa HR _ b3).1.at (by omega);obtain ⟨P,V,H,U,aK⟩:=hA k nd hy;have hO:=aK.c2;have Jd:(k:Int)<(n:Int):=by omega
 have vf:(0:Int)<=(k:Int):=by omega
 clear hA aK dT hy hF;cases B with
 | true=>
  have ho:nd.owner=0:=by have:=aa HB;simpa using this
  rw [ho] at hO;clear ho;go_wp2;go_ret;exact ⟨rfl,b3⟩
 | false=>
  have ho:(nd.owner==0)=false:=aa HB;go_wp2;go_ret;exact ⟨rfl,b3⟩};{rw [hF] at HB;have eF:B=false:=HB.symm;subst eF;clear hF;go_wp2;go_ret;exact ⟨rfl,b3⟩}}
end Go.Proofs.YtcfcafeciggjeaaGreatDoor
