import Derived.Test.YtcfcafeciggjeaaGreatDoorK6
import Derived.Test.YtcfcafeciggjeaaGreatDoorK7
import Derived.Deep.DeepCutAuto
namespace Go.Proofs.YtcfcafeciggjeaaGreatDoor
set_option maxHeartbeats 1600000
set_option linter.all false
set_option maxRecDepth 100000
open Go.ChangeShapes Go.WideShapes Go.ChangeAt Go.RowKit Go.Proofs.Tryz
abbrev lX (w:World) (b:Nat) (e g x t:Int) (S N:Value):Prop:=w.cell? ⟨b,0,none⟩=some (.U e)/\w.cell? ⟨b,1,none⟩=some (.U g)/\w.cell? ⟨b,2,none⟩=some (.U x)/\w.cell? ⟨b,3,none⟩=some (.I t)/\w.cell? ⟨b,4,none⟩=some S/\w.cell? ⟨b,5,none⟩=some N
theorem lX.below {w w':World} {b:Nat} {e g x t:Int} {S N:Value} (h:lX w b e g x t S N) (hb:Bw w w'):lX w' b e g x t S N:=
 ⟨af h.1 hb,af h.2.1 hb,af h.2.2.1 hb,af h.2.2.2.1 hb,af h.2.2.2.2.1 hb,af h.2.2.2.2.2 hb⟩
theorem kW (e g x t:Int) (p q:Option Addr) (c n d m:Nat) (N:Value) (ss:List aY) (ids:List Int) (en:Hid (ss.length=n)) (em:Hid (ids.length=m)) (w:World) (h:RdS w (.S p n c) ss) (hi:nH w (.S q m d) ids) (hn:n<=1048576) (hm:m<=1048576) (B:Bool) (eB:Hid (gq ss ids=B)) :
  Calls prog 90 #[cY e g x t (.S p n c) N,.S q m d] w fun r w'=>r=.returned (.bool B)/\Bw w w':=by
 have HR:=ae fun (w':World) (hb:Bw w w')=>ag (h.below hb) (hi.below hb);clear h hi;go_enter func90,ntmps90;go_wp2_with fail;obtain ⟨W,hW⟩:=ax (w.alloc (.cells #[.U e,.U g,.U x,.I t,.S p n c,N] 27));have bW:=ju hW;have Pa:lX W w.heap.size e g x t (.S p n c) N:=by rw [hW];simp [lX]
 rw [<-hW];clear hW;have BW:=ae bW;have Pz:=ae Pa;clear bW Pa
 go_loopw [5] (fun iv wr=>∃ k:Nat,k<=m/\iv=.I k/\Hid ((List.range k).all (yy ss ids)=true)/\Bw W wr) (fun iv _=>m-(intOf iv).toNat)
 case atStart=>exact ⟨0,Nat.zero_le _,rfl,cw,Below.refl _ _⟩
 case round =>(
 obtain ⟨k,hk,rfl,iJ,aR⟩:=hrel;have BB:=ah BW aR;by_cases bj:k<m;{
 have da:=aT k m;have fL:k<ids.length:=by rw [aa em];exact bj
 obtain ⟨hS,hU⟩:=aa HR _ BB;obtain ⟨b,o,rfl,bG⟩:∃ b o,q=some ⟨b,o,none⟩/\∀ i,i<m->wr.cell? ⟨b,o+i,none⟩=some (.U (ids.getD i 0)):=by obtain ⟨p',c',ev,hd⟩:=hU;simp only [Value.slice.injEq] at ev;obtain ⟨rfl,-,-⟩:=ev;rcases hd with h0 | ⟨b,o,h1,h2⟩;{rw [h0] at fL;simp at fL};{exact ⟨b,o,h1,fun i hi=>h2 i (by rw [aa em];exact hi)⟩}
 have i6:=Pz.below aR;have zO:=bG k bj;obtain ⟨y,ey⟩:=aH (ids.getD k 0);rw [ey] at zO;have Ov:=ae hS;obtain ⟨L,eL⟩:=aH (live ss y);have EL:Hid ((ss.any fun s=>s.1==y)=L):=eL;have gS:yy ss ids k=(L&&(k==0||decide (ids.getD (k-1) 0<y))):=by rw [yy,ey,eL]
 have hF:yy ss ids k=false->B=false:=fun h=>by rw [<-aa eB,gq,aa em];exact dK bj h
 clear hS hU fL;cases L with
 | false=>
  have eF:=hF (by rw [gS];rfl);subst eF;have K0:=ae (ag i6 zO);clear gS hF eL bG ey i6 zO;go_wp2_with fail;refine bO (fun w'=>lX w' w.heap.size e g x t (.S p n c) N/\w'.cell? ⟨b,o+k,none⟩=some (.U y)) (by exact K0) fun hS=>?_;refine gC 0 1 2 3 hS ?_;refine tn 4 hS ?_;refine ry [5] ?_;refine cn (fun KK hK=>?_) ?_;{refine rz (kG e g x t p c n N ss en _ (Ov.below aJ.drew) hn y false EL) ?_;rintro r w2 ⟨rfl,cX⟩;refine ⟨_,rfl,?_⟩;have cR:Bw wr w2:=ah (Below.refl wr.heap.size wr).drew cX;refine cg hK ⟨K0.1.below cR,af K0.2 cR⟩ fun hS=>?_;clear hK KK;refine fe 6 7 hS ?_;refine iI 8 9 10 11 hS ?_;refine iI 12 13 14 15 hS ?_;refine iI 16 17 18 19 hS ?_;refine sn 20 hS ?_;refine sn 21 hS ?_;refine tn 22 hS ?_;refine bu ?_;have b2:=ah BB cR;clear cX cR hS;go_wp2;go_ret;exact ⟨rfl,b2⟩};exact AllReadyH.nil
 | true=>
  by_cases GI:k=0;{
 have zb:Hid ((List.range (k+1)).all (yy ss ids)=true):=cM (aa iJ) (by rw [gS,GI];rfl);have HK0:=ae GI;have hp:¬ 0<k:=ab;have VH:¬ (0:Int)<(k:Int):=ab;have K0:=ae (ag i6 zO);clear gS hF eL bG ey GI i6 zO;go_wp2_with fail;refine bO (fun w'=>lX w' w.heap.size e g x t (.S p n c) N/\w'.cell? ⟨b,o+k,none⟩=some (.U y)) (by exact K0) fun hS=>?_;refine gC 0 1 2 3 hS ?_;refine tn 4 hS ?_;refine bH 5 fun KK hK=>?_;refine rz (kG e g x t p c n N ss en _ (Ov.below aJ.drew) hn y true EL) ?_;rintro r w2 ⟨rfl,cX⟩;refine ⟨_,rfl,?_⟩;have cR:Bw wr w2:=ah (Below.refl wr.heap.size wr).drew cX;refine cg hK ⟨K0.1.below cR,af K0.2 cR⟩ fun hS=>?_;clear hK KK;refine gC 6 7 8 9 hS ?_;refine tn 10 hS ?_;refine iI 11 12 13 14 hS ?_;refine iI 15 16 17 18 hS ?_;refine sn 19 hS ?_;refine sn 20 hS ?_;refine fe 21 22 hS ?_;refine bu ?_;have b2:=ah aR cR;clear cX cR hS;go_wp2;go_roundw
 case rel=>exact ⟨k+1,ab,by go_num,zb,b2⟩
 exact dC};{
 obtain ⟨j,ej⟩:∃ j:Nat,(k:Int)-1=(j:Int):=⟨k-1,ab⟩;have Gh:k-1=j:=ab;have Tw:=bG j ab;obtain ⟨z,ez⟩:=aH (ids.getD j 0);rw [ez] at Tw;rw [Gh,ez] at gS;have hp:0<k:=ab;have VH:=ja 0 k;have VW:=aT j m;have hj0:=dE 0 j;have wj:=ji j;by_cases hzy:z<y;{
 have hle:¬ y<=z:=ab;have VQ:decide (y<=z)=false:=by simp;omega
 have zb:Hid ((List.range (k+1)).all (yy ss ids)=true):=cM (aa iJ) (by rw [gS];simp [hzy]);clear hzy;have K0:=ae (ag i6 (ag zO Tw));clear gS hF eL bG ey ez GI i6 zO Tw Gh;go_wp2_with fail;refine bO (fun w'=>lX w' w.heap.size e g x t (.S p n c) N/\w'.cell? ⟨b,o+k,none⟩=some (.U y)/\w'.cell? ⟨b,o+j,none⟩=some (.U z)) (by exact K0) fun hS=>?_;refine gC 0 1 2 3 hS ?_;refine tn 4 hS ?_;refine bH 5 fun KK hK=>?_;refine rz (kG e g x t p c n N ss en _ (Ov.below aJ.drew) hn y true EL) ?_;rintro r w2 ⟨rfl,cX⟩;refine ⟨_,rfl,?_⟩;have cR:Bw wr w2:=ah (Below.refl wr.heap.size wr).drew cX;refine cg hK ⟨K0.1.below cR,af K0.2.1 cR,af K0.2.2 cR⟩ fun hS=>?_;clear hK KK;refine gy 6 7 8 9 10 11 12 13 hS ?_;refine gy 14 15 16 17 18 19 20 21 hS ?_;refine tn 22 hS ?_;refine bu ?_;have b2:=ah aR cR;clear cX cR hS;go_wp2;go_roundw
 case rel=>exact ⟨k+1,ab,by go_num,zb,b2⟩
 exact dC};{
 have hle:y<=z:=ab;have VQ:decide (y<=z)=true:=by simp;omega
 have eF:=hF (by rw [gS];simp [hzy,GI]);subst eF;clear hzy;have K0:=ae (ag i6 (ag zO Tw));clear gS hF eL bG ey ez GI i6 zO Tw Gh;go_wp2_with fail;refine bO (fun w'=>lX w' w.heap.size e g x t (.S p n c) N/\w'.cell? ⟨b,o+k,none⟩=some (.U y)/\w'.cell? ⟨b,o+j,none⟩=some (.U z)) (by exact K0) fun hS=>?_;refine gC 0 1 2 3 hS ?_;refine tn 4 hS ?_;refine bH 5 fun KK hK=>?_;refine rz (kG e g x t p c n N ss en _ (Ov.below aJ.drew) hn y true EL) ?_;rintro r w2 ⟨rfl,cX⟩;refine ⟨_,rfl,?_⟩;have cR:Bw wr w2:=ah (Below.refl wr.heap.size wr).drew cX;refine cg hK ⟨K0.1.below cR,af K0.2.1 cR,af K0.2.2 cR⟩ fun hS=>?_;clear hK KK;refine gy 6 7 8 9 10 11 12 13 hS ?_;refine gy 14 15 16 17 18 19 20 21 hS ?_;refine tn 22 hS ?_;refine bu ?_;have b2:=ah BB cR;clear cX cR hS;go_wp2;go_ret;exact ⟨rfl,b2⟩}}};{
 have da:=dy k m;have eT:B=true:=by
  rw [<-aa eB,gq,aa em];have:k=m:=by omega
  rw [<-this];exact iJ
 subst eT;go_wp2;go_ret;exact ⟨rfl,BB⟩})
def iy (i:Nat) (e:Ev):Bool:=if i=7 then e.1==4&&e.2.length==0 else decide (1<=e.1)&&(decide (e.1<=3)&&vp e.2)
def fy (es:List Ev):Bool:=decide (es.length<=8)&&(List.range es.length).all fun i=>iy i (es.getD i (0,[]))
theorem qc (p:Option Addr) (c n:Nat) (es:List Ev) (en:Hid (es.length=n)) (w:World) (h:vO w (.S p n c) es) (hn:n<=1048576) (fI:Hid (∀ e∈es,bM e.2/\e.2.length<=1048576)) (B:Bool) (eB:Hid (fy es=B)) :
  Calls prog 85 #[.S p n c] w fun r w'=>r=.returned (.bool B)/\Bw w w':=by
 have HR:=ae fun (w':World) (hb:Bw w w')=>h.below hb;by_cases h8:n<=8;{
 have h8':¬ (8:Int)<(n:Int):=ab;go_enter func85,ntmps85;go_wp2_with fail
 go_loopw [3] (fun iv wr=>∃ k:Nat,k<=n/\iv=.I k/\Hid ((List.range k).all (fun i=>iy i (es.getD i (0,[])))=true)/\Bw w wr) (fun iv _=>n-(intOf iv).toNat)
 case atStart=>exact ⟨0,Nat.zero_le _,rfl,cw,Below.refl _ _⟩
 case round =>(
 obtain ⟨k,hk,rfl,iJ,aR⟩:=hrel;by_cases bj:k<n;{
 have da:=aT k n;have fL:k<es.length:=by rw [aa en];exact bj
 obtain ⟨⟨K,P⟩,hy⟩:∃ y,es[k]?=some y:=⟨_,aK fL⟩;have Cc:es.getD k (0,[])=(K,P):=by rw [List.getD_eq_getElem?_getD,hy];rfl
 obtain ⟨b,o,rfl,hcK,u,Wk,Hk⟩:∃ b o,p=some ⟨b,o,none⟩/\wr.cell? ⟨b,o+k*2,none⟩=some (.I K)/\∃ u,wr.cell? ⟨b,o+k*2+1,none⟩=some u/\Rd wr u P:=by obtain ⟨p',c',ev,hd⟩:=aa HR _ aR;simp only [Value.slice.injEq] at ev;obtain ⟨rfl,-,-⟩:=ev;rcases hd with h0 | ⟨b,o,h1,h2⟩;{rw [h0] at fL;simp at fL};{exact ⟨b,o,h1,h2 k _ hy⟩}
 obtain ⟨TM,hPl⟩:=aa fI _ (aF hy);obtain ⟨pp,pc,rfl,-⟩:=id Hk;obtain ⟨m,em⟩:=aH P.length;rw [em] at Hk Wk;have hm:m<=1048576:=by rw [<-em];exact hPl
 have EM:=ae em;have Kg:=ae TM;have XK:=ae Hk;have hF:iy k (K,P)=false->B=false:=fun h=>by rw [<-aa eB,fy,aa en,dK bj (by rw [Cc];exact h),Bool.and_false]
 have hT:iy k (K,P)=true->Hid ((List.range (k+1)).all (fun i=>iy i (es.getD i (0,[])))=true):=fun h=>cM (aa iJ) (by rw [Cc];exact h);by_cases h7:k=7;{
 subst h7;have hcK:wr.cell? ⟨b,o+14,none⟩=some (.I K):=hcK;have Wk:wr.cell? ⟨b,o+14+1,none⟩=some (.S pp m pc):=Wk;have bV4:wr.cell? ⟨b,o+15,none⟩=some (.S pp m pc):=Wk;by_cases h4:K=4;{
 have h4d:(K==4)=true:=by simp [h4]
 by_cases xu:m=0;{
 have ab8:((m:Int)==0)=true:=by simp;omega
 have zb:=hT (by rw [iy,if_pos rfl];simp [h4,aa EM,xu]);go_wp2;go_roundw
 case rel=>exact ⟨7+1,ab,by go_num,zb,aR⟩
 exact dC};{
 have ab8:((m:Int)==0)=false:=by simp;omega
 have eF:=hF (by rw [iy,if_pos rfl];simp [h4,aa EM,xu]);subst eF;go_wp2;go_ret;exact ⟨rfl,aR⟩}};{
 have h4d:(K==4)=false:=by simp [h4]
 have eF:=hF (by rw [iy,if_pos rfl];simp [h4]);subst eF;go_wp2;go_ret;exact ⟨rfl,aR⟩}};{
 have WE:¬ (k:Int)=7:=ab;have h7d:((k:Int)==7)=false:=by simp;omega
 by_cases h4:K=4;{
 have h4d:(K==4)=true:=by simp [h4]
 have eF:=hF (by rw [iy,if_neg h7];simp [h4]);subst eF;go_wp2;go_ret;exact ⟨rfl,aR⟩};{
 have h4d:(K==4)=false:=by simp [h4]
 by_cases h1:K<1;{have Hr:¬ 1<=K:=ab;have eF:=hF (by rw [iy,if_neg h7];simp;omega);subst eF;go_wp2;go_ret;exact ⟨rfl,aR⟩};{
 by_cases h3:3<K;{have h3':¬ K<=3:=ab;have eF:=hF (by rw [iy,if_neg h7];simp;omega);subst eF;go_wp2;go_ret;exact ⟨rfl,aR⟩};{
 have Hr:¬ K<1:=h1;have g1:1<=K:=ab;have g3:K<=3:=ab;obtain ⟨V,eV⟩:=aH (vp P);have EV:=ae eV;have gS:iy k (K,P)=V:=by rw [iy,if_neg h7,eV];simp [g1,g3]
 go_wp2_with fail;refine (we pp pc m P EM _ XK Kg hm V EV).mono ?_;rintro r w2 ⟨rfl,cX⟩;have b2:=ah aR cX;cases V with
 | false=>
  have eF:=hF (by exact gS);subst eF;go_wp2;go_ret;exact ⟨rfl,b2⟩
 | true=>
  have zb:=hT (by exact gS);go_wp2;go_roundw
  case rel=>exact ⟨k+1,ab,by go_num,zb,b2⟩
  exact dC}}}}};{
 have da:=dy k n;have eT:B=true:=by
  rw [<-aa eB,fy,aa en];have:k=n:=by omega
  rw [<-this,aa iJ];simp;omega
 subst eT;go_wp2;go_ret;exact ⟨rfl,aR⟩})}
 {
 have h8':=ja 8 n;have eF:B=false:=by rw [<-aa eB,fy,aa en];simp [h8]
 subst eF;go_enter func85,ntmps85;go_wp2;go_ret;exact ⟨rfl,Below.refl _ _⟩}
def jy (nx:Int) (ss:List aY) (i:Nat):Bool:=
 decide (1<=(ss.getD i (0,0,[])).1)&&(decide ((ss.getD i (0,0,[])).1<=nx)&&((i==0||decide ((ss.getD (i-1) (0,0,[])).1<(ss.getD i (0,0,[])).1)) &&
  (decide (0<=(ss.getD i (0,0,[])).2.1)&&(decide ((ss.getD i (0,0,[])).2.1<=1000015)&&fy (ss.getD i (0,0,[])).2.2))))
theorem uQ (e g x t:Int) (p:Option Addr) (c n k:Nat) (N:Value) (ss:List aY) (en:Hid (ss.length=n)) (w:World) (h:RdS w (.S p n c) ss) (hn:n<=1048576) (hk:k<n)
  (fI:Hid (∀ s∈ss,s.2.2.length<=1048576/\∀ e∈s.2.2,bM e.2/\e.2.length<=1048576)) (B:Bool) (eB:Hid (jy x ss k=B)) :
  Calls prog 33 #[cY e g x t (.S p n c) N,.I k] w fun r w'=>r=.returned (.bool B)/\Bw w w':=by
 have HR:=ae fun (w':World) (hb:Bw w w')=>h.below hb;have fL:k<ss.length:=by rw [aa en];exact hk
 obtain ⟨⟨I,D,Q⟩,hy⟩:∃ y,ss[k]?=some y:=⟨_,aK fL⟩;have Cc:ss.getD k (0,0,[])=(I,D,Q):=by rw [List.getD_eq_getElem?_getD,hy];rfl
 obtain ⟨b,o,rfl,Rm⟩:∃ b o,p=some ⟨b,o,none⟩/\∀ i s,ss[i]?=some s->w.cell? ⟨b,o+i*3,none⟩=some (.U s.1)/\w.cell? ⟨b,o+i*3+1,none⟩=some (.I s.2.1)/\∃ u,w.cell? ⟨b,o+i*3+2,none⟩=some u/\vO w u s.2.2:=by obtain ⟨p',c',ev,hd⟩:=h;simp only [Value.slice.injEq] at ev;obtain ⟨rfl,-,-⟩:=ev;rcases hd with h0 | ⟨b,o,h1,h2⟩;{rw [h0] at fL;simp at fL};{exact ⟨b,o,h1,h2⟩}
 obtain ⟨hI,hD,u,hU,hQ⟩:=Rm k _ hy;obtain ⟨hQl,hQb⟩:=aa fI _ (aF hy);obtain ⟨pq,cq,rfl,-⟩:=id hQ;obtain ⟨m,em⟩:=aH Q.length;rw [em] at hQ hU;have hm:m<=1048576:=by rw [<-em];exact hQl
 have EM:=ae em;have HBQ:Hid (∀ e∈Q,bM e.2/\e.2.length<=1048576):=hQb;have YH:=ae hQ;obtain ⟨T,eT⟩:=aH (fy Q);have ET:Hid (fy Q=T):=eT;have gS:jy x ss k=(decide (1<=I)&&(decide (I<=x)&&((k==0||decide ((ss.getD (k-1) (0,0,[])).1<I))&&(decide (0<=D)&&(decide (D<=1000015)&&T))))):=by rw [jy,Cc,eT]
 rw [show (jy x ss k)=B from aa eB] at gS;have HAT:Hid (B=(decide (1<=I)&&(decide (I<=x)&&((k==0||decide ((ss.getD (k-1) (0,0,[])).1<I))&&(decide (0<=D)&&(decide (D<=1000015)&&T)))))):=gS;clear gS;have Ms:=aT k n;have aM0:=dE 0 k;have HL:=ae fL;clear hy Cc hQl hQb hQ em eT h eB fL;have HCA:=ae Rm;clear Rm;go_enter func33,ntmps33;have b1:Bw w (w.alloc (.cells #[.U e,.U g,.U x,.I t,.S (some ⟨b,o,none⟩) n c,N] 27)):=aJ.alloc aA _;have i1:=af hI b1;have i2:=af hD b1;have i3:=af hU b1;go_wp2_with fail;obtain ⟨X,hX⟩:=ax ((w.alloc (.cells #[.U e,.U g,.U x,.I t,.S (some ⟨b,o,none⟩) n c,N] 27)).alloc (.cells #[.U I,.I D,.S pq m cq] 35));have BX:Hid (Bw w X):=by show Below _ _ _;rw [hX];exact b1.alloc aU _
 have kA:X.cell? ⟨w.heap.size+1,0,none⟩=some (.U I):=by rw [hX];simp
 have kD:X.cell? ⟨w.heap.size+1,1,none⟩=some (.I D):=by rw [hX];simp
 have kQ:X.cell? ⟨w.heap.size+1,2,none⟩=some (.S pq m cq):=by rw [hX];simp
 have kB:X.cell? ⟨w.heap.size,2,none⟩=some (.U x):=by rw [hX];simp
 have kC:X.cell? ⟨w.heap.size,4,none⟩=some (.S (some ⟨b,o,none⟩) n c):=by rw [hX];simp
 rw [<-hX];have KA:=ae kA;have KB:=ae kB;have KC:=ae kC;clear hX b1 i1 i2 i3 kA kB kC hI hD hU;by_cases h1:I<1;{
 have eF:B=false:=by rw [aa HAT];simp;omega
 subst eF;have h1d:decide (I<1)=true:=by simp;omega
 refine bO (fun w'=>w'.cell? ⟨w.heap.size+1,0,none⟩=some (.U I)/\w'.cell? ⟨w.heap.size,2,none⟩=some (.U x)/\w'.cell? ⟨w.heap.size,4,none⟩=some (.S (some ⟨b,o,none⟩) n c)) (by exact ⟨KA,KB,KC⟩) fun hS=>?_;refine gC 0 1 2 3 hS ?_;refine iI 4 5 6 7 hS ?_;refine sn 8 hS ?_;refine fe 9 10 hS ?_;refine iI 11 12 13 14 hS ?_;refine iI 15 16 17 18 hS ?_;refine iI 19 20 21 22 hS ?_;refine sn 23 hS ?_;refine sn 24 hS ?_;refine tn 25 hS ?_;refine bu ?_;clear hS;go_wp2;go_ret;exact ⟨rfl,BX.drew⟩};{
 have h1d:decide (I<1)=false:=by simp;omega
 by_cases h2:x<I;{
 have eF:B=false:=by rw [aa HAT];simp;omega
 subst eF;have h2d:decide (x<I)=true:=by simp;omega
 refine bO (fun w'=>w'.cell? ⟨w.heap.size+1,0,none⟩=some (.U I)/\w'.cell? ⟨w.heap.size,2,none⟩=some (.U x)/\w'.cell? ⟨w.heap.size,4,none⟩=some (.S (some ⟨b,o,none⟩) n c)) (by exact ⟨KA,KB,KC⟩) fun hS=>?_;refine gy 0 1 2 3 4 5 6 7 hS ?_;refine fe 8 9 hS ?_;refine tn 10 hS ?_;refine iI 11 12 13 14 hS ?_;refine iI 15 16 17 18 hS ?_;refine iI 19 20 21 22 hS ?_;refine sn 23 hS ?_;refine sn 24 hS ?_;refine tn 25 hS ?_;refine bu ?_;clear hS;go_wp2;go_ret;exact ⟨rfl,BX.drew⟩};{
 have h2d:decide (x<I)=false:=by simp;omega
 by_cases GI:k=0;{
 have hp:¬ 0<k:=ab;have VH:¬ (0:Int)<(k:Int):=ab;have HK0:=ae GI;clear GI;refine bO (fun w'=>w'.cell? ⟨w.heap.size+1,0,none⟩=some (.U I)/\w'.cell? ⟨w.heap.size,2,none⟩=some (.U x)/\w'.cell? ⟨w.heap.size,4,none⟩=some (.S (some ⟨b,o,none⟩) n c)) (by exact ⟨KA,KB,KC⟩) fun hS=>?_;refine gy 0 1 2 3 4 5 6 7 hS ?_;refine gC 8 9 10 11 hS ?_;refine fe 12 13 hS ?_;refine iI 14 15 16 17 hS ?_;refine iI 18 19 20 21 hS ?_;refine sn 22 hS ?_;refine sn 23 hS ?_;refine fe 24 25 hS ?_;refine bu ?_;clear hS;have gS:=aa HAT;rw [show (k==0)=true by simp [aa HK0]] at gS;by_cases h5:D<0;{
 have eF:B=false:=by rw [gS];simp;omega
 subst eF;clear gS;have h5':D<0:=h5;go_wp2;go_ret;exact ⟨rfl,BX.drew⟩};{
 by_cases h6:1000015<D;{
 have eF:B=false:=by rw [gS];simp;omega
 subst eF;clear gS;go_wp2;go_ret;exact ⟨rfl,BX.drew⟩};{
 have eQ:B=T:=by rw [gS];simp [show 1<=I by omega,show I<=x by omega,show 0<=D by omega,show D<=1000015 by omega]
 subst eQ;clear gS;go_wp2_with fail;refine (qc pq cq m Q EM _ (by exact YH.below BX.drew) hm HBQ B ET).mono ?_;rintro r w2 ⟨rfl,cX⟩;have b2:=ah BX.drew cX;clear cX;go_wp2;go_ret;exact ⟨rfl,b2⟩}}};{
 obtain ⟨j,ej⟩:∃ j:Nat,(k:Int)-1=(j:Int):=⟨k-1,ab⟩;have Gh:k-1=j:=ab;have Bf:j<ss.length:=by have:=aa HL;omega
 obtain ⟨⟨z,zz⟩,hz⟩:∃ y,ss[j]?=some y:=⟨_,aK Bf⟩;have ZP:(ss.getD j (0,0,[])).1=z:=by rw [List.getD_eq_getElem?_getD,hz];rfl
 have gS:=aa HAT;rw [Gh,ZP] at gS;have kZ:=af (aa HCA j _ hz).1 BX;have KZ:Hid (X.cell? ⟨b,o+j*3,none⟩=some (.U z)):=kZ;have hp:0<k:=ab;have VH:=ja 0 k;have VW:=aT j n;have hj0:=dE 0 j;have wj:=ji j;rw [show (k==0)=false by simp [GI],Bool.false_or] at gS;have En:Hid (B=(decide (1<=I)&&(decide (I<=x)&&(decide (z<I)&&(decide (0<=D)&&(decide (D<=1000015)&&T)))))):=gS;clear gS;clear hz ZP Bf kZ Gh GI;by_cases hzI:z<I;{
 have hle:¬ I<=z:=ab;have VQ:decide (I<=z)=false:=by simp;omega
 refine bO (fun w'=>w'.cell? ⟨w.heap.size+1,0,none⟩=some (.U I)/\w'.cell? ⟨w.heap.size,2,none⟩=some (.U x)/\w'.cell? ⟨w.heap.size,4,none⟩=some (.S (some ⟨b,o,none⟩) n c)/\w'.cell? ⟨b,o+j*3,none⟩=some (.U z)) (by exact ⟨KA,KB,KC,KZ⟩) fun hS=>?_;refine gy 0 1 2 3 4 5 6 7 hS ?_;refine gy 8 9 10 11 12 13 14 15 hS ?_;refine gy 16 17 18 19 20 21 22 23 hS ?_;refine fe 24 25 hS ?_;refine bu ?_;clear hS;by_cases h5:D<0;{
 have eF:B=false:=by rw [aa En];simp;omega
 subst eF;clear En;have h5':D<0:=h5;go_wp2;go_ret;exact ⟨rfl,BX.drew⟩};{
 by_cases h6:1000015<D;{
 have eF:B=false:=by rw [aa En];simp;omega
 subst eF;clear En;go_wp2;go_ret;exact ⟨rfl,BX.drew⟩};{
 have eQ:B=T:=by rw [aa En];simp only [show decide (1<=I)=true by (rw [decide_eq_true_iff];omega),show decide (I<=x)=true by (rw [decide_eq_true_iff];omega),show decide (z<I)=true by (rw [decide_eq_true_iff];omega),show decide (0<=D)=true by (rw [decide_eq_true_iff];omega),show decide (D<=1000015)=true by (rw [decide_eq_true_iff];omega),Bool.true_and]
 subst eQ;clear En;go_wp2_with fail;refine (qc pq cq m Q EM _ (by exact YH.below BX.drew) hm HBQ B ET).mono ?_;rintro r w2 ⟨rfl,cX⟩;have b2:=ah BX.drew cX;clear cX;go_wp2;go_ret;exact ⟨rfl,b2⟩}}};{
 have hle:I<=z:=ab;have VQ:decide (I<=z)=true:=by simp;omega
 have eF:B=false:=by rw [aa En];simp;omega
 subst eF;clear En;refine bO (fun w'=>w'.cell? ⟨w.heap.size+1,0,none⟩=some (.U I)/\w'.cell? ⟨w.heap.size,2,none⟩=some (.U x)/\w'.cell? ⟨w.heap.size,4,none⟩=some (.S (some ⟨b,o,none⟩) n c)/\w'.cell? ⟨b,o+j*3,none⟩=some (.U z)) (by exact ⟨KA,KB,KC,KZ⟩) fun hS=>?_;refine gy 0 1 2 3 4 5 6 7 hS ?_;refine gy 8 9 10 11 12 13 14 15 hS ?_;refine gy 16 17 18 19 20 21 22 23 hS ?_;refine fe 24 25 hS ?_;refine bu ?_;clear hS;go_wp2;go_ret;exact ⟨rfl,BX.drew⟩}}}}
end Go.Proofs.YtcfcafeciggjeaaGreatDoor
