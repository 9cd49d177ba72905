import Derived.Test.YtcfcafeciggjeaaGreatDoorK6
import Derived.Test.YtcfcafeciggjeaaGreatDoorK7
namespace Go.Proofs.YtcfcafeciggjeaaGreatDoor
set_option maxHeartbeats 1600000
set_option linter.all false
set_option maxRecDepth 100000
open Go.ChangeShapes Go.WideShapes Go.ChangeAt Go.RowKit Go.Proofs.Tryz
variable {ns:List aD} {v:Value} {w w':World}
def iy (i:Nat) (e:Ev):Bool:=if i=7 then e.1==4&&e.2.length==0 else decide (1<=e.1)&&(decide (e.1<=3)&&vp e.2)
def fy (es:List Ev):Bool:=decide (es.length<=8)&&(List.range es.length).all fun i=>iy i (es.getD i (0,[]))
theorem qc (p:Option Addr) (c n:Nat) (es:List Ev) (en:Hid (es.length=n)) (w:World) (h:vO w (.S p n c) es) (hn:n<=1048576) (fI:Hid (∀ e∈es,bM e.2/\e.2.length<=1048576)) (B:Bool) (eB:Hid (fy es=B)) :
  Calls prog 85 #[.S p n c] w fun r w'=>r=.returned (.bool B)/\Bw w w':=by
 have HR:=ae fun (w':World) (hb:Bw w w')=>h.below hb;by_cases h8:n<=8;{
 have RF:¬ (8:Int)<(n:Int):=by omega
 go_enter func85,ntmps85;go_wp2_with fail
 go_loopw [3] (fun iv wr=>∃ k:Nat,k<=n/\iv=.I k/\Hid ((List.range k).all (fun i=>iy i (es.getD i (0,[])))=true)/\Bw w wr) (fun iv _=>n-(intOf iv).toNat)
 case atStart=>exact ⟨0,Nat.zero_le _,rfl,(by show _=_;rfl),Below.refl _ _⟩
 case round =>(
 obtain ⟨k,hk,rfl,iJ,aR⟩:=hrel;by_cases bj:k<n;{
 have bm:=aT k n;have fL:k<es.length:=by rw [aa en];exact bj
 obtain ⟨⟨K,P⟩,hy⟩:∃ y,es[k]?=some y:=⟨_,aK fL⟩;have Cc:es.getD k (0,[])=(K,P):=by rw [List.getD_eq_getElem?_getD,hy];rfl
 obtain ⟨b,o,rfl,hcK,u,Wk,Hk⟩:∃ b o,p=some ⟨b,o,none⟩/\wr.cell? ⟨b,o+k*2,none⟩=some (.I K)/\∃ u,wr.cell? ⟨b,o+k*2+1,none⟩=some u/\Rd wr u P:=by obtain ⟨p',c',ev,hd⟩:=aa HR _ aR;simp only [Value.slice.injEq] at ev;obtain ⟨rfl,-,-⟩:=ev;rcases hd with h0 | ⟨b,o,h1,h2⟩;{rw [h0] at fL;simp at fL};{exact ⟨b,o,h1,h2 k _ hy⟩}
 obtain ⟨TM,hPl⟩:=aa fI _ (aF hy);obtain ⟨pp,pc,rfl,-⟩:=id Hk;obtain ⟨m,em⟩:=aH P.length;rw [em] at Hk Wk;have hm:m<=1048576:=by rw [<-em];exact hPl
 have EM:=ae em;have Kg:=ae TM;have XK:=ae Hk;have hF:iy k (K,P)=false->B=false:=fun h=>by rw [<-aa eB,fy,aa en,dK bj (by rw [Cc];exact h),Bool.and_false]
 have hT:iy k (K,P)=true->Hid ((List.range (k+1)).all (fun i=>iy i (es.getD i (0,[])))=true):=fun h=>cM (aa iJ) (by rw [Cc];exact h);by_cases h7:k=7;{
 subst h7;have hcK:wr.cell? ⟨b,o+14,none⟩=some (.I K):=hcK;have Wk:wr.cell? ⟨b,o+14+1,none⟩=some (.S pp m pc):=Wk;have bV4:wr.cell? ⟨b,o+15,none⟩=some (.S pp m pc):=Wk;by_cases h4:K=4;{
 have h4d:(K==4)=true:=by simp [h4]
 by_cases xu:m=0;{
 have ab8:((m:Int)==0)=true:=by simp;omega
 have sT:=hT (by rw [iy,if_pos rfl];simp [h4,aa EM,xu]);go_wp2;go_roundw
 case rel=>exact ⟨7+1,by omega,by go_num,sT,aR⟩
 case measure=>simp [intOf];omega}
 {
 have ab8:((m:Int)==0)=false:=by simp;omega
 have eF:=hF (by rw [iy,if_pos rfl];simp [h4,aa EM,xu]);subst eF;go_wp2;go_ret;exact ⟨rfl,aR⟩}};{
 have h4d:(K==4)=false:=by simp [h4]
 have eF:=hF (by rw [iy,if_pos rfl];simp [h4]);subst eF;go_wp2;go_ret;exact ⟨rfl,aR⟩}};{
 have WE:¬ (k:Int)=7:=by omega
 have h7d:((k:Int)==7)=false:=by simp;omega
 by_cases h4:K=4;{
 have h4d:(K==4)=true:=by simp [h4]
 have eF:=hF (by rw [iy,if_neg h7];simp [h4]);subst eF;go_wp2;go_ret;exact ⟨rfl,aR⟩};{
 have h4d:(K==4)=false:=by simp [h4]
 by_cases h1:K<1;{
 have Hr:¬ 1<=K:=by omega
 have eF:=hF (by rw [iy,if_neg h7];simp;omega);subst eF;go_wp2;go_ret;exact ⟨rfl,aR⟩};{
 by_cases h3:3<K;{
 have h3':¬ K<=3:=by omega
 have eF:=hF (by rw [iy,if_neg h7];simp;omega);subst eF;go_wp2;go_ret;exact ⟨rfl,aR⟩};{
 have Hr:¬ K<1:=h1;have g1:1<=K:=by omega
 have g3:K<=3:=by omega
 obtain ⟨V,eV⟩:=aH (vp P);have EV:=ae eV;have gS:iy k (K,P)=V:=by rw [iy,if_neg h7,eV];simp [g1,g3]
 go_wp2_with fail;refine (we pp pc m P EM _ XK Kg hm V EV).mono ?_;rintro r w2 ⟨rfl,bk⟩;have b2:=ah aR bk;cases V with
 | false=>
  have eF:=hF (by exact gS);subst eF;go_wp2;go_ret;exact ⟨rfl,b2⟩
 | true=>
  have sT:=hT (by exact gS);go_wp2;go_roundw
  case rel=>exact ⟨k+1,by omega,by go_num,sT,b2⟩
  case measure=>simp [intOf];omega}}}}}
 {
 have bm:=dy k n;have eT:B=true:=by
  rw [<-aa eB,fy,aa en];have:k=n:=by omega
  rw [<-this,aa iJ];simp;omega
 subst eT;go_wp2;go_ret;exact ⟨rfl,aR⟩})}
 {
 have RF:=ja 8 n;have eF:B=false:=by rw [<-aa eB,fy,aa en];simp [h8]
 subst eF;go_enter func85,ntmps85;go_wp2;go_ret;exact ⟨rfl,Below.refl _ _⟩}
def jy (nx:Int) (ss:List aY) (i:Nat):Bool:=
 decide (1<=(ss.getD i (0,0,[])).1)&&(decide ((ss.getD i (0,0,[])).1<=nx)&&((i==0||decide ((ss.getD (i-1) (0,0,[])).1<(ss.getD i (0,0,[])).1)) &&
  (decide (0<=(ss.getD i (0,0,[])).2.1)&&(decide ((ss.getD i (0,0,[])).2.1<=1000015)&&fy (ss.getD i (0,0,[])).2.2))))
theorem uQ (e g x t:Int) (p:Option Addr) (c n k:Nat) (N:Value) (ss:List aY) (en:Hid (ss.length=n)) (w:World) (h:uJ w (.S p n c) ss) (hn:n<=1048576) (hk:k<n)
  (fI:Hid (∀ s∈ss,s.2.2.length<=1048576/\∀ e∈s.2.2,bM e.2/\e.2.length<=1048576)) (B:Bool) (eB:Hid (jy x ss k=B)) :
  Calls prog 33 #[cY e g x t (.S p n c) N,.I k] w fun r w'=>r=.returned (.bool B)/\Bw w w':=by
 have HR:=ae fun (w':World) (hb:Bw w w')=>h.below hb;have fL:k<ss.length:=by rw [aa en];exact hk
 obtain ⟨⟨I,D,Q⟩,hy⟩:∃ y,ss[k]?=some y:=⟨_,aK fL⟩;have Cc:ss.getD k (0,0,[])=(I,D,Q):=by rw [List.getD_eq_getElem?_getD,hy];rfl
 obtain ⟨b,o,rfl,Rm⟩:∃ b o,p=some ⟨b,o,none⟩/\∀ i s,ss[i]?=some s->w.cell? ⟨b,o+i*3,none⟩=some (.U s.1)/\w.cell? ⟨b,o+i*3+1,none⟩=some (.I s.2.1)/\∃ u,w.cell? ⟨b,o+i*3+2,none⟩=some u/\vO w u s.2.2:=by obtain ⟨p',c',ev,hd⟩:=h;simp only [Value.slice.injEq] at ev;obtain ⟨rfl,-,-⟩:=ev;rcases hd with h0 | ⟨b,o,h1,h2⟩;{rw [h0] at fL;simp at fL};{exact ⟨b,o,h1,h2⟩}
 obtain ⟨hI,hD,u,hU,hQ⟩:=Rm k _ hy;obtain ⟨hQl,hQb⟩:=aa fI _ (aF hy);obtain ⟨pq,cq,rfl,-⟩:=id hQ;obtain ⟨m,em⟩:=aH Q.length;rw [em] at hQ hU;have hm:m<=1048576:=by rw [<-em];exact hQl
 have EM:=ae em;have HBQ:Hid (∀ e∈Q,bM e.2/\e.2.length<=1048576):=hQb;have YH:=ae hQ;obtain ⟨T,eT⟩:=aH (fy Q);have ET:Hid (fy Q=T):=eT;have gS:jy x ss k=(decide (1<=I)&&(decide (I<=x)&&((k==0||decide ((ss.getD (k-1) (0,0,[])).1<I))&&(decide (0<=D)&&(decide (D<=1000015)&&T))))):=by rw [jy,Cc,eT]
 rw [show (jy x ss k)=B from aa eB] at gS;have HAT:Hid (B=(decide (1<=I)&&(decide (I<=x)&&((k==0||decide ((ss.getD (k-1) (0,0,[])).1<I))&&(decide (0<=D)&&(decide (D<=1000015)&&T)))))):=gS;clear gS;have Ms:=aT k n;have aM0:=dE 0 k;have HL:=ae fL;clear hy Cc hQl hQb hQ em eT h eB fL;have HCA:=ae Rm;clear Rm;go_enter func33,ntmps33;have b1:Bw w (w.alloc (.cells #[.U e,.U g,.U x,.I t,.S (some ⟨b,o,none⟩) n c,N] 27)):=aJ.alloc aA _;have i1:=af hI b1;have i2:=af hD b1;have i3:=af hU b1;go_wp2_with fail;obtain ⟨X,hX⟩:=ax ((w.alloc (.cells #[.U e,.U g,.U x,.I t,.S (some ⟨b,o,none⟩) n c,N] 27)).alloc (.cells #[.U I,.I D,.S pq m cq] 35));have BX:Hid (Bw w X):=by show Below _ _ _;rw [hX];exact b1.alloc (by simp) _
 have kA:X.cell? ⟨w.heap.size+1,0,none⟩=some (.U I):=by rw [hX];simp
 have kD:X.cell? ⟨w.heap.size+1,1,none⟩=some (.I D):=by rw [hX];simp
 have kQ:X.cell? ⟨w.heap.size+1,2,none⟩=some (.S pq m cq):=by rw [hX];simp
 have kB:X.cell? ⟨w.heap.size,2,none⟩=some (.U x):=by rw [hX];simp
 have kC:X.cell? ⟨w.heap.size,4,none⟩=some (.S (some ⟨b,o,none⟩) n c):=by rw [hX];simp
 rw [<-hX];have KA:=ae kA;have KB:=ae kB;have KC:=ae kC;clear hX b1 i1 i2 i3 kA kB kC hI hD hU;by_cases h1:I<1;{
 have eF:B=false:=by rw [aa HAT];simp;omega
 subst eF;have h1d:decide (I<1)=true:=by simp;omega
 refine bO (fun w'=>w'.cell? ⟨w.heap.size+1,0,none⟩=some (.U I)/\w'.cell? ⟨w.heap.size,2,none⟩=some (.U x)/\w'.cell? ⟨w.heap.size,4,none⟩=some (.S (some ⟨b,o,none⟩) n c)) (by exact ⟨KA,KB,KC⟩) fun hS=>?_;refine gC 0 1 2 3 hS ?_;refine iI 4 5 6 7 hS ?_;refine sn 8 hS ?_;refine fe 9 10 hS ?_;refine iI 11 12 13 14 hS ?_;refine iI 15 16 17 18 hS ?_;refine iI 19 20 21 22 hS ?_;refine sn 23 hS ?_;refine sn 24 hS ?_;refine tn 25 hS ?_;refine bu ?_;clear hS;go_wp2;go_ret;exact ⟨rfl,BX.drew⟩};{
 have h1d:decide (I<1)=false:=by simp;omega
 by_cases h2:x<I;{
 have eF:B=false:=by rw [aa HAT];simp;omega
 subst eF;have h2d:decide (x<I)=true:=by simp;omega
 refine bO (fun w'=>w'.cell? ⟨w.heap.size+1,0,none⟩=some (.U I)/\w'.cell? ⟨w.heap.size,2,none⟩=some (.U x)/\w'.cell? ⟨w.heap.size,4,none⟩=some (.S (some ⟨b,o,none⟩) n c)) (by exact ⟨KA,KB,KC⟩) fun hS=>?_;refine gy 0 1 2 3 4 5 6 7 hS ?_;refine fe 8 9 hS ?_;refine tn 10 hS ?_;refine iI 11 12 13 14 hS ?_;refine iI 15 16 17 18 hS ?_;refine iI 19 20 21 22 hS ?_;refine sn 23 hS ?_;refine sn 24 hS ?_;refine tn 25 hS ?_;refine bu ?_;clear hS;go_wp2;go_ret;exact ⟨rfl,BX.drew⟩};{
 have h2d:decide (x<I)=false:=by simp;omega
 by_cases ux:k=0;{
 have hp:¬ 0<k:=by omega
 have VH:¬ (0:Int)<(k:Int):=by omega
 have HK0:=ae ux;clear ux;refine bO (fun w'=>w'.cell? ⟨w.heap.size+1,0,none⟩=some (.U I)/\w'.cell? ⟨w.heap.size,2,none⟩=some (.U x)/\w'.cell? ⟨w.heap.size,4,none⟩=some (.S (some ⟨b,o,none⟩) n c)) (by exact ⟨KA,KB,KC⟩) fun hS=>?_;refine gy 0 1 2 3 4 5 6 7 hS ?_;refine gC 8 9 10 11 hS ?_;refine fe 12 13 hS ?_;refine iI 14 15 16 17 hS ?_;refine iI 18 19 20 21 hS ?_;refine sn 22 hS ?_;refine sn 23 hS ?_;refine fe 24 25 hS ?_;refine bu ?_;clear hS;have gS:=aa HAT;rw [show (k==0)=true by simp [aa HK0]] at gS;by_cases h5:D<0;{
 have eF:B=false:=by rw [gS];simp;omega
 subst eF;clear gS;have h5':D<0:=h5;go_wp2;go_ret;exact ⟨rfl,BX.drew⟩};{
 by_cases h6:1000015<D;{
 have eF:B=false:=by rw [gS];simp;omega
 subst eF;clear gS;go_wp2;go_ret;exact ⟨rfl,BX.drew⟩};{
 have eQ:B=T:=by rw [gS];simp [show 1<=I by omega,show I<=x by omega,show 0<=D by omega,show D<=1000015 by omega]
 subst eQ;clear gS;go_wp2_with fail;refine (qc pq cq m Q EM _ (by exact YH.below BX.drew) hm HBQ B ET).mono ?_;rintro r w2 ⟨rfl,bk⟩;have b2:=ah BX.drew bk;clear bk;go_wp2;go_ret;exact ⟨rfl,b2⟩}}};{
 obtain ⟨j,ej⟩:∃ j:Nat,(k:Int)-1=(j:Int):=⟨k-1,by omega⟩;have Gh:k-1=j:=by omega
 have Bf:j<ss.length:=by have:=aa HL;omega
 obtain ⟨⟨z,zz⟩,hz⟩:∃ y,ss[j]?=some y:=⟨_,aK Bf⟩;have ZP:(ss.getD j (0,0,[])).1=z:=by rw [List.getD_eq_getElem?_getD,hz];rfl
 have gS:=aa HAT;rw [Gh,ZP] at gS;have kZ:=af (aa HCA j _ hz).1 BX;have KZ:Hid (X.cell? ⟨b,o+j*3,none⟩=some (.U z)):=kZ;have hp:0<k:=by omega
 have VH:=ja 0 k;have VW:=aT j n;have hj0:=dE 0 j;have wj:=fH j;rw [show (k==0)=false by simp [ux],Bool.false_or] at gS;have En:Hid (B=(decide (1<=I)&&(decide (I<=x)&&(decide (z<I)&&(decide (0<=D)&&(decide (D<=1000015)&&T)))))):=gS;clear gS;clear hz ZP Bf kZ Gh ux;by_cases hzI:z<I;{
 have hle:¬ I<=z:=by omega
 have VQ:decide (I<=z)=false:=by simp;omega
 refine bO (fun w'=>w'.cell? ⟨w.heap.size+1,0,none⟩=some (.U I)/\w'.cell? ⟨w.heap.size,2,none⟩=some (.U x)/\w'.cell? ⟨w.heap.size,4,none⟩=some (.S (some ⟨b,o,none⟩) n c)/\w'.cell? ⟨b,o+j*3,none⟩=some (.U z)) (by exact ⟨KA,KB,KC,KZ⟩) fun hS=>?_;refine gy 0 1 2 3 4 5 6 7 hS ?_;refine gy 8 9 10 11 12 13 14 15 hS ?_;refine gy 16 17 18 19 20 21 22 23 hS ?_;refine fe 24 25 hS ?_;refine bu ?_;clear hS;by_cases h5:D<0;{
 have eF:B=false:=by rw [aa En];simp;omega
 subst eF;clear En;have h5':D<0:=h5;go_wp2;go_ret;exact ⟨rfl,BX.drew⟩};{
 by_cases h6:1000015<D;{
 have eF:B=false:=by rw [aa En];simp;omega
 subst eF;clear En;go_wp2;go_ret;exact ⟨rfl,BX.drew⟩};{
 have eQ:B=T:=by rw [aa En];simp only [show decide (1<=I)=true by (rw [decide_eq_true_iff];omega),show decide (I<=x)=true by (rw [decide_eq_true_iff];omega),show decide (z<I)=true by (rw [decide_eq_true_iff];omega),show decide (0<=D)=true by (rw [decide_eq_true_iff];omega),show decide (D<=1000015)=true by (rw [decide_eq_true_iff];omega),Bool.true_and]
 subst eQ;clear En;go_wp2_with fail;refine (qc pq cq m Q EM _ (by exact YH.below BX.drew) hm HBQ B ET).mono ?_;rintro r w2 ⟨rfl,bk⟩;have b2:=ah BX.drew bk;clear bk;go_wp2;go_ret;exact ⟨rfl,b2⟩}}};{
 have hle:I<=z:=by omega
 have VQ:decide (I<=z)=true:=by simp;omega
 have eF:B=false:=by rw [aa En];simp;omega
 subst eF;clear En;refine bO (fun w'=>w'.cell? ⟨w.heap.size+1,0,none⟩=some (.U I)/\w'.cell? ⟨w.heap.size,2,none⟩=some (.U x)/\w'.cell? ⟨w.heap.size,4,none⟩=some (.S (some ⟨b,o,none⟩) n c)/\w'.cell? ⟨b,o+j*3,none⟩=some (.U z)) (by exact ⟨KA,KB,KC,KZ⟩) fun hS=>?_;refine gy 0 1 2 3 4 5 6 7 hS ?_;refine gy 8 9 10 11 12 13 14 15 hS ?_;refine gy 16 17 18 19 20 21 22 23 hS ?_;refine fe 24 25 hS ?_;refine bu ?_;clear hS;go_wp2;go_ret;exact ⟨rfl,BX.drew⟩}}}}
theorem tT (w:World) (C:Array Value) (e:TypeId) (fr:Nat × Nat) (i:Nat):(w.alloc (.cells C e fr)).cell? ⟨w.heap.size,i,none⟩=C[i]?:=by
 have h:(w.alloc (.cells C e fr)).heap[w.heap.size]?=some (.cells C e fr):=by show (w.heap.push (.cells C e fr))[w.heap.size]?=_;simp
 unfold World.cell?;rw [h]
 rfl
def Cb (l:List Int) (k:Nat):Nat:=(List.range k).foldl (fun a i=>if l.getD i 0=47 then i else a) 0
theorem oA (l:List Int) (k:Nat):Cb l (k+1)=if l.getD k 0=47 then k else Cb l k:=by
 rw [Cb,List.range_succ,List.foldl_append];rfl
def dm (l:List Int):List Int:=if Cb l l.length=0 then [47] else l.take (Cb l l.length)
theorem iS (p:Option Addr) (c n:Nat) (l:List Int) (en:Hid (l.length=n)) (w:World) (h:Rd w (.S p n c) l) (hn:n<=1048576) (hc:n<=c) (Bn:c<=maxLen) :
  Calls prog 88 #[.S p n c] w fun r w'=>∃ q m d,r=.returned (.S q m d)/\(dm l).length=m/\m<=n+1/\Rd w' (.S q m d) (dm l)/\Bw w w':=by
 have HR:=ae h;clear h;go_enter func88,ntmps88;go_wp2_with fail
 go_loopw [3,4] (fun av iv wr=>∃ k a:Nat,k<=n/\iv=.I k/\av=.I a/\a<=k/\Hid (Cb l k=a)/\wr=w) (fun _ iv _=>n-(intOf iv).toNat)
 case atStart=>exact ⟨0,0,Nat.zero_le _,rfl,rfl,Nat.le_refl _,(by show _=_;rfl),rfl⟩
 case round =>(
 obtain ⟨k,a,hk,rfl,rfl,hak,hls,rfl⟩:=hrel;by_cases bj:k<n;{
 have bm:=aT k n;have fL:k<l.length:=by rw [aa en];exact bj
 obtain ⟨b,o,rfl,-,bG⟩:=HR.at (by omega);have zO:=bG k fL;have dz:=oA l k;obtain ⟨y,ey⟩:=aH (l.getD k 0);rw [ey] at zO dz;clear bG fL ey;by_cases kL:y=47;{
 subst kL;rw [if_pos rfl] at dz;have lr:=ae dz;clear dz;go_wp2;go_roundw
 case rel=>exact ⟨k+1,k,by omega,by go_num,rfl,by omega,lr,by first | rfl | trivial⟩
 case measure=>simp [intOf];omega}
 {
 have bY3:(y==47)=false:=by simp [kL]
 rw [if_neg kL,aa hls] at dz;have lr:=ae dz;clear dz;go_wp2;go_roundw
 case rel=>exact ⟨k+1,a,by omega,by go_num,rfl,by omega,lr,by first | rfl | trivial⟩
 case measure=>simp [intOf];omega}}
 {
 have bm:=dy k n;have Ex:k=n:=by omega
 subst Ex;clear hk bj;by_cases ha:a=0;{
 subst ha;have jR:Hid (dm l=[47]):=by show _=_;rw [dm,aa en,aa hls,if_pos rfl]
 have hcv:=Lib.run_convert_bytes_const (P:=prog) wr 22 5 #[.int .u8 47] 1 1 underlying22 underlying5;go_wp2;go_ret;refine ⟨_,_,_,rfl,by rw [aa jR];rfl,by omega,?_,aJ.alloc aA _⟩;rw [aa jR];refine ⟨_,_,rfl,.inr ⟨wr.heap.size,0,rfl,fun i hi=>?_⟩⟩
 match i,hi with
 | 0,_=>(rw [Nat.zero_add,tT];rfl)}
 {
 have Tz:((a:Int)==0)=false:=by simp [ha]
 have jR:Hid (dm l=l.take a):=by show _=_;rw [dm,aa en,aa hls,if_neg ha]
 obtain ⟨b,o,rfl,-,-⟩:=HR.at (by rw [aa en];omega);have g1:=vj a k;have g2:=vj a c;have HRC:=HR.cut 0 a (Nat.zero_le _) (by rw [aa en];omega) (some ⟨b,o,none⟩) (.inr rfl) c (l.take a) (by simp);have HRD:=ae HRC;clear HRC;go_wp2;go_ret;exact ⟨_,_,_,rfl,by rw [aa jR,List.length_take,aa en];omega,by omega,by rw [aa jR];exact aa HRD,Below.refl _ _⟩}})
def iH (v:Value):Prop:=∃ p n c,v=.S p n c/\n<=c/\c<=maxLen
structure mY (w:World) (b a:Nat) (nd:aD) (P V H U:Value):Prop where
 c0:w.cell? ⟨b,a,none⟩=some P
 c1:w.cell? ⟨b,a+1,none⟩=some V
 c2:w.cell? ⟨b,a+2,none⟩=some (.U nd.owner)
 c3:w.cell? ⟨b,a+3,none⟩=some (.I nd.mode)
 c4:w.cell? ⟨b,a+4,none⟩=some H
 c5:w.cell? ⟨b,a+5,none⟩=some (.U nd.aB)
 c6:w.cell? ⟨b,a+6,none⟩=some (.U nd.gen)
 c7:w.cell? ⟨b,a+7,none⟩=some U
 r0:Rd w P nd.path
 r1:Rd w V nd.value
 r4:nH w H nd.holders
 r7:nH w U nd.watchers
 k0:iH P
theorem mY.below {b a:Nat} {nd:aD} {P V H U:Value} (h:mY w b a nd P V H U) (hb:Bw w w'):mY w' b a nd P V H U:=
 ⟨af h.c0 hb,af h.c1 hb,af h.c2 hb,af h.c3 hb,af h.c4 hb,af h.c5 hb,af h.c6 hb,af h.c7 hb,h.r0.below hb,h.r1.below hb,h.r4.below hb,h.r7.below hb,h.k0⟩
def kJ (w:World) (v:Value) (ns:List aD):Prop:=
 ∃ (p:Option Addr) (c:Nat),v=.S p ns.length c/\(ns=[]\/∃ b o,p=some ⟨b,o,none⟩/\∀ i nd,ns[i]?=some nd->∃ P V H U,mY w b (o+i*8) nd P V H U)
theorem kJ.below (h:kJ w v ns) (hb:Bw w w'):kJ w' v ns:=by
 obtain ⟨p,c,rfl,h⟩:=h;refine ⟨p,c,rfl,?_⟩;rcases h with h | ⟨b,o,rfl,h⟩;{exact .inl h};{refine .inr ⟨b,o,rfl,fun i e he=>?_⟩;obtain ⟨P,V,H,U,h1⟩:=h i e he;exact ⟨P,V,H,U,h1.below hb⟩}
abbrev JS (P V:Value) (ow mo:Int) (H:Value) (ep ge:Int) (U:Value):Value:=.agg #[P,V,.U ow,.I mo,H,.U ep,.U ge,U]
def dN (e g mo:Int) (nh:Nat) (ep ge:Int):Bool:=
 if mo=1 then nh==1&&(decide (1<=ge)&&(decide (ge<=g)&&decide (ep<=e))) else ep==0&&(ge==0&&(if mo=0 then nh==0 else mo==2&&decide (1<=nh)))
theorem rW (e g x t ow mo ep ge:Int) (S N P V U:Value) (p:Option Addr) (c n:Nat) (w:World) (hn:n<=1048576) (B:Bool) (eB:Hid (dN e g mo n ep ge=B)) :
  Calls prog 91 #[cY e g x t S N,JS P V ow mo (.S p n c) ep ge U] w fun r w'=>r=.returned (.bool B)/\Bw w w':=by
 go_enter func91,ntmps91;go_wp2_with fail
 all_goals (
  go_ret;refine ⟨?_,(aJ.alloc aA _).alloc (by simp) _⟩;rw [<-aa eB];simp only [dN,Ending.returned.injEq,Value.bool.injEq])
 all_goals first | (simp_all;done) | (simp_all;omega) | skip
 all_goals (
  show Value.bool ((n:Int)==0)=Value.bool _
  congr 1
  have e0:mo=0:=(by simpa using ‹(mo==0)=true›);have e1:ge=0:=(by simpa using ‹(ge != 0)=false›);subst e0 e1;rw [Bool.eq_iff_iff]
  simp_all)
theorem kJ.at {p:Option Addr} {n c:Nat} (h:kJ w (.S p n c) ns) (hl:0<ns.length):∃ b o,p=some ⟨b,o,none⟩/\∀ i nd,ns[i]?=some nd->∃ P V H U,mY w b (o+i*8) nd P V H U:=by
 obtain ⟨p',c',ev,hd⟩:=h;simp only [Value.slice.injEq] at ev;obtain ⟨rfl,-,-⟩:=ev;rcases hd with h0 | ⟨b,o,h1,h2⟩;{rw [h0] at hl;simp at hl};{exact ⟨b,o,h1,h2⟩}
theorem Rd.gD {l:List Int} (h:Rd w v l):∃ p c n,v=.S p n c/\Hid (l.length=n):=by
 obtain ⟨p,c,rfl,-⟩:=h;exact ⟨p,c,_,rfl,(by show _=_;rfl)⟩
theorem List.im {α:Type} {ns:List α} {k:Nat} {y:α} (h:ns[k]?=some y):y::ns.drop (k+1)=ns.drop k:=by
 obtain ⟨hk,rfl⟩:=aN.1 h;exact (List.drop_eq_getElem_cons hk).symm
def fE (ns:List aD) (l:List Int):Option aD:=ns.find? fun nd=>decide (nd.path=l)
theorem mO (e g x t:Int) (p q:Option Addr) (c n d m:Nat) (S:Value) (ns:List aD) (l:List Int) (en:Hid (ns.length=n)) (em:Hid (l.length=m)) (w:World) (h:kJ w (.S p n c) ns) (hl:Rd w (.S q m d) l) (hn:n<=1048576) (hm:m<=2097152)
  (fI:Hid (bM l/\∀ nd∈ns,bM nd.path)) :
  Calls prog 108 #[cY e g x t S (.S p n c),.S q m d] w fun r w'=>((∃ (k:Nat) (nd:aD),r=.returned (.I k)/\k<n/\ns[k]?=some nd/\fE ns l=some nd)\/(r=.returned (.I (-1))/\fE ns l=none))/\Bw w w':=by
 have HR:=ae fun (w':World) (hb:Bw w w')=>ag (h.below hb) (hl.below hb);go_enter func108,ntmps108;go_wp2_with fail;obtain ⟨W,hW⟩:=ax (w.alloc (.cells #[.U e,.U g,.U x,.I t,S,.S p n c] 27));have bW:=ju hW;have Pb:W.cell? ⟨w.heap.size,5,none⟩=some (.S p n c):=by rw [hW];simp
 rw [<-hW];have BW:=ae bW;have HC5:=ae Pb
 go_loopw [5] (fun iv wr=>∃ k:Nat,k<=n/\iv=.I k/\Hid (fE (ns.take k) l=none)/\Bw W wr) (fun iv _=>n-(intOf iv).toNat)
 case atStart=>exact ⟨0,Nat.zero_le _,rfl,(by show _=_;rfl),Below.refl _ _⟩
 case round =>(
 obtain ⟨k,hk,rfl,jS,aR⟩:=hrel;have BB:=ah BW aR;have i5:=af HC5 aR;by_cases bj:k<n;{
 have bm:=aT k n;have fL:k<ns.length:=by rw [aa en];exact bj
 obtain ⟨hN,hL⟩:=aa HR _ BB;obtain ⟨b,o,rfl,hA⟩:=hN.at (by omega);obtain ⟨nd,hy⟩:∃ y,ns[k]?=some y:=⟨_,aK fL⟩;obtain ⟨P,V,H,U,aV⟩:=hA k nd hy;have hP:=aV.c0;have Hk:=aV.r0;obtain ⟨pp,pc,pn,rfl,Bx⟩:=Hk.gD;have TM:=fI.2 nd (aF hy);have HY:=ae hy;have XK:=ae Hk;have Kg:=ae TM;have HLL:=ae hL;go_wp2_with fail;refine (mL pp q pc d pn m nd.path l Bx em _ XK HLL Kg fI.1).mono ?_;rintro r w2 ⟨rfl,bk⟩;by_cases jR:nd.path=l;{
 rw [show decide (nd.path=l)=true by simp [jR]];have hF:Hid (fE ns l=some nd):=by
  show _=_;have e1:ns=ns.take k++nd::ns.drop (k+1):=by rw [List.im (aa HY),List.take_append_drop]
  rw [e1,fE,List.find?_append,show (ns.take k).find? (fun nd=>decide (nd.path=l))=none from aa jS];simp [jR]
 have b2:=ah BB bk;go_wp2;go_ret;exact ⟨.inl ⟨k,nd,rfl,bj,HY,hF⟩,b2⟩};{
 rw [show decide (nd.path=l)=false by simp [jR]];have Mf:Hid (fE (ns.take (k+1)) l=none):=by show _=_;rw [List.take_add_one,aa HY,fE,List.find?_append,show (ns.take k).find? (fun nd=>decide (nd.path=l))=none from aa jS];simp [jR]
 have b2:=ah aR bk;go_wp2;go_roundw
 case rel=>exact ⟨k+1,by omega,by go_num,Mf,b2⟩
 case measure=>simp [intOf];omega}}
 {
 have bm:=dy k n;have hF:Hid (fE ns l=none):=by show _=_;have:=aa jS;rwa [List.take_of_length_le (by rw [aa en];omega)] at this
 go_wp2;go_ret;exact ⟨.inr ⟨rfl,hF⟩,BB⟩})
def dw (ns:List aD) (l:List Int):Bool:=if l=[47] then true else match fE ns l with | some nd=>nd.owner==0 | none=>false
theorem iu (e g x t:Int) (p q:Option Addr) (c n d m:Nat) (S:Value) (ns:List aD) (l:List Int) (en:Hid (ns.length=n)) (em:Hid (l.length=m)) (w:World) (h:kJ w (.S p n c) ns) (hl:Rd w (.S q m d) l) (hn:n<=1048576) (hm:m<=2097152)
  (fI:Hid (bM l/\∀ nd∈ns,bM nd.path)) (B:Bool) (eB:Hid (dw ns l=B)) :
  Calls prog 87 #[cY e g x t S (.S p n c),.S q m d] w fun r w'=>r=.returned (.bool B)/\Bw w w':=by
 have HR:=ae fun (w':World) (hb:Bw w w')=>ag (h.below hb) (hl.below hb);clear h hl;obtain ⟨W,hW⟩:=ax (w.alloc (.cells #[.U e,.U g,.U x,.I t,S,.S p n c] 27));have bW:=ju hW;have sW:W.heap.size=w.heap.size+1:=by rw [hW];simp
 have Pb:pD W w.heap.size e g x t S (.S p n c):=by rw [hW];simp [pD]
 have hcv:=Lib.run_convert_bytes_const (P:=prog) W 22 5 #[.int .u8 47] 1 1 underlying22 underlying5;simp only [show (#[Value.int .u8 47]:Array Value).size=1 from rfl] at hcv;obtain ⟨X,hX⟩:=ax (W.alloc (.cells #[.int .u8 47] 5 (1,1+1)));have rX:Rd X (.S (some ⟨w.heap.size+1,0,none⟩) 1 1) [47]:=by
  rw [hX,<-sW];refine ⟨_,_,rfl,.inr ⟨W.heap.size,0,rfl,fun i hi=>?_⟩⟩
  match i,hi with
  | 0,_=>(rw [Nat.zero_add,tT];rfl)
 have bX:Bw w X:=by rw [hX];exact bW.alloc (by omega) _
 have iX:pD X w.heap.size e g x t S (.S p n c):=Pb.below (by rw [hX];exact aJ.alloc aA _);rw [<-hX,sW,hW] at hcv;clear sW Pb bW hX hW;have RX:=ae rX;have BX:=ae bX;have IX:=ae iX;clear rX bX iX;go_enter func87,ntmps87;go_wp2_with fail;refine (mL q _ d 1 m 1 l [47] em (by show _=_;rfl) _ (aa HR _ (aa BX)).2 (aa RX) fI.1 (by intro x hx;simp at hx;omega)).mono ?_;rintro r w2 ⟨rfl,bk⟩;have b2:=ah BX bk;obtain ⟨j0,j1,j2,j3,j4,j5⟩:=IX.below bk;clear hcv bk;by_cases kL:l=[47];{
 rw [show decide (l=[47])=true by simp [kL]];have eT:B=true:=by rw [<-aa eB,dw,if_pos kL]
 subst eT;clear kL;go_wp2;go_ret;exact ⟨rfl,b2⟩};{
 rw [show decide (l=[47])=false by simp [kL]];have hB:(match fE ns l with | some nd=>nd.owner==0 | none=>false)=B:=by rw [<-aa eB,dw,if_neg kL]
 have HB:=ae hB;clear hB kL;go_wp2_with fail;refine (mO e g x t p q c n d m S ns l en em _ (aa HR _ b2).1 (aa HR _ b2).2 hn hm fI).mono ?_;rintro r w3 ⟨hr,dA⟩;have b3:=ah b2 dA;have k5:=af j5 dA;clear j0 j1 j2 j3 j4 j5 dA;rcases hr with ⟨k,nd,rfl,hk,hy,hF⟩ | ⟨rfl,hF⟩;{
 rw [hF] at HB;have fL:k<ns.length:=by rw [aa en];exact hk
 obtain ⟨b,o,rfl,hA⟩:=(aa HR _ b3).1.at (by omega);obtain ⟨P,V,H,U,aV⟩:=hA k nd hy;have hO:=aV.c2;have Ms:=aT k n;have ux:=dE 0 k;clear hA aV fL hy hF;cases B with
 | true=>
  have ho:nd.owner=0:=by have:=aa HB;simpa using this
  rw [ho] at hO;clear ho;go_wp2;go_ret;exact ⟨rfl,b3⟩
 | false=>
  have ho:(nd.owner==0)=false:=aa HB;go_wp2;go_ret;exact ⟨rfl,b3⟩};{rw [hF] at HB;have eF:B=false:=HB.symm;subst eF;clear hF;go_wp2;go_ret;exact ⟨rfl,b3⟩}}
end Go.Proofs.YtcfcafeciggjeaaGreatDoor
