import Derived.Test.YtmfjiolopcbcmaaGreatDoorK6
import Derived.Test.YtmfjiolopcbcmaaGreatDoorK7
namespace Go.Proofs.YtmfjiolopcbcmaaGreatDoor
set_option maxHeartbeats 1600000
set_option linter.unusedVariables false
set_option linter.unusedSimpArgs false
set_option maxRecDepth 100000
open Go.ChangeShapes Go.WideShapes Go.ChangeAt Go.RowKit Go.Proofs.Tryz
variable {ns:List aA} {v:Value} {w w':World}
def jk (i:Nat) (e:Ev):Bool:=if i=7 then e.1==4&&e.2.length==0 else decide (1<=e.1)&&(decide (e.1<=3)&&vp e.2)
def gF (es:List Ev):Bool:=decide (es.length<=8)&&(List.range es.length).all fun i=>jk i (es.getD i (0,[]))
theorem oT (p:Option Addr) (c n:Nat) (es:List Ev) (en:Hid (es.length=n)) (w:World) (h:nS w (.slice p n c) es) (hn:n<=1048576) (du:Hid (∀ e∈es,cT e.2/\e.2.length<=1048576)) (B:Bool) (eB:Hid (gF es=B)) :
  Calls prog 91 #[.slice p n c] w fun r w'=>r=.returned (.bool B)/\Below w.heap.size w w':=by
 have HR:=ae fun (w':World) (hb:Below w.heap.size w w')=>h.below hb;by_cases h8:n<=8;{
 have Vo:¬ (8:Int)<(n:Int):=by omega
 go_enter func91,ntmps91;go_wp2_with fail
 go_loopw [3] (fun iv wr=>∃ k:Nat,k<=n/\iv=.int .i64 k/\Hid ((List.range k).all (fun i=>jk i (es.getD i (0,[])))=true)/\Below w.heap.size w wr) (fun iv _=>n-(intOf iv).toNat)
 case atStart=>exact ⟨0,Nat.zero_le _,rfl,(by show _=_;rfl),Below.refl _ _⟩
 case round =>(
 obtain ⟨k,hk,rfl,ic,aE⟩:=hrel;by_cases aU:k<n;{
 have aV:(k:Int)<(n:Int):=by omega
 have bH:k<es.length:=by rw [aa en];exact aU
 obtain ⟨⟨K,P⟩,hy⟩:∃ y,es[k]?=some y:=⟨_,aH bH⟩;have xk:es.getD k (0,[])=(K,P):=by rw [List.getD_eq_getElem?_getD,hy];rfl
 obtain ⟨b,o,rfl,Qd,u,Lb,vk⟩:∃ b o,p=some ⟨b,o,none⟩/\wr.cell? ⟨b,o+k*2,none⟩=some (.int .i64 K)/\∃ u,wr.cell? ⟨b,o+k*2+1,none⟩=some u/\Rd wr u P:=by obtain ⟨p',c',ev,hd⟩:=aa HR _ aE;simp only [Value.slice.injEq] at ev;obtain ⟨rfl,-,-⟩:=ev;rcases hd with h0 | ⟨b,o,h1,h2⟩;{rw [h0] at bH;simp at bH};{exact ⟨b,o,h1,h2 k _ hy⟩}
 obtain ⟨NM,Zr⟩:=aa du _ (aL hy);obtain ⟨pp,pc,rfl,-⟩:=id vk;obtain ⟨m,em⟩:=aZ P.length;rw [em] at vk Lb;have hm:m<=1048576:=by rw [<-em];exact Zr
 have EM:=ae em;have Ju:=ae NM;have Rm:=ae vk;have hF:jk k (K,P)=false->B=false:=fun h=>by rw [<-aa eB,gF,aa en,dB aU (by rw [xk];exact h),Bool.and_false]
 have hT:jk k (K,P)=true->Hid ((List.range (k+1)).all (fun i=>jk i (es.getD i (0,[])))=true):=fun h=>bQ (aa ic) (by rw [xk];exact h);by_cases h7:k=7;{
 subst h7;have Qd:wr.cell? ⟨b,o+14,none⟩=some (.int .i64 K):=Qd;have Lb:wr.cell? ⟨b,o+14+1,none⟩=some (.slice pp m pc):=Lb;have bE1:wr.cell? ⟨b,o+15,none⟩=some (.slice pp m pc):=Lb;by_cases h4:K=4;{
 have h4d:(K==4)=true:=by simp [h4]
 by_cases Gz:m=0;{
 have YJ:((m:Int)==0)=true:=by simp;omega
 have rJ:=hT (by rw [jk,if_pos rfl];simp [h4,aa EM,Gz]);go_wp2;go_roundw
 case rel=>exact ⟨7+1,by omega,by go_num,rJ,aE⟩
 case measure=>simp [intOf];omega}
 {
 have YJ:((m:Int)==0)=false:=by simp;omega
 have eF:=hF (by rw [jk,if_pos rfl];simp [h4,aa EM,Gz]);subst eF;go_wp2;go_ret;exact ⟨rfl,aE⟩}};{
 have h4d:(K==4)=false:=by simp [h4]
 have eF:=hF (by rw [jk,if_pos rfl];simp [h4]);subst eF;go_wp2;go_ret;exact ⟨rfl,aE⟩}};{
 have h7':¬ (k:Int)=7:=by omega
 have h7d:((k:Int)==7)=false:=by simp;omega
 by_cases h4:K=4;{
 have h4d:(K==4)=true:=by simp [h4]
 have eF:=hF (by rw [jk,if_neg h7];simp [h4]);subst eF;go_wp2;go_ret;exact ⟨rfl,aE⟩};{
 have h4d:(K==4)=false:=by simp [h4]
 by_cases h1:K<1;{
 have GI:¬ 1<=K:=by omega
 have eF:=hF (by rw [jk,if_neg h7];simp;omega);subst eF;go_wp2;go_ret;exact ⟨rfl,aE⟩};{
 by_cases h3:3<K;{
 have h3':¬ K<=3:=by omega
 have eF:=hF (by rw [jk,if_neg h7];simp;omega);subst eF;go_wp2;go_ret;exact ⟨rfl,aE⟩};{
 have GI:¬ K<1:=h1;have g1:1<=K:=by omega
 have g3:K<=3:=by omega
 obtain ⟨V,eV⟩:=aZ (vp P);have EV:=ae eV;have dE:jk k (K,P)=V:=by rw [jk,if_neg h7,eV];simp [g1,g3]
 go_wp2_with fail;refine (uD pp pc m P EM _ Rm Ju hm V EV).mono ?_;rintro r w2 ⟨rfl,aG⟩;have b2:=ai aE aG;cases V with
 | false=>
  have eF:=hF (by exact dE);subst eF;go_wp2;go_ret;exact ⟨rfl,b2⟩
 | true=>
  have rJ:=hT (by exact dE);go_wp2;go_roundw
  case rel=>exact ⟨k+1,by omega,by go_num,rJ,b2⟩
  case measure=>simp [intOf];omega}}}}}
 {
 have aV:¬ (k:Int)<(n:Int):=by omega
 have eT:B=true:=by
  rw [<-aa eB,gF,aa en];have:k=n:=by omega
  rw [<-this,aa ic];simp;omega
 subst eT;go_wp2;go_ret;exact ⟨rfl,aE⟩})}
 {
 have Vo:(8:Int)<(n:Int):=by omega
 have eF:B=false:=by rw [<-aa eB,gF,aa en];simp [h8]
 subst eF;go_enter func91,ntmps91;go_wp2;go_ret;exact ⟨rfl,Below.refl _ _⟩}
def jX (nx:Int) (ss:List aR) (i:Nat):Bool:=
 decide (1<=(ss.getD i (0,0,[])).1)&&(decide ((ss.getD i (0,0,[])).1<=nx)&&((i==0||decide ((ss.getD (i-1) (0,0,[])).1<(ss.getD i (0,0,[])).1)) &&
  (decide (0<=(ss.getD i (0,0,[])).2.1)&&(decide ((ss.getD i (0,0,[])).2.1<=1000015)&&gF (ss.getD i (0,0,[])).2.2))))
theorem tm (e g x t:Int) (p:Option Addr) (c n k:Nat) (N:Value) (ss:List aR) (en:Hid (ss.length=n)) (w:World) (h:nR w (.slice p n c) ss) (hn:n<=1048576) (hk:k<n)
  (du:Hid (∀ s∈ss,s.2.2.length<=1048576/\∀ e∈s.2.2,cT e.2/\e.2.length<=1048576)) (B:Bool) (eB:Hid (jX x ss k=B)) :
  Calls prog 50 #[cL e g x t (.slice p n c) N,.int .i64 k] w fun r w'=>r=.returned (.bool B)/\Below w.heap.size w w':=by
 have HR:=ae fun (w':World) (hb:Below w.heap.size w w')=>h.below hb;have bH:k<ss.length:=by rw [aa en];exact hk
 obtain ⟨⟨I,D,Q⟩,hy⟩:∃ y,ss[k]?=some y:=⟨_,aH bH⟩;have xk:ss.getD k (0,0,[])=(I,D,Q):=by rw [List.getD_eq_getElem?_getD,hy];rfl
 obtain ⟨b,o,rfl,Qe⟩:∃ b o,p=some ⟨b,o,none⟩/\∀ i s,ss[i]?=some s->w.cell? ⟨b,o+i*3,none⟩=some (.int .u64 s.1)/\w.cell? ⟨b,o+i*3+1,none⟩=some (.int .i64 s.2.1)/\∃ u,w.cell? ⟨b,o+i*3+2,none⟩=some u/\nS w u s.2.2:=by obtain ⟨p',c',ev,hd⟩:=h;simp only [Value.slice.injEq] at ev;obtain ⟨rfl,-,-⟩:=ev;rcases hd with h0 | ⟨b,o,h1,h2⟩;{rw [h0] at bH;simp at bH};{exact ⟨b,o,h1,h2⟩}
 obtain ⟨hI,hD,u,hU,hQ⟩:=Qe k _ hy;obtain ⟨Zn,Zo⟩:=aa du _ (aL hy);obtain ⟨pq,cq,rfl,-⟩:=id hQ;obtain ⟨m,em⟩:=aZ Q.length;rw [em] at hQ hU;have hm:m<=1048576:=by rw [<-em];exact Zn
 have EM:=ae em;have HBQ:Hid (∀ e∈Q,cT e.2/\e.2.length<=1048576):=Zo;have Oe:=ae hQ;obtain ⟨T,eT⟩:=aZ (gF Q);have ET:Hid (gF Q=T):=eT;have dE:jX x ss k=(decide (1<=I)&&(decide (I<=x)&&((k==0||decide ((ss.getD (k-1) (0,0,[])).1<I))&&(decide (0<=D)&&(decide (D<=1000015)&&T))))):=by rw [jX,xk,eT]
 rw [show (jX x ss k)=B from aa eB] at dE;have lG:Hid (B=(decide (1<=I)&&(decide (I<=x)&&((k==0||decide ((ss.getD (k-1) (0,0,[])).1<I))&&(decide (0<=D)&&(decide (D<=1000015)&&T)))))):=dE;clear dE;have R8:(k:Int)<(n:Int):=by omega
 have aD2:(0:Int)<=(k:Int):=by omega
 have HL:=ae bH;clear hy xk Zn Zo hQ em eT h eB bH;have HCA:=ae Qe;clear Qe;go_enter func50,ntmps50;have b1:Below w.heap.size w (w.alloc (.cells #[.int .u64 e,.int .u64 g,.int .u64 x,.int .i64 t,.slice (some ⟨b,o,none⟩) n c,N] 35)):=ar.alloc ay _;have i1:=af hI b1;have i2:=af hD b1;have i3:=af hU b1;go_wp2_with fail;obtain ⟨X,hX⟩:=ax ((w.alloc (.cells #[.int .u64 e,.int .u64 g,.int .u64 x,.int .i64 t,.slice (some ⟨b,o,none⟩) n c,N] 35)).alloc (.cells #[.int .u64 I,.int .i64 D,.slice pq m cq] 95));have BX:Hid (Below w.heap.size w X):=by show Below _ _ _;rw [hX];exact b1.alloc (by simp) _
 have kA:X.cell? ⟨w.heap.size+1,0,none⟩=some (.int .u64 I):=by rw [hX];simp
 have kD:X.cell? ⟨w.heap.size+1,1,none⟩=some (.int .i64 D):=by rw [hX];simp
 have kQ:X.cell? ⟨w.heap.size+1,2,none⟩=some (.slice pq m cq):=by rw [hX];simp
 have kB:X.cell? ⟨w.heap.size,2,none⟩=some (.int .u64 x):=by rw [hX];simp
 have kC:X.cell? ⟨w.heap.size,4,none⟩=some (.slice (some ⟨b,o,none⟩) n c):=by rw [hX];simp
 rw [<-hX];have KA:=ae kA;have KB:=ae kB;have KC:=ae kC;clear hX b1 i1 i2 i3 kA kB kC hI hD hU;by_cases h1:I<1;{
 have eF:B=false:=by rw [aa lG];simp;omega
 subst eF;have h1d:decide (I<1)=true:=by simp;omega
 refine wp_region_noPanic ?_;refine wp_region_held_drew (S:=fun w'=>w'.cell? ⟨w.heap.size+1,0,none⟩=some (.int .u64 I)/\w'.cell? ⟨w.heap.size,2,none⟩=some (.int .u64 x)/\w'.cell? ⟨w.heap.size,4,none⟩=some (.slice (some ⟨b,o,none⟩) n c)) (by kernel_rfl) (by exact ⟨KA,KB,KC⟩) (fun hS=>?_);refine gD 0 1 2 3 hS ?_;refine sn 4 hS ?_;refine sn 5 hS ?_;refine sn 6 hS ?_;refine sn 7 hS ?_;refine sn 8 hS ?_;refine fq 9 10 hS ?_;refine sn 11 hS ?_;refine sn 12 hS ?_;refine sn 13 hS ?_;refine sn 14 hS ?_;refine sn 15 hS ?_;refine sn 16 hS ?_;refine sn 17 hS ?_;refine sn 18 hS ?_;refine sn 19 hS ?_;refine sn 20 hS ?_;refine sn 21 hS ?_;refine sn 22 hS ?_;refine sn 23 hS ?_;refine sn 24 hS ?_;refine tn 25 hS ?_;refine wpAnyH_done (by kernel_rfl) ?_ _;refine bc ?_;clear hS;go_wp2;go_ret;exact ⟨rfl,BX.drew⟩};{
 have h1d:decide (I<1)=false:=by simp;omega
 by_cases h2:x<I;{
 have eF:B=false:=by rw [aa lG];simp;omega
 subst eF;have h2d:decide (x<I)=true:=by simp;omega
 refine wp_region_noPanic ?_;refine wp_region_held_drew (S:=fun w'=>w'.cell? ⟨w.heap.size+1,0,none⟩=some (.int .u64 I)/\w'.cell? ⟨w.heap.size,2,none⟩=some (.int .u64 x)/\w'.cell? ⟨w.heap.size,4,none⟩=some (.slice (some ⟨b,o,none⟩) n c)) (by kernel_rfl) (by exact ⟨KA,KB,KC⟩) (fun hS=>?_);refine fL 0 1 2 3 4 5 6 7 hS ?_;refine fq 8 9 hS ?_;refine tn 10 hS ?_;refine sn 11 hS ?_;refine sn 12 hS ?_;refine sn 13 hS ?_;refine sn 14 hS ?_;refine sn 15 hS ?_;refine sn 16 hS ?_;refine sn 17 hS ?_;refine sn 18 hS ?_;refine sn 19 hS ?_;refine sn 20 hS ?_;refine sn 21 hS ?_;refine sn 22 hS ?_;refine sn 23 hS ?_;refine sn 24 hS ?_;refine tn 25 hS ?_;refine wpAnyH_done (by kernel_rfl) ?_ _;refine bc ?_;clear hS;go_wp2;go_ret;exact ⟨rfl,BX.drew⟩};{
 have h2d:decide (x<I)=false:=by simp;omega
 by_cases xX:k=0;{
 have hp:¬ 0<k:=by omega
 have UC:¬ (0:Int)<(k:Int):=by omega
 have HK0:=ae xX;clear xX;refine wp_region_noPanic ?_;refine wp_region_held_drew (S:=fun w'=>w'.cell? ⟨w.heap.size+1,0,none⟩=some (.int .u64 I)/\w'.cell? ⟨w.heap.size,2,none⟩=some (.int .u64 x)/\w'.cell? ⟨w.heap.size,4,none⟩=some (.slice (some ⟨b,o,none⟩) n c)) (by kernel_rfl) (by exact ⟨KA,KB,KC⟩) (fun hS=>?_);refine fL 0 1 2 3 4 5 6 7 hS ?_;refine gD 8 9 10 11 hS ?_;refine fq 12 13 hS ?_;refine sn 14 hS ?_;refine sn 15 hS ?_;refine sn 16 hS ?_;refine sn 17 hS ?_;refine sn 18 hS ?_;refine sn 19 hS ?_;refine sn 20 hS ?_;refine sn 21 hS ?_;refine sn 22 hS ?_;refine sn 23 hS ?_;refine fq 24 25 hS ?_;refine wpAnyH_done (by kernel_rfl) ?_ _;refine bc ?_;clear hS;have dE:=aa lG;rw [show (k==0)=true by simp [aa HK0]] at dE;by_cases h5:D<0;{
 have eF:B=false:=by rw [dE];simp;omega
 subst eF;clear dE;have ZM:D<0:=h5;go_wp2;go_ret;exact ⟨rfl,BX.drew⟩};{
 by_cases h6:1000015<D;{
 have eF:B=false:=by rw [dE];simp;omega
 subst eF;clear dE;go_wp2;go_ret;exact ⟨rfl,BX.drew⟩};{
 have eQ:B=T:=by rw [dE];simp [show 1<=I by omega,show I<=x by omega,show 0<=D by omega,show D<=1000015 by omega]
 subst eQ;clear dE;go_wp2_with fail;refine (oT pq cq m Q EM _ (by exact Oe.below BX.drew) hm HBQ B ET).mono ?_;rintro r w2 ⟨rfl,aG⟩;have b2:=ai BX.drew aG;clear aG;go_wp2;go_ret;exact ⟨rfl,b2⟩}}};{
 obtain ⟨j,ej⟩:∃ j:Nat,(k:Int)-1=(j:Int):=⟨k-1,by omega⟩;have AY:k-1=j:=by omega
 have tZ:j<ss.length:=by have:=aa HL;omega
 obtain ⟨⟨z,zz⟩,hz⟩:∃ y,ss[j]?=some y:=⟨_,aH tZ⟩;have Yg:(ss.getD j (0,0,[])).1=z:=by rw [List.getD_eq_getElem?_getD,hz];rfl
 have dE:=aa lG;rw [AY,Yg] at dE;have kZ:=af (aa HCA j _ hz).1 BX;have KZ:Hid (X.cell? ⟨b,o+j*3,none⟩=some (.int .u64 z)):=kZ;have hp:0<k:=by omega
 have UC:(0:Int)<(k:Int):=by omega
 have Sa:(j:Int)<(n:Int):=by omega
 have YR:(0:Int)<=(j:Int):=by omega
 have wj:IntKind.i64.wrap (j:Int)=(j:Int):=IntWalk.i64_in _ (by omega);rw [show (k==0)=false by simp [xX],Bool.false_or] at dE;have DO:Hid (B=(decide (1<=I)&&(decide (I<=x)&&(decide (z<I)&&(decide (0<=D)&&(decide (D<=1000015)&&T)))))):=dE;clear dE;clear hz Yg tZ kZ AY xX;by_cases hzI:z<I;{
 have hle:¬ I<=z:=by omega
 have UM:decide (I<=z)=false:=by simp;omega
 refine wp_region_noPanic ?_;refine wp_region_held_drew (S:=fun w'=>w'.cell? ⟨w.heap.size+1,0,none⟩=some (.int .u64 I)/\w'.cell? ⟨w.heap.size,2,none⟩=some (.int .u64 x)/\w'.cell? ⟨w.heap.size,4,none⟩=some (.slice (some ⟨b,o,none⟩) n c)/\w'.cell? ⟨b,o+j*3,none⟩=some (.int .u64 z)) (by kernel_rfl) (by exact ⟨KA,KB,KC,KZ⟩) (fun hS=>?_);refine fL 0 1 2 3 4 5 6 7 hS ?_;refine fL 8 9 10 11 12 13 14 15 hS ?_;refine fL 16 17 18 19 20 21 22 23 hS ?_;refine fq 24 25 hS ?_;refine wpAnyH_done (by kernel_rfl) ?_ _;refine bc ?_;clear hS;by_cases h5:D<0;{
 have eF:B=false:=by rw [aa DO];simp;omega
 subst eF;clear DO;have ZM:D<0:=h5;go_wp2;go_ret;exact ⟨rfl,BX.drew⟩};{
 by_cases h6:1000015<D;{
 have eF:B=false:=by rw [aa DO];simp;omega
 subst eF;clear DO;go_wp2;go_ret;exact ⟨rfl,BX.drew⟩};{
 have eQ:B=T:=by rw [aa DO];simp only [show decide (1<=I)=true by (rw [decide_eq_true_iff];omega),show decide (I<=x)=true by (rw [decide_eq_true_iff];omega),show decide (z<I)=true by (rw [decide_eq_true_iff];omega),show decide (0<=D)=true by (rw [decide_eq_true_iff];omega),show decide (D<=1000015)=true by (rw [decide_eq_true_iff];omega),Bool.true_and]
 subst eQ;clear DO;go_wp2_with fail;refine (oT pq cq m Q EM _ (by exact Oe.below BX.drew) hm HBQ B ET).mono ?_;rintro r w2 ⟨rfl,aG⟩;have b2:=ai BX.drew aG;clear aG;go_wp2;go_ret;exact ⟨rfl,b2⟩}}};{
 have hle:I<=z:=by omega
 have UM:decide (I<=z)=true:=by simp;omega
 have eF:B=false:=by rw [aa DO];simp;omega
 subst eF;clear DO;refine wp_region_noPanic ?_;refine wp_region_held_drew (S:=fun w'=>w'.cell? ⟨w.heap.size+1,0,none⟩=some (.int .u64 I)/\w'.cell? ⟨w.heap.size,2,none⟩=some (.int .u64 x)/\w'.cell? ⟨w.heap.size,4,none⟩=some (.slice (some ⟨b,o,none⟩) n c)/\w'.cell? ⟨b,o+j*3,none⟩=some (.int .u64 z)) (by kernel_rfl) (by exact ⟨KA,KB,KC,KZ⟩) (fun hS=>?_);refine fL 0 1 2 3 4 5 6 7 hS ?_;refine fL 8 9 10 11 12 13 14 15 hS ?_;refine fL 16 17 18 19 20 21 22 23 hS ?_;refine fq 24 25 hS ?_;refine wpAnyH_done (by kernel_rfl) ?_ _;refine bc ?_;clear hS;go_wp2;go_ret;exact ⟨rfl,BX.drew⟩}}}}
theorem FB (w:World) (C:Array Value) (e:TypeId) (fr:Nat × Nat) (i:Nat):(w.alloc (.cells C e fr)).cell? ⟨w.heap.size,i,none⟩=C[i]?:=by
 have h:(w.alloc (.cells C e fr)).heap[w.heap.size]?=some (.cells C e fr):=by show (w.heap.push (.cells C e fr))[w.heap.size]?=_;simp
 unfold World.cell?;rw [h]
 rfl
def AU (l:List Int) (k:Nat):Nat:=(List.range k).foldl (fun a i=>if l.getD i 0=47 then i else a) 0
theorem nE (l:List Int) (k:Nat):AU l (k+1)=if l.getD k 0=47 then k else AU l k:=by
 rw [AU,List.range_succ,List.foldl_append];rfl
def de (l:List Int):List Int:=if AU l l.length=0 then [47] else l.take (AU l l.length)
theorem ia (p:Option Addr) (c n:Nat) (l:List Int) (en:Hid (l.length=n)) (w:World) (h:Rd w (.slice p n c) l) (hn:n<=1048576) (hc:n<=c) (Qc:c<=maxLen) :
  Calls prog 93 #[.slice p n c] w fun r w'=>∃ q m d,r=.returned (.slice q m d)/\(de l).length=m/\m<=n+1/\Rd w' (.slice q m d) (de l)/\Below w.heap.size w w':=by
 have HR:=ae h;clear h;go_enter func93,ntmps93;go_wp2_with fail
 go_loopw [3,4] (fun av iv wr=>∃ k a:Nat,k<=n/\iv=.int .i64 k/\av=.int .i64 a/\a<=k/\Hid (AU l k=a)/\wr=w) (fun _ iv _=>n-(intOf iv).toNat)
 case atStart=>exact ⟨0,0,Nat.zero_le _,rfl,rfl,Nat.le_refl _,(by show _=_;rfl),rfl⟩
 case round =>(
 obtain ⟨k,a,hk,rfl,rfl,hak,UL,rfl⟩:=hrel;by_cases aU:k<n;{
 have aV:(k:Int)<(n:Int):=by omega
 have bH:k<l.length:=by rw [aa en];exact aU
 obtain ⟨b,o,rfl,-,bD⟩:=HR.at (by omega);have sQ:=bD k bH;have cF:=nE l k;obtain ⟨y,ey⟩:=aZ (l.getD k 0);rw [ey] at sQ cF;clear bD bH ey;by_cases j9:y=47;{
 subst j9;rw [if_pos rfl] at cF;have jl:=ae cF;clear cF;go_wp2;go_roundw
 case rel=>exact ⟨k+1,k,by omega,by go_num,rfl,by omega,jl,by first | rfl | trivial⟩
 case measure=>simp [intOf];omega}
 {
 have bG8:(y==47)=false:=by simp [j9]
 rw [if_neg j9,aa UL] at cF;have jl:=ae cF;clear cF;go_wp2;go_roundw
 case rel=>exact ⟨k+1,a,by omega,by go_num,rfl,by omega,jl,by first | rfl | trivial⟩
 case measure=>simp [intOf];omega}}
 {
 have aV:¬ (k:Int)<(n:Int):=by omega
 have ui:k=n:=by omega
 subst ui;clear hk aU;by_cases ha:a=0;{
 subst ha;have jy:Hid (de l=[47]):=by show _=_;rw [de,aa en,aa UL,if_pos rfl]
 have hcv:=Lib.run_convert_bytes_const (P:=prog) wr 27 5 #[.int .u8 47] 1 1 underlying27 underlying5;go_wp2;go_ret;refine ⟨_,_,_,rfl,by rw [aa jy];rfl,by omega,?_,ar.alloc ay _⟩;rw [aa jy];refine ⟨_,_,rfl,.inr ⟨wr.heap.size,0,rfl,fun i hi=>?_⟩⟩
 match i,hi with
 | 0,_=>(rw [Nat.zero_add,FB];rfl)}
 {
 have Sj:((a:Int)==0)=false:=by simp [ha]
 have jy:Hid (de l=l.take a):=by show _=_;rw [de,aa en,aa UL,if_neg ha]
 obtain ⟨b,o,rfl,-,-⟩:=HR.at (by rw [aa en];omega);have g1:(a:Int)<=(k:Int):=by omega
 have g2:(a:Int)<=(c:Int):=by omega
 have HRC:=HR.cut 0 a (Nat.zero_le _) (by rw [aa en];omega) (some ⟨b,o,none⟩) (.inr rfl) c (l.take a) (by simp);have HRD:=ae HRC;clear HRC;go_wp2;go_ret;exact ⟨_,_,_,rfl,by rw [aa jy,List.length_take,aa en];omega,by omega,by rw [aa jy];exact aa HRD,Below.refl _ _⟩}})
def dh (v:Value):Prop:=∃ p n c,v=.slice p n c/\n<=c/\c<=maxLen
structure mc (w:World) (b a:Nat) (nd:aA) (P V H U:Value):Prop where
 c0:w.cell? ⟨b,a,none⟩=some P
 c1:w.cell? ⟨b,a+1,none⟩=some V
 c2:w.cell? ⟨b,a+2,none⟩=some (.int .u64 nd.owner)
 c3:w.cell? ⟨b,a+3,none⟩=some (.int .i64 nd.mode)
 c4:w.cell? ⟨b,a+4,none⟩=some H
 c5:w.cell? ⟨b,a+5,none⟩=some (.int .u64 nd.aC)
 c6:w.cell? ⟨b,a+6,none⟩=some (.int .u64 nd.gen)
 c7:w.cell? ⟨b,a+7,none⟩=some U
 r0:Rd w P nd.path
 r1:Rd w V nd.value
 r4:iA w H nd.holders
 r7:iA w U nd.watchers
 k0:dh P
theorem mc.below {b a:Nat} {nd:aA} {P V H U:Value} (h:mc w b a nd P V H U) (hb:Below w.heap.size w w'):mc w' b a nd P V H U:=
 ⟨af h.c0 hb,af h.c1 hb,af h.c2 hb,af h.c3 hb,af h.c4 hb,af h.c5 hb,af h.c6 hb,af h.c7 hb,h.r0.below hb,h.r1.below hb,h.r4.below hb,h.r7.below hb,h.k0⟩
def jB (w:World) (v:Value) (ns:List aA):Prop:=
 ∃ (p:Option Addr) (c:Nat),v=.slice p ns.length c/\(ns=[]\/∃ b o,p=some ⟨b,o,none⟩/\∀ i nd,ns[i]?=some nd->∃ P V H U,mc w b (o+i*8) nd P V H U)
theorem jB.below (h:jB w v ns) (hb:Below w.heap.size w w'):jB w' v ns:=by
 obtain ⟨p,c,rfl,h⟩:=h;refine ⟨p,c,rfl,?_⟩;rcases h with h | ⟨b,o,rfl,h⟩;{exact .inl h};{refine .inr ⟨b,o,rfl,fun i e he=>?_⟩;obtain ⟨P,V,H,U,h1⟩:=h i e he;exact ⟨P,V,H,U,h1.below hb⟩}
abbrev Ey (P V:Value) (ow mo:Int) (H:Value) (ep ge:Int) (U:Value):Value:=.agg #[P,V,.int .u64 ow,.int .i64 mo,H,.int .u64 ep,.int .u64 ge,U]
def fI (e g mo:Int) (nh:Nat) (ep ge:Int):Bool:=
 if mo=1 then nh==1&&(decide (1<=ge)&&(decide (ge<=g)&&decide (ep<=e))) else ep==0&&(ge==0&&(if mo=0 then nh==0 else mo==2&&decide (1<=nh)))
theorem qY (e g x t ow mo ep ge:Int) (S N P V U:Value) (p:Option Addr) (c n:Nat) (w:World) (hn:n<=1048576) (B:Bool) (eB:Hid (fI e g mo n ep ge=B)) :
  Calls prog 96 #[cL e g x t S N,Ey P V ow mo (.slice p n c) ep ge U] w fun r w'=>r=.returned (.bool B)/\Below w.heap.size w w':=by
 go_enter func96,ntmps96;go_wp2_with fail
 all_goals (
  go_ret;refine ⟨?_,(ar.alloc ay _).alloc (by simp) _⟩;rw [<-aa eB];simp only [fI,Ending.returned.injEq,Value.bool.injEq])
 all_goals first | (simp_all;done) | (simp_all;omega) | skip
 all_goals (
  show Value.bool ((n:Int)==0)=Value.bool _
  congr 1
  have e0:mo=0:=(by simpa using ‹(mo==0)=true›);have e1:ge=0:=(by simpa using ‹(ge != 0)=false›);subst e0 e1;rw [Bool.eq_iff_iff]
  simp_all)
theorem jB.at {p:Option Addr} {n c:Nat} (h:jB w (.slice p n c) ns) (hl:0<ns.length):∃ b o,p=some ⟨b,o,none⟩/\∀ i nd,ns[i]?=some nd->∃ P V H U,mc w b (o+i*8) nd P V H U:=by
 obtain ⟨p',c',ev,hd⟩:=h;simp only [Value.slice.injEq] at ev;obtain ⟨rfl,-,-⟩:=ev;rcases hd with h0 | ⟨b,o,h1,h2⟩;{rw [h0] at hl;simp at hl};{exact ⟨b,o,h1,h2⟩}
theorem Rd.ed {l:List Int} (h:Rd w v l):∃ p c n,v=.slice p n c/\Hid (l.length=n):=by
 obtain ⟨p,c,rfl,-⟩:=h;exact ⟨p,c,_,rfl,(by show _=_;rfl)⟩
theorem List.kH {α:Type} {ns:List α} {k:Nat} {y:α} (h:ns[k]?=some y):y::ns.drop (k+1)=ns.drop k:=by
 obtain ⟨hk,rfl⟩:=aM.1 h;exact (List.drop_eq_getElem_cons hk).symm
def fe (ns:List aA) (l:List Int):Option aA:=ns.find? fun nd=>decide (nd.path=l)
theorem lW (e g x t:Int) (p q:Option Addr) (c n d m:Nat) (S:Value) (ns:List aA) (l:List Int) (en:Hid (ns.length=n)) (em:Hid (l.length=m)) (w:World) (h:jB w (.slice p n c) ns) (hl:Rd w (.slice q m d) l) (hn:n<=1048576) (hm:m<=2097152)
  (du:Hid (cT l/\∀ nd∈ns,cT nd.path)) :
  Calls prog 61 #[cL e g x t S (.slice p n c),.slice q m d] w fun r w'=>((∃ (k:Nat) (nd:aA),r=.returned (.int .i64 k)/\k<n/\ns[k]?=some nd/\fe ns l=some nd)\/(r=.returned (.int .i64 (-1))/\fe ns l=none))/\Below w.heap.size w w':=by
 have HR:=ae fun (w':World) (hb:Below w.heap.size w w')=>ag (h.below hb) (hl.below hb);go_enter func61,ntmps61;go_wp2_with fail;obtain ⟨W,hW⟩:=ax (w.alloc (.cells #[.int .u64 e,.int .u64 g,.int .u64 x,.int .i64 t,S,.slice p n c] 35));have bW:Below w.heap.size w W:=by rw [hW];exact ar.alloc ay _
 have vw:W.cell? ⟨w.heap.size,5,none⟩=some (.slice p n c):=by rw [hW];simp
 rw [<-hW];have BW:=ae bW;have HC5:=ae vw
 go_loopw [5] (fun iv wr=>∃ k:Nat,k<=n/\iv=.int .i64 k/\Hid (fe (ns.take k) l=none)/\Below W.heap.size W wr) (fun iv _=>n-(intOf iv).toNat)
 case atStart=>exact ⟨0,Nat.zero_le _,rfl,(by show _=_;rfl),Below.refl _ _⟩
 case round =>(
 obtain ⟨k,hk,rfl,kc,aE⟩:=hrel;have BB:=ai BW aE;have i5:=af HC5 aE;by_cases aU:k<n;{
 have aV:(k:Int)<(n:Int):=by omega
 have bH:k<ns.length:=by rw [aa en];exact aU
 obtain ⟨hN,hL⟩:=aa HR _ BB;obtain ⟨b,o,rfl,hA⟩:=hN.at (by omega);obtain ⟨nd,hy⟩:∃ y,ns[k]?=some y:=⟨_,aH bH⟩;obtain ⟨P,V,H,U,bf⟩:=hA k nd hy;have hP:=bf.c0;have vk:=bf.r0;obtain ⟨pp,pc,pn,rfl,uj⟩:=vk.ed;have NM:=du.2 nd (aL hy);have HY:=ae hy;have Rm:=ae vk;have Ju:=ae NM;have HLL:=ae hL;go_wp2_with fail;refine (lV pp q pc d pn m nd.path l uj em _ Rm HLL Ju du.1).mono ?_;rintro r w2 ⟨rfl,aG⟩;by_cases jy:nd.path=l;{
 rw [show decide (nd.path=l)=true by simp [jy]];have hF:Hid (fe ns l=some nd):=by
  show _=_;have e1:ns=ns.take k++nd::ns.drop (k+1):=by rw [List.kH (aa HY),List.take_append_drop]
  rw [e1,fe,List.find?_append,show (ns.take k).find? (fun nd=>decide (nd.path=l))=none from aa kc];simp [jy]
 have b2:=ai BB aG;go_wp2;go_ret;exact ⟨.inl ⟨k,nd,rfl,aU,HY,hF⟩,b2⟩};{
 rw [show decide (nd.path=l)=false by simp [jy]];have KF:Hid (fe (ns.take (k+1)) l=none):=by show _=_;rw [List.take_add_one,aa HY,fe,List.find?_append,show (ns.take k).find? (fun nd=>decide (nd.path=l))=none from aa kc];simp [jy]
 have b2:=ai aE aG;go_wp2;go_roundw
 case rel=>exact ⟨k+1,by omega,by go_num,KF,b2⟩
 case measure=>simp [intOf];omega}}
 {
 have aV:¬ (k:Int)<(n:Int):=by omega
 have hF:Hid (fe ns l=none):=by show _=_;have:=aa kc;rwa [List.take_of_length_le (by rw [aa en];omega)] at this
 go_wp2;go_ret;exact ⟨.inr ⟨rfl,hF⟩,BB⟩})
def dy (ns:List aA) (l:List Int):Bool:=if l=[47] then true else match fe ns l with | some nd=>nd.owner==0 | none=>false
theorem gG (e g x t:Int) (p q:Option Addr) (c n d m:Nat) (S:Value) (ns:List aA) (l:List Int) (en:Hid (ns.length=n)) (em:Hid (l.length=m)) (w:World) (h:jB w (.slice p n c) ns) (hl:Rd w (.slice q m d) l) (hn:n<=1048576) (hm:m<=2097152)
  (du:Hid (cT l/\∀ nd∈ns,cT nd.path)) (B:Bool) (eB:Hid (dy ns l=B)) :
  Calls prog 92 #[cL e g x t S (.slice p n c),.slice q m d] w fun r w'=>r=.returned (.bool B)/\Below w.heap.size w w':=by
 have HR:=ae fun (w':World) (hb:Below w.heap.size w w')=>ag (h.below hb) (hl.below hb);clear h hl;obtain ⟨W,hW⟩:=ax (w.alloc (.cells #[.int .u64 e,.int .u64 g,.int .u64 x,.int .i64 t,S,.slice p n c] 35));have bW:Below w.heap.size w W:=by rw [hW];exact ar.alloc ay _
 have sW:W.heap.size=w.heap.size+1:=by rw [hW];simp
 have vw:js W w.heap.size e g x t S (.slice p n c):=by rw [hW];simp [js]
 have hcv:=Lib.run_convert_bytes_const (P:=prog) W 27 5 #[.int .u8 47] 1 1 underlying27 underlying5;simp only [show (#[Value.int .u8 47]:Array Value).size=1 from rfl] at hcv;obtain ⟨X,hX⟩:=ax (W.alloc (.cells #[.int .u8 47] 5 (1,1+1)));have rX:Rd X (.slice (some ⟨w.heap.size+1,0,none⟩) 1 1) [47]:=by
  rw [hX,<-sW];refine ⟨_,_,rfl,.inr ⟨W.heap.size,0,rfl,fun i hi=>?_⟩⟩
  match i,hi with
  | 0,_=>(rw [Nat.zero_add,FB];rfl)
 have bX:Below w.heap.size w X:=by rw [hX];exact bW.alloc (by omega) _
 have iX:js X w.heap.size e g x t S (.slice p n c):=vw.below (by rw [hX];exact ar.alloc ay _);rw [<-hX,sW,hW] at hcv;clear sW vw bW hX hW;have RX:=ae rX;have BX:=ae bX;have IX:=ae iX;clear rX bX iX;go_enter func92,ntmps92;go_wp2_with fail;refine (lV q _ d 1 m 1 l [47] em (by show _=_;rfl) _ (aa HR _ (aa BX)).2 (aa RX) du.1 (by intro x hx;simp at hx;omega)).mono ?_;rintro r w2 ⟨rfl,aG⟩;have b2:=ai BX aG;obtain ⟨j0,j1,j2,j3,j4,j5⟩:=IX.below aG;clear hcv aG;by_cases j9:l=[47];{
 rw [show decide (l=[47])=true by simp [j9]];have eT:B=true:=by rw [<-aa eB,dy,if_pos j9]
 subst eT;clear j9;go_wp2;go_ret;exact ⟨rfl,b2⟩};{
 rw [show decide (l=[47])=false by simp [j9]];have hB:(match fe ns l with | some nd=>nd.owner==0 | none=>false)=B:=by rw [<-aa eB,dy,if_neg j9]
 have HB:=ae hB;clear hB j9;go_wp2_with fail;refine (lW e g x t p q c n d m S ns l en em _ (aa HR _ b2).1 (aa HR _ b2).2 hn hm du).mono ?_;rintro r w3 ⟨hr,cX⟩;have b3:=ai b2 cX;have k5:=af j5 cX;clear j0 j1 j2 j3 j4 j5 cX;rcases hr with ⟨k,nd,rfl,hk,hy,hF⟩ | ⟨rfl,hF⟩;{
 rw [hF] at HB;have bH:k<ns.length:=by rw [aa en];exact hk
 obtain ⟨b,o,rfl,hA⟩:=(aa HR _ b3).1.at (by omega);obtain ⟨P,V,H,U,bf⟩:=hA k nd hy;have hO:=bf.c2;have R8:(k:Int)<(n:Int):=by omega
 have xX:(0:Int)<=(k:Int):=by omega
 clear hA bf bH hy hF;cases B with
 | true=>
  have ho:nd.owner=0:=by have:=aa HB;simpa using this
  rw [ho] at hO;clear ho;go_wp2;go_ret;exact ⟨rfl,b3⟩
 | false=>
  have ho:(nd.owner==0)=false:=aa HB;go_wp2;go_ret;exact ⟨rfl,b3⟩};{rw [hF] at HB;have eF:B=false:=HB.symm;subst eF;clear hF;go_wp2;go_ret;exact ⟨rfl,b3⟩}}
end Go.Proofs.YtmfjiolopcbcmaaGreatDoor
