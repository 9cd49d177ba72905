import Derived.Test.YtcfcafeciggjeaaGreatDoorK3
import Derived.Test.YtcfcafeciggjeaaGreatDoorVPy
import Derived.Test.YtcfcafeciggjeaaGreatDoorOPa
import Derived.Deep.DeepCutAuto
namespace Go.Proofs.YtcfcafeciggjeaaGreatDoor
set_option maxHeartbeats 4000000
set_option linter.all false
set_option maxRecDepth 100000
open Go.ChangeShapes Go.WideShapes Go.ChangeAt Go.RowKit
variable {f:Nat->Bool} {v:Value} {w w':World}
theorem pT (p:Option Addr) (c n:Nat) (l:List Int) (en:Hid (l.length=n)) (w:World) (h:Rd w (.S p n c) l) (hl:n<=2097152) (B:Bool) (eB:Hid (iQ l=B)) :
  Calls Tryz.prog 176 #[.S p n c] w fun e w'=>e=.returned (.bool B)/\Bw w w':=by
 have HR:=ae h;clear h;by_cases h1:1<=n;{
 by_cases h16:n<=16;{
 have Hr:¬ (n:Int)<1:=by omega
 have aS3:¬ (16:Int)<(n:Int):=by omega
 obtain ⟨b,o,rfl,-,hc⟩:=HR.at (by rw [aa en];omega);go_enter Tryz.func176,Tryz.ntmps176;have bG:∀ (i:Nat) (w':World),i<n->Bw w w'->w'.cell? ⟨b,o+i,none⟩=some (.int .u8 (l.getD i 0)):=fun i w' hi cR=>(cR.cell (p:=⟨b,o+i,none⟩) (World.block_lt_of_cell? w _ (hc i (by rw [aa en];exact hi)))).trans (hc i (by rw [aa en];exact hi));have HC:=ae bG;clear hc bG;go_wp2
 go_loopw [17] (fun i wr=>∃ k:Nat,k<=n/\i=.I k/\Hid (∀ j,j<k->nK (l.getD j 0)=true)/\Bw w wr) (fun i _=>n-(intOf i).toNat)
 case atStart=>exact ⟨0,Nat.zero_le _,rfl,(fun j hj=>by omega),Below.refl _ _⟩
 case round =>(
 obtain ⟨k,hk,rfl,iJ,aR⟩:=hrel;by_cases bj:k<n;{
 have bm:=aT k n;have zO:=aa HC k wr bj aR;obtain ⟨z,ez⟩:=aH (l.getD k 0);rw [ez] at zO;have EZ:=ae ez;clear ez;have oG:nK z=true->Hid (∀ j,j<k+1->nK (l.getD j 0)=true):=fun hz j hj=>by by_cases e:j=k;{rw [e,aa EZ];exact hz};{exact iJ j (by omega)}
 have qe:nK z=false->B=false:=fun hz=>by
  rw [<-aa eB,iQ];have:l.all nK=false:=by
   rw [List.all_eq_false];refine ⟨z,?_,by simp [hz]⟩;rw [<-aa EZ];have Ms:k<l.length:=by rw [aa en];exact bj
   rw [show l.getD k 0=l[k] by simp [List.getD,Ms]];exact List.getElem_mem Ms
  rw [this];simp
 rcases C8 z with ⟨g1,g2,gb⟩ | ⟨g2,gb⟩ | ⟨g3,g4,gb⟩ | ⟨rfl,gb⟩ | ⟨g4,g1,g6,gb⟩ | ⟨rfl,gb⟩ | ⟨g3,g5,gb⟩;{
 have HN:=oG gb;clear oG qe;have g3:(48:Int)<=z:=by omega
 have g4:¬ z<=57:=by omega
 go_wp2;go_roundw
 case rel=>exact ⟨k+1,by omega,by go_num,HN,aR⟩
 case measure=>simp [intOf];omega}
 {
 have eF:=qe gb;subst eF;clear oG qe;have g1:(97:Int)<=z:=by omega
 have g2':¬ z<=122:=by omega
 have g3:(48:Int)<=z:=by omega
 have g4:¬ z<=57:=by omega
 have g5:(z != 45)=true:=by simp;omega
 have g6:(z != 95)=true:=by simp;omega
 go_wp2;go_ret;exact ⟨rfl,aR⟩};{
 have HN:=oG gb;clear oG qe;have g1:¬ (97:Int)<=z:=by omega
 go_wp2;go_roundw
 case rel=>exact ⟨k+1,by omega,by go_num,HN,aR⟩
 case measure=>simp [intOf];omega}
 {
 have HN:=oG gb;clear oG qe;go_wp2;go_roundw
 case rel=>exact ⟨k+1,by omega,by go_num,HN,aR⟩
 case measure=>simp [intOf];omega}
 {
 have eF:=qe gb;subst eF;clear oG qe;have g1':¬ (97:Int)<=z:=by omega
 have g3:(48:Int)<=z:=by omega
 have g4':¬ z<=57:=by omega
 have g5:(z != 45)=true:=by simp;omega
 have g6':(z != 95)=true:=by simp [g6]
 go_wp2;go_ret;exact ⟨rfl,aR⟩};{
 have HN:=oG gb;clear oG qe;go_wp2;go_roundw
 case rel=>exact ⟨k+1,by omega,by go_num,HN,aR⟩
 case measure=>simp [intOf];omega}
 {
 have eF:=qe gb;subst eF;clear oG qe;have g1:¬ (97:Int)<=z:=by omega
 have g3':¬ (48:Int)<=z:=by omega
 have g5':(z != 45)=true:=by simp [g5]
 have g6:(z != 95)=true:=by simp;omega
 go_wp2;go_ret;exact ⟨rfl,aR⟩}};{
 have bm:=dy k n;have e:k=n:=by omega
 have eT:B=true:=by
  rw [<-aa eB,iQ,aa en];have:l.all nK=true:=by rw [List.all_eq_true];intro x hx;obtain ⟨i,hi,rfl⟩:=List.getElem_of_mem hx;have:=aa iJ i (by rw [aa en] at hi;omega);rwa [show l.getD i 0=l[i] by simp [List.getD,hi]] at this
  simp [h1,h16,this]
 subst eT;go_wp2;go_ret;exact ⟨rfl,aR⟩})}
 {
 have Hr:¬ (n:Int)<1:=by omega
 have aS3:=ja 16 n;have eF:B=false:=by rw [<-aa eB,iQ,aa en];simp [h16]
 subst eF;go_enter Tryz.func176,Tryz.ntmps176;go_wp2;go_ret;exact ⟨rfl,Below.refl _ _⟩}};{
 have Hr:(n:Int)<1:=by omega
 have eF:B=false:=by rw [<-aa eB,iQ,aa en];simp [h1]
 subst eF;go_enter Tryz.func176,Tryz.ntmps176;go_wp2;go_ret;exact ⟨rfl,Below.refl _ _⟩}
theorem Ix (b o n c:Nat) (t:List Int) (en:t.length=n) (g:Nat) (w:World) (hc:∀ i,i<n->w.cell? ⟨b,o+i,none⟩=some (.int .u8 (t.getD i 0))) (hg:w.cell? ⟨g,0,none⟩=some (.int .u8 47)) (hB:bM t) (hn:n<=c) (aO7:c<=maxLen) (hl:n<=2097152) (hm:∃ m,w.cell? ⟨2,0,none⟩=some (.I m)) (K:Nat) (eK:(du 47 t).length=K) :
  Calls Tryz.prog 175 #[.S (some ⟨b,o,none⟩) n c,.S (some ⟨g,0,none⟩) 1 1] w fun e w'=>e=.returned (.S (some ⟨w.heap.size,0,none⟩) K K)/\(∀ j nm,(du 47 t)[j]?=some nm->∃ p' c',w'.cell? ⟨w.heap.size,j,none⟩=some (.S p' nm.length c')/\Rd w' (.S p' nm.length c') nm)/\Bw w w':=by
 obtain ⟨m,hm⟩:=hm;have Rp:∀ (g o i:Nat),(⟨g,o,none⟩:Addr).add i=⟨g,o+i,none⟩:=fun g o i=>by
  unfold Addr.add;split;{next h=>subst h;rfl}
  {rfl}
 obtain ⟨e1,e2⟩:=vZ hB;refine (Any.bytes_Split Tryz.layS7 ⟨b,o,none⟩ ⟨g,0,none⟩ n c 1 1 t [47] m w en rfl hB (by intro y hy;simp at hy;subst hy;decide) (fun i hi=>by rw [Rp];exact hc i hi) (fun i hi=>by
  obtain rfl:i=0:=by omega
  exact hg) hn (by omega) (by decide) (by unfold maxLen at aO7;omega) (by decide) hm).mono ?_
 rintro e w' ⟨rfl,q,rfl⟩;have ad9:Bw w ((w.alloc (.cells (Lib.splitV (Lib.bytesOf [47]) 0 (Lib.count (Lib.bytesOf t) (Lib.bytesOf [47])) ⟨b,o,none⟩ c (Lib.bytesOf t)).toArray (Tryz.layS7_ren.t 22))).drewN q):=⟨rfl,rfl,rfl,by simp,fun k hk=>Below.heap_alloc _ _ k hk⟩;rw [e2,eK];refine ⟨rfl,fun j nm hj=>?_,ad9⟩;have Bf:j<(Lib.splitV (Lib.bytesOf [47]) 0 (Lib.count (Lib.bytesOf t) (Lib.bytesOf [47])) ⟨b,o,none⟩ c (Lib.bytesOf t)).length:=by rw [Lib.splitV_length,e1,List.length_map];exact (aN.1 hj).1
 obtain ⟨a',off,len,cp,ev,h1,h2,h3,h4⟩:=Lib.splitV_spec (Lib.bytesOf [47]) 0 (by decide) (Nat.zero_le _) _ ⟨b,o,none⟩ c (Lib.bytesOf t) (by rw [Lib.bytesOf_length,en];exact hn) j _ (aK Bf);rw [e1,List.getElem?_map,hj] at h3;rw [Lib.bytesOf_length] at h2;have Np:nm=(t.drop off).take len:=by refine uI (Se hB nm (aF hj)) (fun z hz=>hB z (List.mem_of_mem_drop (List.mem_of_mem_take hz))) ?_;rw [Lib.bytesOf_take,Lib.bytesOf_drop];simpa using h3
 have WW:nm.length=len:=by rw [Np,List.length_take,List.length_drop];omega
 refine ⟨some a',cp,?_,?_⟩;{rw [World.cell?_drewN,World.cell?_alloc_new,List.getElem?_toArray,aK Bf,ev,WW]};{
 refine ⟨some a',cp,rfl,?_⟩;by_cases h0:len=0;{
 left
 exact List.length_eq_zero_iff.1 (by rw [WW];exact h0)};{
 right
 have ea:=h4 0 (by omega);rw [Rp,Nat.add_zero] at ea;refine ⟨b,o+off,?_,fun i hi=>?_⟩;{have:a'.add 0=a':=rfl;rw [<-this,ea]};{
 rw [WW] at hi;have la:((w.alloc (.cells (Lib.splitV (Lib.bytesOf [47]) 0 (Lib.count (Lib.bytesOf t) (Lib.bytesOf [47])) ⟨b,o,none⟩ c (Lib.bytesOf t)).toArray (Tryz.layS7_ren.t 22))).drewN q).cell? ⟨b,o+(off+i),none⟩=some (.int .u8 (t.getD (off+i) 0)):=
  (ad9.cell (p:=⟨b,o+(off+i),none⟩) (World.block_lt_of_cell? w _ (hc (off+i) (by omega)))).trans (hc (off+i) (by omega))
 rw [Nat.add_assoc,la,Np];have:((t.drop off).take len).getD i 0=t.getD (off+i) 0:=by simp [List.getD,List.getElem?_take,hi,List.getElem?_drop]
 rw [this]}}}
open Go.Proofs.Tryz
theorem Sd {t:List Int}:∀ n∈du (47:Int) t,n.length<=t.length:=by
 induction t with
 | nil=>intro n hn;simp [du] at hn;subst hn;simp
 | cons x l ih=>
  intro n hn;rw [du] at hn;split at hn;{rcases List.mem_cons.1 hn with rfl | hn;{simp};{have:=ih n hn;simp;omega}};{
 cases hc:du 47 l with
 | nil=>
  rw [hc] at hn;simp at hn;subst hn;simp
 | cons m ms=>
  rw [hc] at hn ih;rcases List.mem_cons.1 hn with rfl | hn;{have:=ih m (by simp);simp;omega};{have:=ih n (by simp [hn]);simp;omega}}
theorem Fx (p:Option Addr) (c n:Nat) (l:List Int) (en:Hid (l.length=n)) (w:World) (h:Rd w (.S p n c) l) (hb:Hid (bM l)) (hl:n<=1048576) (hcn:n<=c) (Bn:c<=maxLen) (hm:∃ m,w.cell? ⟨2,0,none⟩=some (.I m)) (B:Bool) (eB:Hid (vp l=B)) :
  Calls prog 158 #[.S p n c] w fun e w'=>e=.returned (.bool B)/\Below w.heap.size w w':=by
 have HR:=ae h;have HM:=ae hm;clear h hm;by_cases Ep:n=0;{
 subst Ep;have eF:B=false:=by
  rw [<-aa eB,List.length_eq_zero_iff.1 (aa en)]
  rfl
 subst eF;go_enter func158,ntmps158;go_wp2;go_ret;exact ⟨rfl,Below.refl _ _⟩};have VO:((n:Int)==0)=false:=by simp [Ep]
 obtain ⟨b,o,rfl,-,hc⟩:=HR.at (by rw [aa en];omega);obtain ⟨x,t,el⟩:∃ x t,l=x::t:=by
  cases l with
  | nil=>have:=aa en;simp at this;omega
  | cons x t=>exact ⟨x,t,rfl⟩
 have hx:w.cell? ⟨b,o,none⟩=some (.int .u8 x):=by have:=hc 0 (by rw [aa en];omega);rw [el] at this;exact this
 by_cases kL:x=47;{
 subst kL;have ent:t.length=n-1:=by have:=aa en;rw [el] at this;simp at this;omega
 have Tx:∀ i,i<n-1->w.cell? ⟨b,o+1+i,none⟩=some (.int .u8 (t.getD i 0)):=fun i hi=>by have:=hc (1+i) (by rw [aa en];omega);rw [el,<-Nat.add_assoc] at this;rw [this];simp [List.getD,Nat.add_comm 1 i]
 have hbt:bM t:=fun z hz=>aa hb z (by rw [el];simp [hz]);obtain ⟨K,eK⟩:=aH ((du 47 t).length);have dz:B=(decide (K<=8)&&(du 47 t).all iQ):=by rw [<-aa eB,el,vp,st,eK];simp
 have Hq:K<=n+1:=by have h1:=(vZ hbt).2;have h2:=Lib.count_le (Lib.bytesOf t) (Lib.bytesOf [47]);rw [Lib.bytesOf_length,ent] at h2;omega
 obtain ⟨N,eN⟩:=aH (n-1);obtain ⟨C,eC⟩:=aH (c-1);have JY:∀ (o':Nat) (w':World),(N=0\/o'=o+1)->Below w.heap.size w w'->w'.cell? ⟨w.heap.size,0,none⟩=some (.int .u8 47)->Calls prog 175 #[.S (some ⟨b,o',none⟩) N C,.S (some ⟨w.heap.size,0,none⟩) 1 1] w' fun e w''=>e=.returned (.S (some ⟨w'.heap.size,0,none⟩) K K)/\(∀ j nm,(du 47 t)[j]?=some nm->∃ p' c',w''.cell? ⟨w'.heap.size,j,none⟩=some (.S p' nm.length c')/\Rd w'' (.S p' nm.length c') nm)/\Below w'.heap.size w' w'':=by intro o' w' JZ cR hg;refine Ix b o' N C t (by rw [ent,eN]) w.heap.size w' (fun i hi=>?_) hg hbt (by omega) (by omega) (by omega) ?_ K eK;{rcases JZ with h0 | rfl;{omega};{exact (cR.cell (p:=⟨b,o+1+i,none⟩) (World.block_lt_of_cell? w _ (Tx i (by omega)))).trans (Tx i (by omega))}};{obtain ⟨m,hm⟩:=aa HM;exact ⟨m,(cR.cell (p:=⟨2,0,none⟩) (World.block_lt_of_cell? w _ hm)).trans hm⟩}
 have HSP:=ae JY;have lr:=ae dz;have EK:=ae eK;have g1:=dE 1 n;have g2:=dE 1 c;have g3:=vj n c;have HN:=ae (ag eN eC);clear JY dz Tx hbt ent eK hc eN eC;have bA:Below w.heap.size w (w.alloc (.cells #[.int .u8 47] 5)):=aJ.alloc aA _;have FN:∀ o',(N=0\/o'=o+1)->Calls prog 175 #[.S (some ⟨b,o',none⟩) N C,.S (some ⟨w.heap.size,0,none⟩) 1 1] (w.alloc (.cells #[.int .u8 47] 5)) fun e w''=>e=.returned (.S (some ⟨w.heap.size+1,0,none⟩) K K)/\(∀ j nm,(du 47 t)[j]?=some nm->∃ p' c',w''.cell? ⟨w.heap.size+1,j,none⟩=some (.S p' nm.length c')/\Rd w'' (.S p' nm.length c') nm)/\Below w.heap.size w w'':=by
  intro o' JZ;have e:(w.alloc (.cells #[.int .u8 47] 5)).heap.size=w.heap.size+1:=by simp
  have:=aa HSP o' _ JZ bA (by simp);rw [e] at this;refine this.mono ?_;rintro e1 w1 ⟨rfl,h1,h2⟩;refine ⟨rfl,h1,?_⟩;rw [<-e] at h2;exact ah bA h2
 have HF:=ae FN;clear FN bA;have hlen:∀ nm∈du (47:Int) t,nm.length<=2097152:=fun nm qL=>by have h1:=Sd nm qL;have h2:=aa en;rw [el] at h2;simp at h2;omega
 have HL:=ae hlen;clear hlen el;by_cases kH:c=1;{
 subst kH;obtain rfl:n=1:=by omega
 go_enter func158,ntmps158;go_wp2_with fail;have hN0:(0:Nat)=N:=by have:=HN.1;omega
 have Ry:(0:Nat)=C:=by have:=HN.2;omega
 have JY:=aa HF o (.inl hN0.symm);rw [<-hN0,<-Ry] at JY;clear hN0 Ry;refine JY.mono ?_;rintro e w2 ⟨rfl,Q5,bk⟩;have HP:=ae Q5;clear JY Q5;by_cases FL:K<=8;{
 have VU:¬ (8:Int)<(K:Int):=by omega
 go_wp2
 go_loopw [24] (fun i wr=>∃ k:Nat,k<=K/\i=.I k/\Hid (∀ j nm,j<k->(du 47 t)[j]?=some nm->iQ nm=true)/\Below w2.heap.size w2 wr) (fun i _=>K-(intOf i).toNat)
 case atStart=>exact ⟨0,Nat.zero_le _,rfl,(fun j nm hj=>by omega),Below.refl _ _⟩
 case round =>(
 obtain ⟨k,hk,rfl,iJ,aR⟩:=hrel;have BB:=ah bk aR;by_cases bj:k<K;{
 have bm:=aT k K;obtain ⟨nm,qL⟩:∃ nm,(du 47 t)[k]?=some nm:=⟨_,aK (by rw [aa EK];exact bj)⟩;obtain ⟨p',c',Bo,DG⟩:=aa HP k nm qL;have FP:=af Bo aR;have A7:=DG.below aR;have IZ:=aa HL nm (aF qL);obtain ⟨nl,je⟩:=aH nm.length;rw [je] at FP A7 IZ;have ENL:=ae je;have HNM:=ae qL;clear Bo DG je qL;obtain ⟨R,eR⟩:=aH (iQ nm);have ER:=ae eR;clear eR;go_wp2_with fail;refine (pT p' c' nl nm ENL _ A7 IZ R ER).mono ?_;rintro e w3 ⟨rfl,dA⟩;have b3:=ah aR dA;cases R with
 | true=>
  have sT:Hid (∀ j nm,j<k+1->(du 47 t)[j]?=some nm->iQ nm=true):=fun j nm' hj Tr=>by by_cases e:j=k;{subst e;have e2:=HNM.symm.trans Tr;simp at e2;rw [<-e2];exact aa ER};{exact iJ j nm' (by omega) Tr}
  clear FP A7 dA aR BB;go_wp2;go_roundw
  case rel=>exact ⟨k+1,by omega,by go_num,sT,b3⟩
  case measure=>simp [intOf];omega
 | false=>
  have eF:B=false:=by
   rw [aa lr];have:(du 47 t).all iQ=false:=by rw [List.all_eq_false];exact ⟨nm,aF (aa HNM),by simp [aa ER]⟩
   rw [this];simp
  subst eF;clear FP A7;go_wp2;go_ret;exact ⟨rfl,ah BB dA⟩};{
 have bm:=dy k K;have eT:B=true:=by
  rw [aa lr];have:(du 47 t).all iQ=true:=by rw [List.all_eq_true];intro nm qL;obtain ⟨i,hi,rfl⟩:=List.getElem_of_mem qL;exact aa iJ i _ (by rw [aa EK] at hi;omega) (aK hi)
  simp [this,FL]
 subst eT;go_wp2;go_ret;exact ⟨rfl,BB⟩})}
 {
 have VU:=ja 8 K;have eF:B=false:=by rw [aa lr];simp [FL]
 subst eF;go_wp2;go_ret;exact ⟨rfl,bk⟩}};{
 have bV6:¬ (c:Int)=1:=by omega
 go_enter func158,ntmps158;go_wp2_with fail;have JY:=aa HF (o+1) (.inr rfl);rw [<-HN.1,<-HN.2] at JY;refine JY.mono ?_;rintro e w2 ⟨rfl,Q5,bk⟩;have HP:=ae Q5;clear JY Q5;by_cases FL:K<=8;{
 have VU:¬ (8:Int)<(K:Int):=by omega
 go_wp2
 go_loopw [24] (fun i wr=>∃ k:Nat,k<=K/\i=.I k/\Hid (∀ j nm,j<k->(du 47 t)[j]?=some nm->iQ nm=true)/\Below w2.heap.size w2 wr) (fun i _=>K-(intOf i).toNat)
 case atStart=>exact ⟨0,Nat.zero_le _,rfl,(fun j nm hj=>by omega),Below.refl _ _⟩
 case round =>(
 obtain ⟨k,hk,rfl,iJ,aR⟩:=hrel;have BB:=ah bk aR;by_cases bj:k<K;{
 have bm:=aT k K;obtain ⟨nm,qL⟩:∃ nm,(du 47 t)[k]?=some nm:=⟨_,aK (by rw [aa EK];exact bj)⟩;obtain ⟨p',c',Bo,DG⟩:=aa HP k nm qL;have FP:=af Bo aR;have A7:=DG.below aR;have IZ:=aa HL nm (aF qL);obtain ⟨nl,je⟩:=aH nm.length;rw [je] at FP A7 IZ;have ENL:=ae je;have HNM:=ae qL;clear Bo DG je qL;obtain ⟨R,eR⟩:=aH (iQ nm);have ER:=ae eR;clear eR;go_wp2_with fail;refine (pT p' c' nl nm ENL _ A7 IZ R ER).mono ?_;rintro e w3 ⟨rfl,dA⟩;have b3:=ah aR dA;cases R with
 | true=>
  have sT:Hid (∀ j nm,j<k+1->(du 47 t)[j]?=some nm->iQ nm=true):=fun j nm' hj Tr=>by by_cases e:j=k;{subst e;have e2:=HNM.symm.trans Tr;simp at e2;rw [<-e2];exact aa ER};{exact iJ j nm' (by omega) Tr}
  clear FP A7 dA aR BB;go_wp2;go_roundw
  case rel=>exact ⟨k+1,by omega,by go_num,sT,b3⟩
  case measure=>simp [intOf];omega
 | false=>
  have eF:B=false:=by
   rw [aa lr];have:(du 47 t).all iQ=false:=by rw [List.all_eq_false];exact ⟨nm,aF (aa HNM),by simp [aa ER]⟩
   rw [this];simp
  subst eF;clear FP A7;go_wp2;go_ret;exact ⟨rfl,ah BB dA⟩};{
 have bm:=dy k K;have eT:B=true:=by
  rw [aa lr];have:(du 47 t).all iQ=true:=by rw [List.all_eq_true];intro nm qL;obtain ⟨i,hi,rfl⟩:=List.getElem_of_mem qL;exact aa iJ i _ (by rw [aa EK] at hi;omega) (aK hi)
  simp [this,FL]
 subst eT;go_wp2;go_ret;exact ⟨rfl,BB⟩})}
 {
 have VU:=ja 8 K;have eF:B=false:=by rw [aa lr];simp [FL]
 subst eF;go_wp2;go_ret;exact ⟨rfl,bk⟩}}};{
 have JV:(x==47)=false:=by simp [kL]
 have uR:(x != 47)=true:=by simp [kL]
 have eF:B=false:=by rw [<-aa eB,el,vp];exact Cu kL
 subst eF;go_enter func158,ntmps158;go_wp2;go_ret;exact ⟨rfl,Below.refl _ _⟩}
theorem we (p:Option Addr) (c n:Nat) (l:List Int) (en:Hid (l.length=n)) (w:World) (h:Rd w (.S p n c) l) (hb:Hid (bM l)) (hl:n<=1048576) (B:Bool) (eB:Hid (vp l=B)) :
  Calls prog 86 #[.S p n c] w fun e w'=>e=.returned (.bool B)/\Below w.heap.size w w':=by
 go_enter func86,ntmps86;go_wp2_with fail;refine (Dm p c n l en _ h hb hl B eB).mono ?_;rintro e w1 ⟨⟨v,rfl⟩,bq⟩;go_wp2;go_ret;exact ⟨rfl,bq⟩
abbrev Ev:=Int × List Int
abbrev aY:=Int × Int × List Ev
structure aD where
 path:List Int
 value:List Int
 owner:Int
 mode:Int
 holders:List Int
 aB:Int
 gen:Int
 watchers:List Int
def nH (w:World) (v:Value) (ns:List Int):Prop:=
 ∃ (p:Option Addr) (c:Nat),v=.S p ns.length c/\(ns=[]\/∃ b o,p=some ⟨b,o,none⟩/\∀ i,i<ns.length->w.cell? ⟨b,o+i,none⟩=some (.U (ns.getD i 0)))
def vO (w:World) (v:Value) (es:List Ev):Prop:=
 ∃ (p:Option Addr) (c:Nat),v=.S p es.length c/\(es=[]\/∃ b o,p=some ⟨b,o,none⟩/\∀ i e,es[i]?=some e->w.cell? ⟨b,o+i*2,none⟩=some (.I e.1)/\∃ u,w.cell? ⟨b,o+i*2+1,none⟩=some u/\Rd w u e.2)
def uJ (w:World) (v:Value) (ss:List aY):Prop:=
 ∃ (p:Option Addr) (c:Nat),v=.S p ss.length c/\(ss=[]\/∃ b o,p=some ⟨b,o,none⟩/\∀ i s,ss[i]?=some s->w.cell? ⟨b,o+i*3,none⟩=some (.U s.1)/\w.cell? ⟨b,o+i*3+1,none⟩=some (.I s.2.1)/\∃ u,w.cell? ⟨b,o+i*3+2,none⟩=some u/\vO w u s.2.2)
theorem nH.below {ns:List Int} (h:nH w v ns) (hb:Bw w w'):nH w' v ns:=by
 obtain ⟨p,c,rfl,h⟩:=h;refine ⟨p,c,rfl,?_⟩;rcases h with h | ⟨b,o,rfl,h⟩;{exact .inl h};{exact .inr ⟨b,o,rfl,fun i hi=>af (h i hi) hb⟩}
theorem vO.below {es:List Ev} (h:vO w v es) (hb:Bw w w'):vO w' v es:=by
 obtain ⟨p,c,rfl,h⟩:=h;refine ⟨p,c,rfl,?_⟩;rcases h with h | ⟨b,o,rfl,h⟩;{exact .inl h};{refine .inr ⟨b,o,rfl,fun i e he=>?_⟩;obtain ⟨h1,u,h2,h3⟩:=h i e he;exact ⟨af h1 hb,u,af h2 hb,h3.below hb⟩}
theorem uJ.below {ss:List aY} (h:uJ w v ss) (hb:Bw w w'):uJ w' v ss:=by
 obtain ⟨p,c,rfl,h⟩:=h;refine ⟨p,c,rfl,?_⟩;rcases h with h | ⟨b,o,rfl,h⟩;{exact .inl h};{refine .inr ⟨b,o,rfl,fun i e he=>?_⟩;obtain ⟨h1,h2,u,h3,h4⟩:=h i e he;exact ⟨af h1 hb,af h2 hb,u,af h3 hb,h4.below hb⟩}
abbrev cY (e g x n:Int) (S N:Value):Value:=.agg #[.U e,.U g,.U x,.I n,S,N]
theorem kG (e g x t:Int) (p:Option Addr) (c n:Nat) (N:Value) (ss:List aY) (en:Hid (ss.length=n)) (w:World) (h:uJ w (.S p n c) ss) (hn:n<=1048576) (id:Int) (B:Bool) (eB:Hid ((ss.any fun s=>s.1==id)=B)) :
  Calls prog 89 #[cY e g x t (.S p n c) N,.U id] w fun r w'=>r=.returned (.bool B)/\Bw w w':=by
 have HR:=ae fun (w':World) (hb:Bw w w')=>h.below hb;clear h;go_enter func89,ntmps89;go_wp2_with fail;obtain ⟨W,hW⟩:=ax (w.alloc (.cells #[.U e,.U g,.U x,.I t,.S p n c,N] 27));have bW:=ju hW;have DO:W.cell? ⟨w.heap.size,4,none⟩=some (.S p n c):=by rw [hW];simp
 rw [<-hW];clear hW;have hS:=aa HR _ bW;have HS:=ae hS;have BW:=ae bW;clear hS bW HR
 go_loopw [5] (fun iv wr=>∃ k:Nat,k<=n/\iv=.I k/\Hid (((ss.take k).any fun s=>s.1==id)=false)/\wr=W) (fun iv _=>n-(intOf iv).toNat)
 case atStart=>exact ⟨0,Nat.zero_le _,rfl,(by show _=_;simp),rfl⟩
 case round =>(
 obtain ⟨k,hk,rfl,jS,rfl⟩:=hrel;by_cases bj:k<n;{
 have bm:=aT k n;have fL:k<ss.length:=by rw [aa en];exact bj
 obtain ⟨y,hy⟩:∃ y,ss[k]?=some y:=⟨_,aK fL⟩;obtain ⟨p',c',ev,hd⟩:=aa HS;simp only [Value.slice.injEq] at ev;obtain ⟨rfl,-,-⟩:=ev;obtain ⟨b,o,rfl,bG⟩:∃ b o,p=some ⟨b,o,none⟩/\∀ i s,ss[i]?=some s->wr.cell? ⟨b,o+i*3,none⟩=some (.U s.1):=by rcases hd with h0 | ⟨b,o,h1,h2⟩;{rw [h0] at fL;simp at fL};{exact ⟨b,o,h1,fun i s hi=>(h2 i s hi).1⟩}
 have zO:=bG k y hy;have HY:=ae hy;clear bG hd hy fL;by_cases hid:y.1=id;{
 have eT:B=true:=by rw [<-aa eB,List.any_eq_true];exact ⟨y,aF (aa HY),by simp [hid]⟩
 subst eT;have ac6:(y.1==id)=true:=by simp [hid]
 go_wp2;go_ret;exact ⟨rfl,BW⟩};{
 have ac6:(y.1==id)=false:=by simp [hid]
 have Mf:Hid (((ss.take (k+1)).any fun s=>s.1==id)=false):=by show _=_;rw [List.take_add_one,aa HY,List.any_append,aa jS];simp [ac6]
 go_wp2;go_roundw
 case rel=>exact ⟨k+1,by omega,by go_num,Mf,by first | rfl | trivial⟩
 case measure=>simp [intOf];omega}}
 {
 have bm:=dy k n;have eF:B=false:=by rw [<-aa eB];have:=aa jS;rwa [List.take_of_length_le (by rw [aa en];omega)] at this
 subst eF;go_wp2;go_ret;exact ⟨rfl,BW⟩})
def live (ss:List aY) (id:Int):Bool:=ss.any fun s=>s.1==id
def yy (ss:List aY) (ids:List Int) (i:Nat):Bool:=live ss (ids.getD i 0)&&(i==0||decide (ids.getD (i-1) 0<ids.getD i 0))
def gq (ss:List aY) (ids:List Int):Bool:=(List.range ids.length).all (yy ss ids)
theorem cM {k:Nat} (h:(List.range k).all f=true) (hk:f k=true):(List.range (k+1)).all f=true:=by
 rw [List.range_succ,List.all_append,h];simp [hk]
theorem dK {k n:Nat} (hk:k<n) (h:f k=false):(List.range n).all f=false:=by
 rw [List.all_eq_false];exact ⟨k,List.mem_range.2 hk,by simp [h]⟩
abbrev pD (w:World) (b:Nat) (e g x t:Int) (S N:Value):Prop:=w.cell? ⟨b,0,none⟩=some (.U e)/\w.cell? ⟨b,1,none⟩=some (.U g)/\w.cell? ⟨b,2,none⟩=some (.U x)/\w.cell? ⟨b,3,none⟩=some (.I t)/\w.cell? ⟨b,4,none⟩=some S/\w.cell? ⟨b,5,none⟩=some N
theorem pD.below {b:Nat} {e g x t:Int} {S N:Value} (h:pD w b e g x t S N) (hb:Bw w w'):pD w' b e g x t S N:=
 ⟨af h.1 hb,af h.2.1 hb,af h.2.2.1 hb,af h.2.2.2.1 hb,af h.2.2.2.2.1 hb,af h.2.2.2.2.2 hb⟩
theorem kW (e g x t:Int) (p q:Option Addr) (c n d m:Nat) (N:Value) (ss:List aY) (ids:List Int) (en:Hid (ss.length=n)) (em:Hid (ids.length=m)) (w:World) (h:uJ w (.S p n c) ss) (hi:nH w (.S q m d) ids) (hn:n<=1048576) (hm:m<=1048576) (B:Bool) (eB:Hid (gq ss ids=B)) :
  Calls prog 90 #[cY e g x t (.S p n c) N,.S q m d] w fun r w'=>r=.returned (.bool B)/\Bw w w':=by
 have HR:=ae fun (w':World) (hb:Bw w w')=>ag (h.below hb) (hi.below hb);clear h hi;go_enter func90,ntmps90;go_wp2_with fail;obtain ⟨W,hW⟩:=ax (w.alloc (.cells #[.U e,.U g,.U x,.I t,.S p n c,N] 27));have bW:=ju hW;have Pa:pD W w.heap.size e g x t (.S p n c) N:=by rw [hW];simp [pD]
 rw [<-hW];clear hW;have BW:=ae bW;have Pz:=ae Pa;clear bW Pa
 go_loopw [5] (fun iv wr=>∃ k:Nat,k<=m/\iv=.I k/\Hid ((List.range k).all (yy ss ids)=true)/\Bw W wr) (fun iv _=>m-(intOf iv).toNat)
 case atStart=>exact ⟨0,Nat.zero_le _,rfl,(by show _=_;rfl),Below.refl _ _⟩
 case round =>(
 obtain ⟨k,hk,rfl,iJ,aR⟩:=hrel;have BB:=ah BW aR;by_cases bj:k<m;{
 have bm:=aT k m;have fL:k<ids.length:=by rw [aa em];exact bj
 obtain ⟨hS,hU⟩:=aa HR _ BB;obtain ⟨b,o,rfl,bG⟩:∃ b o,q=some ⟨b,o,none⟩/\∀ i,i<m->wr.cell? ⟨b,o+i,none⟩=some (.U (ids.getD i 0)):=by obtain ⟨p',c',ev,hd⟩:=hU;simp only [Value.slice.injEq] at ev;obtain ⟨rfl,-,-⟩:=ev;rcases hd with h0 | ⟨b,o,h1,h2⟩;{rw [h0] at fL;simp at fL};{exact ⟨b,o,h1,fun i hi=>h2 i (by rw [aa em];exact hi)⟩}
 have i6:=Pz.below aR;have zO:=bG k bj;obtain ⟨y,ey⟩:=aH (ids.getD k 0);rw [ey] at zO;have Ov:=ae hS;obtain ⟨L,eL⟩:=aH (live ss y);have EL:Hid ((ss.any fun s=>s.1==y)=L):=eL;have gS:yy ss ids k=(L&&(k==0||decide (ids.getD (k-1) 0<y))):=by rw [yy,ey,eL]
 have hF:yy ss ids k=false->B=false:=fun h=>by rw [<-aa eB,gq,aa em];exact dK bj h
 clear hS hU fL;cases L with
 | false=>
  have eF:=hF (by rw [gS];rfl);subst eF;have K0:=ae (ag i6 zO);clear gS hF eL bG ey i6 zO;go_wp2_with fail;refine bO (fun w'=>pD w' w.heap.size e g x t (.S p n c) N/\w'.cell? ⟨b,o+k,none⟩=some (.U y)) (by exact K0) fun hS=>?_;refine gC 0 1 2 3 hS ?_;refine tn 4 hS ?_;refine ry [5] ?_;refine cn (fun KK hK=>?_) ?_;{refine lD (kG e g x t p c n N ss en _ (Ov.below aJ.drew) hn y false EL) ?_;rintro r w2 ⟨rfl,bk⟩;refine ⟨_,rfl,?_⟩;have cR:Bw wr w2:=ah (Below.refl wr.heap.size wr).drew bk;refine cg hK ⟨K0.1.below cR,af K0.2 cR⟩ fun hS=>?_;clear hK KK;refine fe 6 7 hS ?_;refine iI 8 9 10 11 hS ?_;refine iI 12 13 14 15 hS ?_;refine iI 16 17 18 19 hS ?_;refine sn 20 hS ?_;refine sn 21 hS ?_;refine tn 22 hS ?_;refine bu ?_;have b2:=ah BB cR;clear bk cR hS;go_wp2;go_ret;exact ⟨rfl,b2⟩};exact AllReadyH.nil
 | true=>
  by_cases ux:k=0;{
 have sT:Hid ((List.range (k+1)).all (yy ss ids)=true):=cM (aa iJ) (by rw [gS,ux];rfl);have HK0:=ae ux;have hp:¬ 0<k:=by omega
 have VH:¬ (0:Int)<(k:Int):=by omega
 have K0:=ae (ag i6 zO);clear gS hF eL bG ey ux i6 zO;go_wp2_with fail;refine bO (fun w'=>pD w' w.heap.size e g x t (.S p n c) N/\w'.cell? ⟨b,o+k,none⟩=some (.U y)) (by exact K0) fun hS=>?_;refine gC 0 1 2 3 hS ?_;refine tn 4 hS ?_;refine bH 5 fun KK hK=>?_;refine lD (kG e g x t p c n N ss en _ (Ov.below aJ.drew) hn y true EL) ?_;rintro r w2 ⟨rfl,bk⟩;refine ⟨_,rfl,?_⟩;have cR:Bw wr w2:=ah (Below.refl wr.heap.size wr).drew bk;refine cg hK ⟨K0.1.below cR,af K0.2 cR⟩ fun hS=>?_;clear hK KK;refine gC 6 7 8 9 hS ?_;refine tn 10 hS ?_;refine iI 11 12 13 14 hS ?_;refine iI 15 16 17 18 hS ?_;refine sn 19 hS ?_;refine sn 20 hS ?_;refine fe 21 22 hS ?_;refine bu ?_;have b2:=ah aR cR;clear bk cR hS;go_wp2;go_roundw
 case rel=>exact ⟨k+1,by omega,by go_num,sT,b2⟩
 case measure=>simp [intOf];omega}
  {
 obtain ⟨j,ej⟩:∃ j:Nat,(k:Int)-1=(j:Int):=⟨k-1,by omega⟩;have Gh:k-1=j:=by omega
 have Tw:=bG j (by omega);obtain ⟨z,ez⟩:=aH (ids.getD j 0);rw [ez] at Tw;rw [Gh,ez] at gS;have hp:0<k:=by omega
 have VH:=ja 0 k;have VW:=aT j m;have hj0:=dE 0 j;have wj:=fH j;by_cases hzy:z<y;{
 have hle:¬ y<=z:=by omega
 have VQ:decide (y<=z)=false:=by simp;omega
 have sT:Hid ((List.range (k+1)).all (yy ss ids)=true):=cM (aa iJ) (by rw [gS];simp [hzy]);clear hzy;have K0:=ae (ag i6 (ag zO Tw));clear gS hF eL bG ey ez ux i6 zO Tw Gh;go_wp2_with fail;refine bO (fun w'=>pD w' w.heap.size e g x t (.S p n c) N/\w'.cell? ⟨b,o+k,none⟩=some (.U y)/\w'.cell? ⟨b,o+j,none⟩=some (.U z)) (by exact K0) fun hS=>?_;refine gC 0 1 2 3 hS ?_;refine tn 4 hS ?_;refine bH 5 fun KK hK=>?_;refine lD (kG e g x t p c n N ss en _ (Ov.below aJ.drew) hn y true EL) ?_;rintro r w2 ⟨rfl,bk⟩;refine ⟨_,rfl,?_⟩;have cR:Bw wr w2:=ah (Below.refl wr.heap.size wr).drew bk;refine cg hK ⟨K0.1.below cR,af K0.2.1 cR,af K0.2.2 cR⟩ fun hS=>?_;clear hK KK;refine gy 6 7 8 9 10 11 12 13 hS ?_;refine gy 14 15 16 17 18 19 20 21 hS ?_;refine tn 22 hS ?_;refine bu ?_;have b2:=ah aR cR;clear bk cR hS;go_wp2;go_roundw
 case rel=>exact ⟨k+1,by omega,by go_num,sT,b2⟩
 case measure=>simp [intOf];omega}
 {
 have hle:y<=z:=by omega
 have VQ:decide (y<=z)=true:=by simp;omega
 have eF:=hF (by rw [gS];simp [hzy,ux]);subst eF;clear hzy;have K0:=ae (ag i6 (ag zO Tw));clear gS hF eL bG ey ez ux i6 zO Tw Gh;go_wp2_with fail;refine bO (fun w'=>pD w' w.heap.size e g x t (.S p n c) N/\w'.cell? ⟨b,o+k,none⟩=some (.U y)/\w'.cell? ⟨b,o+j,none⟩=some (.U z)) (by exact K0) fun hS=>?_;refine gC 0 1 2 3 hS ?_;refine tn 4 hS ?_;refine bH 5 fun KK hK=>?_;refine lD (kG e g x t p c n N ss en _ (Ov.below aJ.drew) hn y true EL) ?_;rintro r w2 ⟨rfl,bk⟩;refine ⟨_,rfl,?_⟩;have cR:Bw wr w2:=ah (Below.refl wr.heap.size wr).drew bk;refine cg hK ⟨K0.1.below cR,af K0.2.1 cR,af K0.2.2 cR⟩ fun hS=>?_;clear hK KK;refine gy 6 7 8 9 10 11 12 13 hS ?_;refine gy 14 15 16 17 18 19 20 21 hS ?_;refine tn 22 hS ?_;refine bu ?_;have b2:=ah BB cR;clear bk cR hS;go_wp2;go_ret;exact ⟨rfl,b2⟩}}};{
 have bm:=dy k m;have eT:B=true:=by
  rw [<-aa eB,gq,aa em];have:k=m:=by omega
  rw [<-this];exact iJ
 subst eT;go_wp2;go_ret;exact ⟨rfl,BB⟩})
end Go.Proofs.YtcfcafeciggjeaaGreatDoor
