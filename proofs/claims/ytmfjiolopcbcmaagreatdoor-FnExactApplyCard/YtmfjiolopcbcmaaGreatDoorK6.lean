import Derived.Test.YtmfjiolopcbcmaaGreatDoorK3
import Derived.Test.YtmfjiolopcbcmaaGreatDoorVPy
import Derived.Test.YtmfjiolopcbcmaaGreatDoorOPa
import Derived.Deep.DeepCutAuto
namespace Go.Proofs.YtmfjiolopcbcmaaGreatDoor
set_option maxHeartbeats 4000000
set_option linter.unusedVariables false
set_option linter.unusedSimpArgs false
set_option maxRecDepth 100000
open Go.ChangeShapes Go.WideShapes Go.ChangeAt Go.RowKit
variable {f:Nat->Bool} {v:Value} {w w':World}
theorem oK (p:Option Addr) (c n:Nat) (l:List Int) (en:Hid (l.length=n)) (w:World) (h:Rd w (.slice p n c) l) (hl:n<=2097152) (B:Bool) (eB:Hid (gS l=B)) :
  Calls Tryz.prog 157 #[.slice p n c] w fun e w'=>e=.returned (.bool B)/\Below w.heap.size w w':=by
 have HR:=ae h;clear h;by_cases h1:1<=n;{
 by_cases h16:n<=16;{
 have GI:¬ (n:Int)<1:=by omega
 have aJ8:¬ (16:Int)<(n:Int):=by omega
 obtain ⟨b,o,rfl,-,hc⟩:=HR.at (by rw [aa en];omega);go_enter Tryz.func157,Tryz.ntmps157;have bD:∀ (i:Nat) (w':World),i<n->Below w.heap.size w w'->w'.cell? ⟨b,o+i,none⟩=some (.int .u8 (l.getD i 0)):=fun i w' hi bu=>(bu.cell (p:=⟨b,o+i,none⟩) (World.block_lt_of_cell? w _ (hc i (by rw [aa en];exact hi)))).trans (hc i (by rw [aa en];exact hi));have HC:=ae bD;clear hc bD;go_wp2
 go_loopw [17] (fun i wr=>∃ k:Nat,k<=n/\i=.int .i64 k/\Hid (∀ j,j<k->mL (l.getD j 0)=true)/\Below w.heap.size w wr) (fun i _=>n-(intOf i).toNat)
 case atStart=>exact ⟨0,Nat.zero_le _,rfl,(fun j hj=>by omega),Below.refl _ _⟩
 case round =>(
 obtain ⟨k,hk,rfl,ic,aE⟩:=hrel;by_cases aU:k<n;{
 have aV:(k:Int)<(n:Int):=by omega
 have sQ:=aa HC k wr aU aE;obtain ⟨z,ez⟩:=aZ (l.getD k 0);rw [ez] at sQ;have EZ:=ae ez;clear ez;have nI:mL z=true->Hid (∀ j,j<k+1->mL (l.getD j 0)=true):=fun hz j hj=>by by_cases e:j=k;{rw [e,aa EZ];exact hz};{exact ic j (by omega)}
 have oW:mL z=false->B=false:=fun hz=>by
  rw [<-aa eB,gS];have:l.all mL=false:=by
   rw [List.all_eq_false];refine ⟨z,?_,by simp [hz]⟩;rw [<-aa EZ];have R8:k<l.length:=by rw [aa en];exact aU
   rw [show l.getD k 0=l[k] by simp [List.getD,R8]];exact List.getElem_mem R8
  rw [this];simp
 rcases Ca z with ⟨g1,g2,gb⟩ | ⟨g2,gb⟩ | ⟨g3,g4,gb⟩ | ⟨rfl,gb⟩ | ⟨g4,g1,g6,gb⟩ | ⟨rfl,gb⟩ | ⟨g3,g5,gb⟩;{
 have HN:=nI gb;clear nI oW;have g3:(48:Int)<=z:=by omega
 have g4:¬ z<=57:=by omega
 go_wp2;go_roundw
 case rel=>exact ⟨k+1,by omega,by go_num,HN,aE⟩
 case measure=>simp [intOf];omega}
 {
 have eF:=oW gb;subst eF;clear nI oW;have g1:(97:Int)<=z:=by omega
 have g2':¬ z<=122:=by omega
 have g3:(48:Int)<=z:=by omega
 have g4:¬ z<=57:=by omega
 have g5:(z != 45)=true:=by simp;omega
 have g6:(z != 95)=true:=by simp;omega
 go_wp2;go_ret;exact ⟨rfl,aE⟩};{
 have HN:=nI gb;clear nI oW;have g1:¬ (97:Int)<=z:=by omega
 go_wp2;go_roundw
 case rel=>exact ⟨k+1,by omega,by go_num,HN,aE⟩
 case measure=>simp [intOf];omega}
 {
 have HN:=nI gb;clear nI oW;go_wp2;go_roundw
 case rel=>exact ⟨k+1,by omega,by go_num,HN,aE⟩
 case measure=>simp [intOf];omega}
 {
 have eF:=oW gb;subst eF;clear nI oW;have g1':¬ (97:Int)<=z:=by omega
 have g3:(48:Int)<=z:=by omega
 have g4':¬ z<=57:=by omega
 have g5:(z != 45)=true:=by simp;omega
 have g6':(z != 95)=true:=by simp [g6]
 go_wp2;go_ret;exact ⟨rfl,aE⟩};{
 have HN:=nI gb;clear nI oW;go_wp2;go_roundw
 case rel=>exact ⟨k+1,by omega,by go_num,HN,aE⟩
 case measure=>simp [intOf];omega}
 {
 have eF:=oW gb;subst eF;clear nI oW;have g1:¬ (97:Int)<=z:=by omega
 have g3':¬ (48:Int)<=z:=by omega
 have g5':(z != 45)=true:=by simp [g5]
 have g6:(z != 95)=true:=by simp;omega
 go_wp2;go_ret;exact ⟨rfl,aE⟩}};{
 have aV:¬ (k:Int)<(n:Int):=by omega
 have e:k=n:=by omega
 have eT:B=true:=by
  rw [<-aa eB,gS,aa en];have:l.all mL=true:=by rw [List.all_eq_true];intro x hx;obtain ⟨i,hi,rfl⟩:=List.getElem_of_mem hx;have:=aa ic i (by rw [aa en] at hi;omega);rwa [show l.getD i 0=l[i] by simp [List.getD,hi]] at this
  simp [h1,h16,this]
 subst eT;go_wp2;go_ret;exact ⟨rfl,aE⟩})}
 {
 have GI:¬ (n:Int)<1:=by omega
 have aJ8:(16:Int)<(n:Int):=by omega
 have eF:B=false:=by rw [<-aa eB,gS,aa en];simp [h16]
 subst eF;go_enter Tryz.func157,Tryz.ntmps157;go_wp2;go_ret;exact ⟨rfl,Below.refl _ _⟩}};{
 have GI:(n:Int)<1:=by omega
 have eF:B=false:=by rw [<-aa eB,gS,aa en];simp [h1]
 subst eF;go_enter Tryz.func157,Tryz.ntmps157;go_wp2;go_ret;exact ⟨rfl,Below.refl _ _⟩}
theorem Hh (b o n c:Nat) (t:List Int) (en:t.length=n) (g:Nat) (w:World) (hc:∀ i,i<n->w.cell? ⟨b,o+i,none⟩=some (.int .u8 (t.getD i 0))) (hg:w.cell? ⟨g,0,none⟩=some (.int .u8 47)) (hB:cT t) (hn:n<=c) (aF9:c<=maxLen) (hl:n<=2097152) (hm:∃ m,w.cell? ⟨2,0,none⟩=some (.int .i64 m)) (K:Nat) (eK:(cR 47 t).length=K) :
  Calls Tryz.prog 156 #[.slice (some ⟨b,o,none⟩) n c,.slice (some ⟨g,0,none⟩) 1 1] w fun e w'=>e=.returned (.slice (some ⟨w.heap.size,0,none⟩) K K)/\(∀ j nm,(cR 47 t)[j]?=some nm->∃ p' c',w'.cell? ⟨w.heap.size,j,none⟩=some (.slice p' nm.length c')/\Rd w' (.slice p' nm.length c') nm)/\Below w.heap.size w w':=by
 obtain ⟨m,hm⟩:=hm;have Ze:∀ (g o i:Nat),(⟨g,o,none⟩:Addr).add i=⟨g,o+i,none⟩:=fun g o i=>by
  unfold Addr.add;split;{next h=>subst h;rfl}
  {rfl}
 obtain ⟨e1,e2⟩:=uC hB;refine (Any.bytes_Split Tryz.layS7 ⟨b,o,none⟩ ⟨g,0,none⟩ n c 1 1 t [47] m w en rfl hB (by intro y hy;simp at hy;subst hy;decide) (fun i hi=>by rw [Ze];exact hc i hi) (fun i hi=>by
  obtain rfl:i=0:=by omega
  exact hg) hn (by omega) (by decide) (by unfold maxLen at aF9;omega) (by decide) hm).mono ?_
 rintro e w' ⟨rfl,q,rfl⟩;have Zb:Below w.heap.size w ((w.alloc (.cells (Lib.splitV (Lib.bytesOf [47]) 0 (Lib.count (Lib.bytesOf t) (Lib.bytesOf [47])) ⟨b,o,none⟩ c (Lib.bytesOf t)).toArray (Tryz.layS7_ren.t 22))).drewN q):=⟨rfl,rfl,rfl,by simp,fun k hk=>Below.heap_alloc _ _ k hk⟩;rw [e2,eK];refine ⟨rfl,fun j nm hj=>?_,Zb⟩;have tZ:j<(Lib.splitV (Lib.bytesOf [47]) 0 (Lib.count (Lib.bytesOf t) (Lib.bytesOf [47])) ⟨b,o,none⟩ c (Lib.bytesOf t)).length:=by rw [Lib.splitV_length,e1,List.length_map];exact (aM.1 hj).1
 obtain ⟨a',off,len,cp,ev,h1,h2,h3,h4⟩:=Lib.splitV_spec (Lib.bytesOf [47]) 0 (by decide) (Nat.zero_le _) _ ⟨b,o,none⟩ c (Lib.bytesOf t) (by rw [Lib.bytesOf_length,en];exact hn) j _ (aH tZ);rw [e1,List.getElem?_map,hj] at h3;rw [Lib.bytesOf_length] at h2;have L6:nm=(t.drop off).take len:=by refine sY (QK hB nm (aL hj)) (fun z hz=>hB z (List.mem_of_mem_drop (List.mem_of_mem_take hz))) ?_;rw [Lib.bytesOf_take,Lib.bytesOf_drop];simpa using h3
 have VG:nm.length=len:=by rw [L6,List.length_take,List.length_drop];omega
 refine ⟨some a',cp,?_,?_⟩;{rw [World.cell?_drewN,World.cell?_alloc_new,List.getElem?_toArray,aH tZ,ev,VG]};{
 refine ⟨some a',cp,rfl,?_⟩;by_cases h0:len=0;{
 left
 exact List.length_eq_zero_iff.1 (by rw [VG];exact h0)};{
 right
 have ea:=h4 0 (by omega);rw [Ze,Nat.add_zero] at ea;refine ⟨b,o+off,?_,fun i hi=>?_⟩;{have:a'.add 0=a':=rfl;rw [<-this,ea]};{
 rw [VG] at hi;have jA:((w.alloc (.cells (Lib.splitV (Lib.bytesOf [47]) 0 (Lib.count (Lib.bytesOf t) (Lib.bytesOf [47])) ⟨b,o,none⟩ c (Lib.bytesOf t)).toArray (Tryz.layS7_ren.t 22))).drewN q).cell? ⟨b,o+(off+i),none⟩=some (.int .u8 (t.getD (off+i) 0)):=
  (Zb.cell (p:=⟨b,o+(off+i),none⟩) (World.block_lt_of_cell? w _ (hc (off+i) (by omega)))).trans (hc (off+i) (by omega))
 rw [Nat.add_assoc,jA,L6];have:((t.drop off).take len).getD i 0=t.getD (off+i) 0:=by simp [List.getD,List.getElem?_take,hi,List.getElem?_drop]
 rw [this]}}}
open Go.Proofs.Tryz
theorem QJ {t:List Int}:∀ n∈cR (47:Int) t,n.length<=t.length:=by
 induction t with
 | nil=>intro n hn;simp [cR] at hn;subst hn;simp
 | cons x l ih=>
  intro n hn;rw [cR] at hn;split at hn;{rcases List.mem_cons.1 hn with rfl | hn;{simp};{have:=ih n hn;simp;omega}};{
 cases hc:cR 47 l with
 | nil=>
  rw [hc] at hn;simp at hn;subst hn;simp
 | cons m ms=>
  rw [hc] at hn ih;rcases List.mem_cons.1 hn with rfl | hn;{have:=ih m (by simp);simp;omega};{have:=ih n (by simp [hn]);simp;omega}}
theorem EU (p:Option Addr) (c n:Nat) (l:List Int) (en:Hid (l.length=n)) (w:World) (h:Rd w (.slice p n c) l) (hb:Hid (cT l)) (hl:n<=1048576) (hcn:n<=c) (Qc:c<=maxLen) (hm:∃ m,w.cell? ⟨2,0,none⟩=some (.int .i64 m)) (B:Bool) (eB:Hid (vp l=B)) :
  Calls prog 141 #[.slice p n c] w fun e w'=>e=.returned (.bool B)/\Below w.heap.size w w':=by
 have HR:=ae h;have HM:=ae hm;clear h hm;by_cases UI:n=0;{
 subst UI;have eF:B=false:=by
  rw [<-aa eB,List.length_eq_zero_iff.1 (aa en)]
  rfl
 subst eF;go_enter func141,ntmps141;go_wp2;go_ret;exact ⟨rfl,Below.refl _ _⟩};have tW:((n:Int)==0)=false:=by simp [UI]
 obtain ⟨b,o,rfl,-,hc⟩:=HR.at (by rw [aa en];omega);obtain ⟨x,t,el⟩:∃ x t,l=x::t:=by
  cases l with
  | nil=>have:=aa en;simp at this;omega
  | cons x t=>exact ⟨x,t,rfl⟩
 have hx:w.cell? ⟨b,o,none⟩=some (.int .u8 x):=by have:=hc 0 (by rw [aa en];omega);rw [el] at this;exact this
 by_cases j9:x=47;{
 subst j9;have ent:t.length=n-1:=by have:=aa en;rw [el] at this;simp at this;omega
 have Sf:∀ i,i<n-1->w.cell? ⟨b,o+1+i,none⟩=some (.int .u8 (t.getD i 0)):=fun i hi=>by have:=hc (1+i) (by rw [aa en];omega);rw [el,<-Nat.add_assoc] at this;rw [this];simp [List.getD,Nat.add_comm 1 i]
 have Y8:cT t:=fun z hz=>aa hb z (by rw [el];simp [hz]);obtain ⟨K,eK⟩:=aZ ((cR 47 t).length);have cF:B=(decide (K<=8)&&(cR 47 t).all gS):=by rw [<-aa eB,el,vp,st,eK];simp
 have AX:K<=n+1:=by have h1:=(uC Y8).2;have h2:=Lib.count_le (Lib.bytesOf t) (Lib.bytesOf [47]);rw [Lib.bytesOf_length,ent] at h2;omega
 obtain ⟨N,eN⟩:=aZ (n-1);obtain ⟨C,eC⟩:=aZ (c-1);have Nw:∀ (o':Nat) (w':World),(N=0\/o'=o+1)->Below w.heap.size w w'->w'.cell? ⟨w.heap.size,0,none⟩=some (.int .u8 47)->Calls prog 156 #[.slice (some ⟨b,o',none⟩) N C,.slice (some ⟨w.heap.size,0,none⟩) 1 1] w' fun e w''=>e=.returned (.slice (some ⟨w'.heap.size,0,none⟩) K K)/\(∀ j nm,(cR 47 t)[j]?=some nm->∃ p' c',w''.cell? ⟨w'.heap.size,j,none⟩=some (.slice p' nm.length c')/\Rd w'' (.slice p' nm.length c') nm)/\Below w'.heap.size w' w'':=by intro o' w' Jf bu hg;refine Hh b o' N C t (by rw [ent,eN]) w.heap.size w' (fun i hi=>?_) hg Y8 (by omega) (by omega) (by omega) ?_ K eK;{rcases Jf with h0 | rfl;{omega};{exact (bu.cell (p:=⟨b,o+1+i,none⟩) (World.block_lt_of_cell? w _ (Sf i (by omega)))).trans (Sf i (by omega))}};{obtain ⟨m,hm⟩:=aa HM;exact ⟨m,(bu.cell (p:=⟨2,0,none⟩) (World.block_lt_of_cell? w _ hm)).trans hm⟩}
 have HSP:=ae Nw;have jl:=ae cF;have EK:=ae eK;have g1:(1:Int)<=(n:Int):=by omega
 have g2:(1:Int)<=(c:Int):=by omega
 have g3:(n:Int)<=(c:Int):=by omega
 have HN:=ae (ag eN eC);clear Nw cF Sf Y8 ent eK hc eN eC;have bA:Below w.heap.size w (w.alloc (.cells #[.int .u8 47] 5)):=ar.alloc ay _;have pX:∀ o',(N=0\/o'=o+1)->Calls prog 156 #[.slice (some ⟨b,o',none⟩) N C,.slice (some ⟨w.heap.size,0,none⟩) 1 1] (w.alloc (.cells #[.int .u8 47] 5)) fun e w''=>e=.returned (.slice (some ⟨w.heap.size+1,0,none⟩) K K)/\(∀ j nm,(cR 47 t)[j]?=some nm->∃ p' c',w''.cell? ⟨w.heap.size+1,j,none⟩=some (.slice p' nm.length c')/\Rd w'' (.slice p' nm.length c') nm)/\Below w.heap.size w w'':=by
  intro o' Jf;have e:(w.alloc (.cells #[.int .u8 47] 5)).heap.size=w.heap.size+1:=by simp
  have:=aa HSP o' _ Jf bA (by simp);rw [e] at this;refine this.mono ?_;rintro e1 w1 ⟨rfl,h1,h2⟩;refine ⟨rfl,h1,?_⟩;rw [<-e] at h2;exact ai bA h2
 have HF:=ae pX;clear pX bA;have hlen:∀ nm∈cR (47:Int) t,nm.length<=2097152:=fun nm oY=>by have h1:=QJ nm oY;have h2:=aa en;rw [el] at h2;simp at h2;omega
 have HL:=ae hlen;clear hlen el;by_cases jg:c=1;{
 subst jg;obtain rfl:n=1:=by omega
 go_enter func141,ntmps141;go_wp2_with fail;have hN0:(0:Nat)=N:=by have:=HN.1;omega
 have Lq:(0:Nat)=C:=by have:=HN.2;omega
 have Nw:=aa HF o (.inl hN0.symm);rw [<-hN0,<-Lq] at Nw;clear hN0 Lq;refine Nw.mono ?_;rintro e w2 ⟨rfl,PH,aG⟩;have HP:=ae PH;clear Nw PH;by_cases Jh:K<=8;{
 have UO:¬ (8:Int)<(K:Int):=by omega
 go_wp2
 go_loopw [24] (fun i wr=>∃ k:Nat,k<=K/\i=.int .i64 k/\Hid (∀ j nm,j<k->(cR 47 t)[j]?=some nm->gS nm=true)/\Below w2.heap.size w2 wr) (fun i _=>K-(intOf i).toNat)
 case atStart=>exact ⟨0,Nat.zero_le _,rfl,(fun j nm hj=>by omega),Below.refl _ _⟩
 case round =>(
 obtain ⟨k,hk,rfl,ic,aE⟩:=hrel;have BB:=ai aG aE;by_cases aU:k<K;{
 have aV:(k:Int)<(K:Int):=by omega
 obtain ⟨nm,oY⟩:∃ nm,(cR 47 t)[k]?=some nm:=⟨_,aH (by rw [aa EK];exact aU)⟩;obtain ⟨p',c',xZ,Cz⟩:=aa HP k nm oY;have Fg:=af xZ aE;have zK:=Cz.below aE;have UE:=aa HL nm (aL oY);obtain ⟨nl,iw⟩:=aZ nm.length;rw [iw] at Fg zK UE;have ENL:=ae iw;have HNM:=ae oY;clear xZ Cz iw oY;obtain ⟨R,eR⟩:=aZ (gS nm);have ER:=ae eR;clear eR;go_wp2_with fail;refine (oK p' c' nl nm ENL _ zK UE R ER).mono ?_;rintro e w3 ⟨rfl,cX⟩;have b3:=ai aE cX;cases R with
 | true=>
  have rJ:Hid (∀ j nm,j<k+1->(cR 47 t)[j]?=some nm->gS nm=true):=fun j nm' hj YQ=>by by_cases e:j=k;{subst e;have e2:=HNM.symm.trans YQ;simp at e2;rw [<-e2];exact aa ER};{exact ic j nm' (by omega) YQ}
  clear Fg zK cX aE BB;go_wp2;go_roundw
  case rel=>exact ⟨k+1,by omega,by go_num,rJ,b3⟩
  case measure=>simp [intOf];omega
 | false=>
  have eF:B=false:=by
   rw [aa jl];have:(cR 47 t).all gS=false:=by rw [List.all_eq_false];exact ⟨nm,aL (aa HNM),by simp [aa ER]⟩
   rw [this];simp
  subst eF;clear Fg zK;go_wp2;go_ret;exact ⟨rfl,ai BB cX⟩};{
 have aV:¬ (k:Int)<(K:Int):=by omega
 have eT:B=true:=by
  rw [aa jl];have:(cR 47 t).all gS=true:=by rw [List.all_eq_true];intro nm oY;obtain ⟨i,hi,rfl⟩:=List.getElem_of_mem oY;exact aa ic i _ (by rw [aa EK] at hi;omega) (aH hi)
  simp [this,Jh]
 subst eT;go_wp2;go_ret;exact ⟨rfl,BB⟩})}
 {
 have UO:(8:Int)<(K:Int):=by omega
 have eF:B=false:=by rw [aa jl];simp [Jh]
 subst eF;go_wp2;go_ret;exact ⟨rfl,aG⟩}};{
 have bE3:¬ (c:Int)=1:=by omega
 go_enter func141,ntmps141;go_wp2_with fail;have Nw:=aa HF (o+1) (.inr rfl);rw [<-HN.1,<-HN.2] at Nw;refine Nw.mono ?_;rintro e w2 ⟨rfl,PH,aG⟩;have HP:=ae PH;clear Nw PH;by_cases Jh:K<=8;{
 have UO:¬ (8:Int)<(K:Int):=by omega
 go_wp2
 go_loopw [24] (fun i wr=>∃ k:Nat,k<=K/\i=.int .i64 k/\Hid (∀ j nm,j<k->(cR 47 t)[j]?=some nm->gS nm=true)/\Below w2.heap.size w2 wr) (fun i _=>K-(intOf i).toNat)
 case atStart=>exact ⟨0,Nat.zero_le _,rfl,(fun j nm hj=>by omega),Below.refl _ _⟩
 case round =>(
 obtain ⟨k,hk,rfl,ic,aE⟩:=hrel;have BB:=ai aG aE;by_cases aU:k<K;{
 have aV:(k:Int)<(K:Int):=by omega
 obtain ⟨nm,oY⟩:∃ nm,(cR 47 t)[k]?=some nm:=⟨_,aH (by rw [aa EK];exact aU)⟩;obtain ⟨p',c',xZ,Cz⟩:=aa HP k nm oY;have Fg:=af xZ aE;have zK:=Cz.below aE;have UE:=aa HL nm (aL oY);obtain ⟨nl,iw⟩:=aZ nm.length;rw [iw] at Fg zK UE;have ENL:=ae iw;have HNM:=ae oY;clear xZ Cz iw oY;obtain ⟨R,eR⟩:=aZ (gS nm);have ER:=ae eR;clear eR;go_wp2_with fail;refine (oK p' c' nl nm ENL _ zK UE R ER).mono ?_;rintro e w3 ⟨rfl,cX⟩;have b3:=ai aE cX;cases R with
 | true=>
  have rJ:Hid (∀ j nm,j<k+1->(cR 47 t)[j]?=some nm->gS nm=true):=fun j nm' hj YQ=>by by_cases e:j=k;{subst e;have e2:=HNM.symm.trans YQ;simp at e2;rw [<-e2];exact aa ER};{exact ic j nm' (by omega) YQ}
  clear Fg zK cX aE BB;go_wp2;go_roundw
  case rel=>exact ⟨k+1,by omega,by go_num,rJ,b3⟩
  case measure=>simp [intOf];omega
 | false=>
  have eF:B=false:=by
   rw [aa jl];have:(cR 47 t).all gS=false:=by rw [List.all_eq_false];exact ⟨nm,aL (aa HNM),by simp [aa ER]⟩
   rw [this];simp
  subst eF;clear Fg zK;go_wp2;go_ret;exact ⟨rfl,ai BB cX⟩};{
 have aV:¬ (k:Int)<(K:Int):=by omega
 have eT:B=true:=by
  rw [aa jl];have:(cR 47 t).all gS=true:=by rw [List.all_eq_true];intro nm oY;obtain ⟨i,hi,rfl⟩:=List.getElem_of_mem oY;exact aa ic i _ (by rw [aa EK] at hi;omega) (aH hi)
  simp [this,Jh]
 subst eT;go_wp2;go_ret;exact ⟨rfl,BB⟩})}
 {
 have UO:(8:Int)<(K:Int):=by omega
 have eF:B=false:=by rw [aa jl];simp [Jh]
 subst eF;go_wp2;go_ret;exact ⟨rfl,aG⟩}}};{
 have hx1:(x==47)=false:=by simp [j9]
 have hx2:(x != 47)=true:=by simp [j9]
 have eF:B=false:=by rw [<-aa eB,el,vp];exact BH j9
 subst eF;go_enter func141,ntmps141;go_wp2;go_ret;exact ⟨rfl,Below.refl _ _⟩}
theorem uD (p:Option Addr) (c n:Nat) (l:List Int) (en:Hid (l.length=n)) (w:World) (h:Rd w (.slice p n c) l) (hb:Hid (cT l)) (hl:n<=1048576) (B:Bool) (eB:Hid (vp l=B)) :
  Calls prog 58 #[.slice p n c] w fun e w'=>e=.returned (.bool B)/\Below w.heap.size w w':=by
 go_enter func58,ntmps58;go_wp2_with fail;refine (Cl p c n l en _ h hb hl B eB).mono ?_;rintro e w1 ⟨⟨v,rfl⟩,aK⟩;go_wp2;go_ret;exact ⟨rfl,aK⟩
abbrev Ev:=Int × List Int
abbrev aR:=Int × Int × List Ev
structure aA where
 path:List Int
 value:List Int
 owner:Int
 mode:Int
 holders:List Int
 aC:Int
 gen:Int
 watchers:List Int
def iA (w:World) (v:Value) (ns:List Int):Prop:=
 ∃ (p:Option Addr) (c:Nat),v=.slice p ns.length c/\(ns=[]\/∃ b o,p=some ⟨b,o,none⟩/\∀ i,i<ns.length->w.cell? ⟨b,o+i,none⟩=some (.int .u64 (ns.getD i 0)))
def nS (w:World) (v:Value) (es:List Ev):Prop:=
 ∃ (p:Option Addr) (c:Nat),v=.slice p es.length c/\(es=[]\/∃ b o,p=some ⟨b,o,none⟩/\∀ i e,es[i]?=some e->w.cell? ⟨b,o+i*2,none⟩=some (.int .i64 e.1)/\∃ u,w.cell? ⟨b,o+i*2+1,none⟩=some u/\Rd w u e.2)
def nR (w:World) (v:Value) (ss:List aR):Prop:=
 ∃ (p:Option Addr) (c:Nat),v=.slice p ss.length c/\(ss=[]\/∃ b o,p=some ⟨b,o,none⟩/\∀ i s,ss[i]?=some s->w.cell? ⟨b,o+i*3,none⟩=some (.int .u64 s.1)/\w.cell? ⟨b,o+i*3+1,none⟩=some (.int .i64 s.2.1)/\∃ u,w.cell? ⟨b,o+i*3+2,none⟩=some u/\nS w u s.2.2)
theorem iA.below {ns:List Int} (h:iA w v ns) (hb:Below w.heap.size w w'):iA w' v ns:=by
 obtain ⟨p,c,rfl,h⟩:=h;refine ⟨p,c,rfl,?_⟩;rcases h with h | ⟨b,o,rfl,h⟩;{exact .inl h};{exact .inr ⟨b,o,rfl,fun i hi=>af (h i hi) hb⟩}
theorem nS.below {es:List Ev} (h:nS w v es) (hb:Below w.heap.size w w'):nS w' v es:=by
 obtain ⟨p,c,rfl,h⟩:=h;refine ⟨p,c,rfl,?_⟩;rcases h with h | ⟨b,o,rfl,h⟩;{exact .inl h};{refine .inr ⟨b,o,rfl,fun i e he=>?_⟩;obtain ⟨h1,u,h2,h3⟩:=h i e he;exact ⟨af h1 hb,u,af h2 hb,h3.below hb⟩}
theorem nR.below {ss:List aR} (h:nR w v ss) (hb:Below w.heap.size w w'):nR w' v ss:=by
 obtain ⟨p,c,rfl,h⟩:=h;refine ⟨p,c,rfl,?_⟩;rcases h with h | ⟨b,o,rfl,h⟩;{exact .inl h};{refine .inr ⟨b,o,rfl,fun i e he=>?_⟩;obtain ⟨h1,h2,u,h3,h4⟩:=h i e he;exact ⟨af h1 hb,af h2 hb,u,af h3 hb,h4.below hb⟩}
abbrev cL (e g x n:Int) (S N:Value):Value:=.agg #[.int .u64 e,.int .u64 g,.int .u64 x,.int .i64 n,S,N]
theorem j8 (e g x t:Int) (p:Option Addr) (c n:Nat) (N:Value) (ss:List aR) (en:Hid (ss.length=n)) (w:World) (h:nR w (.slice p n c) ss) (hn:n<=1048576) (id:Int) (B:Bool) (eB:Hid ((ss.any fun s=>s.1==id)=B)) :
  Calls prog 94 #[cL e g x t (.slice p n c) N,.int .u64 id] w fun r w'=>r=.returned (.bool B)/\Below w.heap.size w w':=by
 have HR:=ae fun (w':World) (hb:Below w.heap.size w w')=>h.below hb;clear h;go_enter func94,ntmps94;go_wp2_with fail;obtain ⟨W,hW⟩:=ax (w.alloc (.cells #[.int .u64 e,.int .u64 g,.int .u64 x,.int .i64 t,.slice p n c,N] 35));have bW:Below w.heap.size w W:=by rw [hW];exact ar.alloc ay _
 have Af:W.cell? ⟨w.heap.size,4,none⟩=some (.slice p n c):=by rw [hW];simp
 rw [<-hW];clear hW;have hS:=aa HR _ bW;have HS:=ae hS;have BW:=ae bW;clear hS bW HR
 go_loopw [5] (fun iv wr=>∃ k:Nat,k<=n/\iv=.int .i64 k/\Hid (((ss.take k).any fun s=>s.1==id)=false)/\wr=W) (fun iv _=>n-(intOf iv).toNat)
 case atStart=>exact ⟨0,Nat.zero_le _,rfl,(by show _=_;simp),rfl⟩
 case round =>(
 obtain ⟨k,hk,rfl,kc,rfl⟩:=hrel;by_cases aU:k<n;{
 have aV:(k:Int)<(n:Int):=by omega
 have bH:k<ss.length:=by rw [aa en];exact aU
 obtain ⟨y,hy⟩:∃ y,ss[k]?=some y:=⟨_,aH bH⟩;obtain ⟨p',c',ev,hd⟩:=aa HS;simp only [Value.slice.injEq] at ev;obtain ⟨rfl,-,-⟩:=ev;obtain ⟨b,o,rfl,bD⟩:∃ b o,p=some ⟨b,o,none⟩/\∀ i s,ss[i]?=some s->wr.cell? ⟨b,o+i*3,none⟩=some (.int .u64 s.1):=by rcases hd with h0 | ⟨b,o,h1,h2⟩;{rw [h0] at bH;simp at bH};{exact ⟨b,o,h1,fun i s hi=>(h2 i s hi).1⟩}
 have sQ:=bD k y hy;have HY:=ae hy;clear bD hd hy bH;by_cases hid:y.1=id;{
 have eT:B=true:=by rw [<-aa eB,List.any_eq_true];exact ⟨y,aL (aa HY),by simp [hid]⟩
 subst eT;have YS:(y.1==id)=true:=by simp [hid]
 go_wp2;go_ret;exact ⟨rfl,BW⟩};{
 have YS:(y.1==id)=false:=by simp [hid]
 have KF:Hid (((ss.take (k+1)).any fun s=>s.1==id)=false):=by show _=_;rw [List.take_add_one,aa HY,List.any_append,aa kc];simp [YS]
 go_wp2;go_roundw
 case rel=>exact ⟨k+1,by omega,by go_num,KF,by first | rfl | trivial⟩
 case measure=>simp [intOf];omega}}
 {
 have aV:¬ (k:Int)<(n:Int):=by omega
 have eF:B=false:=by rw [<-aa eB];have:=aa kc;rwa [List.take_of_length_le (by rw [aa en];omega)] at this
 subst eF;go_wp2;go_ret;exact ⟨rfl,BW⟩})
def live (ss:List aR) (id:Int):Bool:=ss.any fun s=>s.1==id
def zI (ss:List aR) (ids:List Int) (i:Nat):Bool:=live ss (ids.getD i 0)&&(i==0||decide (ids.getD (i-1) 0<ids.getD i 0))
def fV (ss:List aR) (ids:List Int):Bool:=(List.range ids.length).all (zI ss ids)
theorem bQ {k:Nat} (h:(List.range k).all f=true) (hk:f k=true):(List.range (k+1)).all f=true:=by
 rw [List.range_succ,List.all_append,h];simp [hk]
theorem dB {k n:Nat} (hk:k<n) (h:f k=false):(List.range n).all f=false:=by
 rw [List.all_eq_false];exact ⟨k,List.mem_range.2 hk,by simp [h]⟩
abbrev js (w:World) (b:Nat) (e g x t:Int) (S N:Value):Prop:=w.cell? ⟨b,0,none⟩=some (.int .u64 e)/\w.cell? ⟨b,1,none⟩=some (.int .u64 g)/\w.cell? ⟨b,2,none⟩=some (.int .u64 x)/\w.cell? ⟨b,3,none⟩=some (.int .i64 t)/\w.cell? ⟨b,4,none⟩=some S/\w.cell? ⟨b,5,none⟩=some N
theorem js.below {b:Nat} {e g x t:Int} {S N:Value} (h:js w b e g x t S N) (hb:Below w.heap.size w w'):js w' b e g x t S N:=
 ⟨af h.1 hb,af h.2.1 hb,af h.2.2.1 hb,af h.2.2.2.1 hb,af h.2.2.2.2.1 hb,af h.2.2.2.2.2 hb⟩
theorem kq (e g x t:Int) (p q:Option Addr) (c n d m:Nat) (N:Value) (ss:List aR) (ids:List Int) (en:Hid (ss.length=n)) (em:Hid (ids.length=m)) (w:World) (h:nR w (.slice p n c) ss) (hi:iA w (.slice q m d) ids) (hn:n<=1048576) (hm:m<=1048576) (B:Bool) (eB:Hid (fV ss ids=B)) :
  Calls prog 95 #[cL e g x t (.slice p n c) N,.slice q m d] w fun r w'=>r=.returned (.bool B)/\Below w.heap.size w w':=by
 have HR:=ae fun (w':World) (hb:Below w.heap.size w w')=>ag (h.below hb) (hi.below hb);clear h hi;go_enter func95,ntmps95;go_wp2_with fail;obtain ⟨W,hW⟩:=ax (w.alloc (.cells #[.int .u64 e,.int .u64 g,.int .u64 x,.int .i64 t,.slice p n c,N] 35));have bW:Below w.heap.size w W:=by rw [hW];exact ar.alloc ay _
 have sw:js W w.heap.size e g x t (.slice p n c) N:=by rw [hW];simp [js]
 rw [<-hW];clear hW;have BW:=ae bW;have Ol:=ae sw;clear bW sw
 go_loopw [5] (fun iv wr=>∃ k:Nat,k<=m/\iv=.int .i64 k/\Hid ((List.range k).all (zI ss ids)=true)/\Below W.heap.size W wr) (fun iv _=>m-(intOf iv).toNat)
 case atStart=>exact ⟨0,Nat.zero_le _,rfl,(by show _=_;rfl),Below.refl _ _⟩
 case round =>(
 obtain ⟨k,hk,rfl,ic,aE⟩:=hrel;have BB:=ai BW aE;by_cases aU:k<m;{
 have aV:(k:Int)<(m:Int):=by omega
 have bH:k<ids.length:=by rw [aa em];exact aU
 obtain ⟨hS,hU⟩:=aa HR _ BB;obtain ⟨b,o,rfl,bD⟩:∃ b o,q=some ⟨b,o,none⟩/\∀ i,i<m->wr.cell? ⟨b,o+i,none⟩=some (.int .u64 (ids.getD i 0)):=by obtain ⟨p',c',ev,hd⟩:=hU;simp only [Value.slice.injEq] at ev;obtain ⟨rfl,-,-⟩:=ev;rcases hd with h0 | ⟨b,o,h1,h2⟩;{rw [h0] at bH;simp at bH};{exact ⟨b,o,h1,fun i hi=>h2 i (by rw [aa em];exact hi)⟩}
 have i6:=Ol.below aE;have sQ:=bD k aU;obtain ⟨y,ey⟩:=aZ (ids.getD k 0);rw [ey] at sQ;have HSS:=ae hS;obtain ⟨L,eL⟩:=aZ (live ss y);have EL:Hid ((ss.any fun s=>s.1==y)=L):=eL;have dE:zI ss ids k=(L&&(k==0||decide (ids.getD (k-1) 0<y))):=by rw [zI,ey,eL]
 have hF:zI ss ids k=false->B=false:=fun h=>by rw [<-aa eB,fV,aa em];exact dB aU h
 clear hS hU bH;cases L with
 | false=>
  have eF:=hF (by rw [dE];rfl);subst eF;have K0:=ae (ag i6 sQ);clear dE hF eL bD ey i6 sQ;go_wp2_with fail;refine wp_region_noPanic ?_;refine wp_region_held_drew (S:=fun w'=>js w' w.heap.size e g x t (.slice p n c) N/\w'.cell? ⟨b,o+k,none⟩=some (.int .u64 y)) (by kernel_rfl) (by exact K0) (fun hS=>?_);refine gD 0 1 2 3 hS ?_;refine tn 4 hS ?_;refine ry [5] ?_;refine cn (fun KK hK=>?_) ?_;{refine oy (j8 e g x t p c n N ss en _ (HSS.below ar.drew) hn y false EL) ?_;rintro r w2 ⟨rfl,aG⟩;refine ⟨_,rfl,?_⟩;have bu:Below wr.heap.size wr w2:=ai (Below.refl wr.heap.size wr).drew aG;refine bM hK ⟨K0.1.below bu,af K0.2 bu⟩ fun hS=>?_;clear hK KK;refine fq 6 7 hS ?_;refine sn 8 hS ?_;refine sn 9 hS ?_;refine sn 10 hS ?_;refine sn 11 hS ?_;refine sn 12 hS ?_;refine sn 13 hS ?_;refine sn 14 hS ?_;refine sn 15 hS ?_;refine sn 16 hS ?_;refine sn 17 hS ?_;refine sn 18 hS ?_;refine sn 19 hS ?_;refine sn 20 hS ?_;refine sn 21 hS ?_;refine tn 22 hS ?_;refine wpAnyH_done (by kernel_rfl) ?_ _;refine bc ?_;have b2:=ai BB bu;clear aG bu hS;go_wp2;go_ret;exact ⟨rfl,b2⟩};exact AllReadyH.nil
 | true=>
  by_cases xX:k=0;{
 have rJ:Hid ((List.range (k+1)).all (zI ss ids)=true):=bQ (aa ic) (by rw [dE,xX];rfl);have HK0:=ae xX;have hp:¬ 0<k:=by omega
 have UC:¬ (0:Int)<(k:Int):=by omega
 have K0:=ae (ag i6 sQ);clear dE hF eL bD ey xX i6 sQ;go_wp2_with fail;refine wp_region_noPanic ?_;refine wp_region_held_drew (S:=fun w'=>js w' w.heap.size e g x t (.slice p n c) N/\w'.cell? ⟨b,o+k,none⟩=some (.int .u64 y)) (by kernel_rfl) (by exact K0) (fun hS=>?_);refine gD 0 1 2 3 hS ?_;refine tn 4 hS ?_;refine bR 5 fun KK hK=>?_;refine oy (j8 e g x t p c n N ss en _ (HSS.below ar.drew) hn y true EL) ?_;rintro r w2 ⟨rfl,aG⟩;refine ⟨_,rfl,?_⟩;have bu:Below wr.heap.size wr w2:=ai (Below.refl wr.heap.size wr).drew aG;refine bM hK ⟨K0.1.below bu,af K0.2 bu⟩ fun hS=>?_;clear hK KK;refine gD 6 7 8 9 hS ?_;refine tn 10 hS ?_;refine sn 11 hS ?_;refine sn 12 hS ?_;refine sn 13 hS ?_;refine sn 14 hS ?_;refine sn 15 hS ?_;refine sn 16 hS ?_;refine sn 17 hS ?_;refine sn 18 hS ?_;refine sn 19 hS ?_;refine sn 20 hS ?_;refine fq 21 22 hS ?_;refine wpAnyH_done (by kernel_rfl) ?_ _;refine bc ?_;have b2:=ai aE bu;clear aG bu hS;go_wp2;go_roundw
 case rel=>exact ⟨k+1,by omega,by go_num,rJ,b2⟩
 case measure=>simp [intOf];omega}
  {
 obtain ⟨j,ej⟩:∃ j:Nat,(k:Int)-1=(j:Int):=⟨k-1,by omega⟩;have AY:k-1=j:=by omega
 have Qa:=bD j (by omega);obtain ⟨z,ez⟩:=aZ (ids.getD j 0);rw [ez] at Qa;rw [AY,ez] at dE;have hp:0<k:=by omega
 have UC:(0:Int)<(k:Int):=by omega
 have Sa:(j:Int)<(m:Int):=by omega
 have YR:(0:Int)<=(j:Int):=by omega
 have wj:IntKind.i64.wrap (j:Int)=(j:Int):=IntWalk.i64_in _ (by omega);by_cases hzy:z<y;{
 have hle:¬ y<=z:=by omega
 have UM:decide (y<=z)=false:=by simp;omega
 have rJ:Hid ((List.range (k+1)).all (zI ss ids)=true):=bQ (aa ic) (by rw [dE];simp [hzy]);clear hzy;have K0:=ae (ag i6 (ag sQ Qa));clear dE hF eL bD ey ez xX i6 sQ Qa AY;go_wp2_with fail;refine wp_region_noPanic ?_;refine wp_region_held_drew (S:=fun w'=>js w' w.heap.size e g x t (.slice p n c) N/\w'.cell? ⟨b,o+k,none⟩=some (.int .u64 y)/\w'.cell? ⟨b,o+j,none⟩=some (.int .u64 z)) (by kernel_rfl) (by exact K0) (fun hS=>?_);refine gD 0 1 2 3 hS ?_;refine tn 4 hS ?_;refine bR 5 fun KK hK=>?_;refine oy (j8 e g x t p c n N ss en _ (HSS.below ar.drew) hn y true EL) ?_;rintro r w2 ⟨rfl,aG⟩;refine ⟨_,rfl,?_⟩;have bu:Below wr.heap.size wr w2:=ai (Below.refl wr.heap.size wr).drew aG;refine bM hK ⟨K0.1.below bu,af K0.2.1 bu,af K0.2.2 bu⟩ fun hS=>?_;clear hK KK;refine fL 6 7 8 9 10 11 12 13 hS ?_;refine fL 14 15 16 17 18 19 20 21 hS ?_;refine tn 22 hS ?_;refine wpAnyH_done (by kernel_rfl) ?_ _;refine bc ?_;have b2:=ai aE bu;clear aG bu hS;go_wp2;go_roundw
 case rel=>exact ⟨k+1,by omega,by go_num,rJ,b2⟩
 case measure=>simp [intOf];omega}
 {
 have hle:y<=z:=by omega
 have UM:decide (y<=z)=true:=by simp;omega
 have eF:=hF (by rw [dE];simp [hzy,xX]);subst eF;clear hzy;have K0:=ae (ag i6 (ag sQ Qa));clear dE hF eL bD ey ez xX i6 sQ Qa AY;go_wp2_with fail;refine wp_region_noPanic ?_;refine wp_region_held_drew (S:=fun w'=>js w' w.heap.size e g x t (.slice p n c) N/\w'.cell? ⟨b,o+k,none⟩=some (.int .u64 y)/\w'.cell? ⟨b,o+j,none⟩=some (.int .u64 z)) (by kernel_rfl) (by exact K0) (fun hS=>?_);refine gD 0 1 2 3 hS ?_;refine tn 4 hS ?_;refine bR 5 fun KK hK=>?_;refine oy (j8 e g x t p c n N ss en _ (HSS.below ar.drew) hn y true EL) ?_;rintro r w2 ⟨rfl,aG⟩;refine ⟨_,rfl,?_⟩;have bu:Below wr.heap.size wr w2:=ai (Below.refl wr.heap.size wr).drew aG;refine bM hK ⟨K0.1.below bu,af K0.2.1 bu,af K0.2.2 bu⟩ fun hS=>?_;clear hK KK;refine fL 6 7 8 9 10 11 12 13 hS ?_;refine fL 14 15 16 17 18 19 20 21 hS ?_;refine tn 22 hS ?_;refine wpAnyH_done (by kernel_rfl) ?_ _;refine bc ?_;have b2:=ai BB bu;clear aG bu hS;go_wp2;go_ret;exact ⟨rfl,b2⟩}}};{
 have aV:¬ (k:Int)<(m:Int):=by omega
 have eT:B=true:=by
  rw [<-aa eB,fV,aa em];have:k=m:=by omega
  rw [<-this];exact ic
 subst eT;go_wp2;go_ret;exact ⟨rfl,BB⟩})
end Go.Proofs.YtmfjiolopcbcmaaGreatDoor
