import Derived.Test.YtjjnidignljppaaGreatDoorK3
import Derived.Test.YtjjnidignljppaaGreatDoorVPy
import Derived.Test.YtjjnidignljppaaGreatDoorOPa
import Derived.Deep.DeepCutAuto
namespace Go.Proofs.YtjjnidignljppaaGreatDoor
set_option maxHeartbeats 4000000
set_option linter.all false
set_option maxRecDepth 100000
open Go.ChangeShapes Go.WideShapes Go.ChangeAt Go.RowKit
variable {B:Bool}{N v:Value}{e g t x:Int}{f:Nat->Bool}{l:LI}{p:OA}
def vt{c n:Nat}(en:Hid (l.length=n)){w:World}(h:Rd w (.S p n c) l)(hl:n<=2097152)(eB:Hid (kn l=B)):Calls Tryz.prog 223 #[.S p n c] w fun e w'=>e=.returned (.bool B)/\Bw w w':=by
 have HR:=af h;clear h;by_cases h1:1<=n;{
 by_cases h16:n<=16;{
 have h1':¬(n:Int)<1:=ae;have cm4:¬(16:Int)<(n:Int):=ae;obtain⟨b,o,rfl,-,hc⟩:=HR.at (by rw[aa en];omega);go_enter Tryz.func223,Tryz.ntmps223;have cO:∀(i:Nat)(w':World),i<n->Bw w w'->w'.cell? ⟨b,o+i,none⟩=some (.int .u8 (l.getD i 0)):=fun i w' hi bL=>(bL.cell (p:=⟨b,o+i,none⟩) (pI w _ (hc i (by rw[aa en];exact hi)))).trans (hc i (by rw[aa en];exact hi));have HC:=af cO;clear hc cO;go_wp2
 go_loopw[17](fun i wr=>∃k:Nat,k<=n/\i=.I k/\Hid (∀j,j<k->tJ (l.getD j 0)=true)/\Bw w wr) (fun i _=>n-(intOf i).toNat)
 exact⟨0,gq _,rfl,(fun j hj=>ae),cW _ _⟩;{
 obtain⟨k,hk,rfl,iC,aG⟩:=hrel;by_cases aX:k<n;{
 have bu:=aP k n;have zE:=aa HC k wr aX aG;obtain⟨z,ez⟩:=aI (l.getD k 0);rw[ez]at zE;have EZ:=af ez;clear ez;have uy:tJ z=true->Hid (∀j,j<k+1->tJ (l.getD j 0)=true):=fun hz j hj=>by by_cases e:j=k;{rw[e,aa EZ];exact hz};{exact iC j ae}
 have vF:tJ z=false->B=false:=fun hz=>by
  rw[<-aa eB,kn];have:l.all tJ=false:=by
   rw[NU];refine⟨z,?_,by simp[hz]⟩;rw[<-aa EZ];have hk':k<l.length:=by rw[aa en];exact aX
   rw[show l.getD k 0=l[k] by simp[List.getD,hk']];exact Hl hk'
  rw[this];simp
 rcases Np z with⟨g1,g2,gb⟩|⟨g2,gb⟩|⟨g3,g4,gb⟩|⟨rfl,gb⟩|⟨g4,g1,g6,gb⟩|⟨rfl,gb⟩|⟨g3,g5,gb⟩;{have HN:=uy gb;clear uy vF;have g3:(48:Int)<=z:=ae;have g4:¬z<=57:=ae;go_wp2;go_roundw;exact⟨k+1,ae,by go_num,HN,aG⟩;exact bG};{
 have eF:=vF gb;subst eF;clear uy vF;have g1:(97:Int)<=z:=ae;have g2':¬z<=122:=ae;have g3:(48:Int)<=z:=ae;have g4:¬z<=57:=ae;have g5:(z != 45)=true:=by simp;omega
 have g6:(z != 95)=true:=by simp;omega
 go_wp2;go_ret;exact⟨rfl,aG⟩};{have HN:=uy gb;clear uy vF;have g1:¬(97:Int)<=z:=ae;go_wp2;go_roundw;exact⟨k+1,ae,by go_num,HN,aG⟩;exact bG};{have HN:=uy gb;clear uy vF;go_wp2;go_roundw;exact⟨k+1,ae,by go_num,HN,aG⟩;exact bG};{
 have eF:=vF gb;subst eF;clear uy vF;have g1':¬(97:Int)<=z:=ae;have g3:(48:Int)<=z:=ae;have g4':¬z<=57:=ae;have g5:(z != 45)=true:=by simp;omega
 have g6':(z != 95)=true:=by simp[g6]
 go_wp2;go_ret;exact⟨rfl,aG⟩};{have HN:=uy gb;clear uy vF;go_wp2;go_roundw;exact⟨k+1,ae,by go_num,HN,aG⟩;exact bG};{
 have eF:=vF gb;subst eF;clear uy vF;have g1:¬(97:Int)<=z:=ae;have g3':¬(48:Int)<=z:=ae;have g5':(z != 45)=true:=by simp[g5]
 have g6:(z != 95)=true:=by simp;omega
 go_wp2;go_ret;exact⟨rfl,aG⟩}};{
 have bu:=du k n;have e:k=n:=ae;have eT:B=true:=by
  rw[<-aa eB,kn,aa en];have:l.all tJ=true:=by rw[iT];intro x hx;obtain⟨i,hi,rfl⟩:=BG hx;have:=aa iC i (by rw[aa en]at hi;omega);rwa [show l.getD i 0=l[i] by simp[List.getD,hi]]at this
  simp[h1,h16,this]
 subst eT;go_wp2;go_ret;exact⟨rfl,aG⟩}}};{
 have h1':¬(n:Int)<1:=ae;have cm4:=pW 16 n;have eF:B=false:=by rw[<-aa eB,kn,aa en];simp[h16]
 subst eF;go_enter Tryz.func223,Tryz.ntmps223;go_wp2;go_ret;exact⟨rfl,cW _ _⟩}};{
 have h1':(n:Int)<1:=ae;have eF:B=false:=by rw[<-aa eB,kn,aa en];simp[h1]
 subst eF;go_enter Tryz.func223,Tryz.ntmps223;go_wp2;go_ret;exact⟨rfl,cW _ _⟩}
def Vk{b o n c:Nat}{t:LI}(en:t.length=n){g:Nat}{w:World}(hc:∀i,i<n->w.cell? ⟨b,o+i,none⟩=some (.int .u8 (t.getD i 0)))(hg:w.cell? ⟨g,0,none⟩=some (.int .u8 47))(hB:aM t)(hn:n<=c)(ch8:c<=maxLen)(hl:n<=2097152)(hm:∃m,w.cell? ⟨1,0,none⟩=some (.I m)){K:Nat}(eK:(dP 47 t).length=K):Calls Tryz.prog 222 #[.S (some ⟨b,o,none⟩) n c,.T g 1 1] w fun e w'=>e=.returned (.T w.heap.size K K)/\(∀j nm,(dP 47 t)[j]?=some nm->∃p' c',w'.cell? ⟨w.heap.size,j,none⟩=some (.S p' nm.length c')/\Rd w' (.S p' nm.length c') nm)/\Bw w w':=by
 obtain⟨m,hm⟩:=hm;have bs3:∀(g o i:Nat),(⟨g,o,none⟩:Addr).add i=⟨g,o+i,none⟩:=fun g o i=>by
  unfold Addr.add;split;{next h=>subst h;rfl}
  {rfl}
 obtain⟨e1,e2⟩:=DY hB;refine(Any.bytes_Split Tryz.layS7 ⟨b,o,none⟩ ⟨g,0,none⟩ n c 1 1 t [47] m w en rfl hB (by intro y hy;simp at hy;subst hy;decide) (fun i hi=>by rw[bs3];exact hc i hi) (fun i hi=>by obtain rfl:i=0:=ae;exact hg) hn ae aU (by unfold maxLen at ch8;omega) aU hm).mono ?_
 rintro e w'⟨rfl,q,rfl⟩;have Pd:Bw w ((w.alloc (.cells (Lib.splitV (Lib.bytesOf [47]) 0 (Lib.count (Lib.bytesOf t) (Lib.bytesOf [47])) ⟨b,o,none⟩ c (Lib.bytesOf t)).toArray (Tryz.layS7_ren.t 22))).drewN q):=⟨rfl,rfl,rfl,ai,fun k hk=>Ks _ _ k hk⟩;rw[e2,eK];refine⟨rfl,fun j nm hj=>?_,Pd⟩;have zw:j<(Lib.splitV (Lib.bytesOf [47]) 0 (Lib.count (Lib.bytesOf t) (Lib.bytesOf [47])) ⟨b,o,none⟩ c (Lib.bytesOf t)).length:=by rw[Lib.splitV_length,e1,fe];exact(aT.1 hj).1
 obtain⟨a',off,len,cp,ev,h1,h2,h3,h4⟩:=Lib.splitV_spec (Lib.bytesOf [47]) 0 aU (gq _) _ ⟨b,o,none⟩ c (Lib.bytesOf t) (by rw[Lib.bytesOf_length,en];exact hn) j _ (aO zw);rw[e1,kU,hj]at h3;rw[Lib.bytesOf_length]at h2;have enm:nm=(t.drop off).take len:=by refine Cn (ay1 hB nm (aS hj)) (fun z hz=>hB z (Un (Jh hz))) ?_;rw[Lib.bytesOf_take,Lib.bytesOf_drop];simpa using h3
 have aV8:nm.length=len:=by rw[enm,pK,Aw];omega
 refine⟨some a',cp,?_,?_⟩;{rw[World.cell?_drewN,World.cell?_alloc_new,wC,aO zw,ev,aV8]};{
 refine⟨some a',cp,rfl,?_⟩;by_cases h0:len=0;{
 left
 exact tp.1 (by rw[aV8];exact h0)};{
 right
 have ea:=h4 0 ae;rw[bs3,Fe]at ea;refine⟨b,o+off,?_,fun i hi=>?_⟩;{have:a'.add 0=a':=rfl;rw[<-this,ea]};{
 rw[aV8]at hi;have Dz:((w.alloc (.cells (Lib.splitV (Lib.bytesOf [47]) 0 (Lib.count (Lib.bytesOf t) (Lib.bytesOf [47])) ⟨b,o,none⟩ c (Lib.bytesOf t)).toArray (Tryz.layS7_ren.t 22))).drewN q).cell? ⟨b,o+(off+i),none⟩=some (.int .u8 (t.getD (off+i) 0)):=
  (Pd.cell (p:=⟨b,o+(off+i),none⟩) (pI w _ (hc (off+i) ae))).trans (hc (off+i) ae)
 rw[Je,Dz,enm];have:((t.drop off).take len).getD i 0=t.getD (off+i) 0:=by simp[List.getD,Fc,hi,Kt]
 rw[this]}}}
open Go.Proofs.Tryz
theorem ay0{t:LI}:∀n∈dP (47:Int) t,n.length<=t.length:=by
 induction t with
 |nil=>intro n hn;simp[dP]at hn;subst hn;simp
 |cons x l ih=>
  intro n hn;rw[dP]at hn;split at hn;{rcases jA.1 hn with rfl|hn;{simp};{have:=ih n hn;simp;omega}};{
 cases hc:dP 47 l with
 |nil=>
  rw[hc]at hn;simp at hn;subst hn;simp
 |cons m ms=>
  rw[hc]at hn ih;rcases jA.1 hn with rfl|hn;{have:=ih m ai;simp;omega};{have:=ih n (by simp[hn]);simp;omega}}
theorem Rt{c n:Nat}(en:Hid (l.length=n)){w:World}(h:Rd w (.S p n c) l)(hb:Hid (aM l))(hl:n<=1048576)(hcn:n<=c)(Dy:c<=maxLen)(hm:∃m,w.cell? ⟨1,0,none⟩=some (.I m))(eB:Hid (vp l=B)):Cp 194 #[.S p n c] w fun e w'=>e=.returned (.bool B)/\Below w.heap.size w w':=by
 have HR:=af h;have HM:=af hm;clear h hm;by_cases Jo:n=0;{
 subst Jo;have eF:B=false:=by
  rw[<-aa eB,tp.1 (aa en)]
  rfl
 subst eF;go_enter func194,ntmps194;go_wp2;go_ret;exact⟨rfl,cW _ _⟩};have vH:((n:Int)==0)=false:=by simp[Jo]
 obtain⟨b,o,rfl,-,hc⟩:=HR.at (by rw[aa en];omega);obtain⟨x,t,el⟩:∃x t,l=x::t:=by
  cases l with
  |nil=>have:=aa en;simp at this;omega
  |cons x t=>exact⟨x,t,rfl⟩
 have hx:w.cell? ⟨b,o,none⟩=some (.int .u8 x):=by have:=hc 0 (by rw[aa en];omega);rw[el]at this;exact this
 by_cases py:x=47;{
 subst py;have ent:t.length=n-1:=by have:=aa en;rw[el]at this;simp at this;omega
 have hct:∀i,i<n-1->w.cell? ⟨b,o+1+i,none⟩=some (.int .u8 (t.getD i 0)):=fun i hi=>by have:=hc (1+i) (by rw[aa en];omega);rw[el,<-Je]at this;rw[this];simp[List.getD,Zg 1 i]
 have hbt:aM t:=fun z hz=>aa hb z (by rw[el];simp[hz]);obtain⟨K,eK⟩:=aI ((dP 47 t).length);have cR:B=(decide (K<=8)&&(dP 47 t).all kn):=by rw[<-aa eB,el,vp,st,eK];simp
 have Ph:K<=n+1:=by have h1:=(DY hbt).2;have h2:=Lib.count_le (Lib.bytesOf t) (Lib.bytesOf [47]);rw[Lib.bytesOf_length,ent]at h2;omega
 obtain⟨N,eN⟩:=aI (n-1);obtain⟨C,eC⟩:=aI (c-1);have VT:∀(o':Nat)(w':World),(N=0\/o'=o+1)->Below w.heap.size w w'->w'.cell? ⟨w.heap.size,0,none⟩=some (.int .u8 47)->Cp 222 #[.S (some ⟨b,o',none⟩) N C,.T w.heap.size 1 1] w' fun e w''=>e=.returned (.T w'.heap.size K K)/\(∀j nm,(dP 47 t)[j]?=some nm->∃p' c',w''.cell? ⟨w'.heap.size,j,none⟩=some (.S p' nm.length c')/\Rd w'' (.S p' nm.length c') nm)/\Below w'.heap.size w' w'':=by intro o' w' Uy bL hg;refine Vk (by rw[ent,eN]) (fun i hi=>?_) hg hbt ae ae ae ?_ eK;{rcases Uy with h0|rfl;{omega};{exact(bL.cell (p:=⟨b,o+1+i,none⟩) (pI w _ (hct i ae))).trans (hct i ae)}};{obtain⟨m,hm⟩:=aa HM;exact⟨m,(bL.cell (p:=⟨1,0,none⟩) (pI w _ hm)).trans hm⟩}
 have HSP:=af VT;have pY:=af cR;have EK:=af eK;have g1:=dw 1 n;have g2:=dw 1 c;have g3:=iE n c;have HN:=af (ah eN eC);clear VT cR hct hbt ent eK hc eN eC;have bA:Below w.heap.size w (w.alloc (.cells #[.int .u8 47] 5)):=ay.alloc ao _;have sE:∀o',(N=0\/o'=o+1)->Cp 222 #[.S (some ⟨b,o',none⟩) N C,.T w.heap.size 1 1] (w.alloc (.cells #[.int .u8 47] 5)) fun e w''=>e=.returned (.T (w.heap.size+1) K K)/\(∀j nm,(dP 47 t)[j]?=some nm->∃p' c',w''.cell? ⟨w.heap.size+1,j,none⟩=some (.S p' nm.length c')/\Rd w'' (.S p' nm.length c') nm)/\Below w.heap.size w w'':=by intro o' Uy;have e:(w.alloc (.cells #[.int .u8 47] 5)).heap.size=w.heap.size+1:=ai;have:=aa HSP o' _ Uy bA ai;rw[e]at this;refine this.mono ?_;rintro e1 w1⟨rfl,h1,h2⟩;refine⟨rfl,h1,?_⟩;rw[<-e]at h2;exact aj bA h2
 have HF:=af sE;clear sE bA;have hlen:∀nm∈dP (47:Int) t,nm.length<=2097152:=fun nm wX=>by have h1:=ay0 nm wX;have h2:=aa en;rw[el]at h2;simp at h2;omega
 have HL:=af hlen;clear hlen el;by_cases iD:c=1;{
 subst iD;obtain rfl:n=1:=ae;go_enter func194,ntmps194;go_wp2_with fail;have Lm:(0:Nat)=N:=by have:=HN.1;omega
 have hC0:(0:Nat)=C:=by have:=HN.2;omega
 have VT:=aa HF o (.inl Lm.symm);rw[<-Lm,<-hC0]at VT;clear Lm hC0;refine VT.mono ?_;rintro e w2⟨rfl,hpc,aF⟩;have HP:=af hpc;clear VT hpc;by_cases hk8:K<=8;{
 have aQ8:¬(8:Int)<(K:Int):=ae;go_wp2
 go_loopw[24](fun i wr=>∃k:Nat,k<=K/\i=.I k/\Hid (∀j nm,j<k->(dP 47 t)[j]?=some nm->kn nm=true)/\Below w2.heap.size w2 wr) (fun i _=>K-(intOf i).toNat)
 exact⟨0,gq _,rfl,(fun j nm hj=>ae),cW _ _⟩;{
 obtain⟨k,hk,rfl,iC,aG⟩:=hrel;have BB:=aj aF aG;by_cases aX:k<K;{
 have bu:=aP k K;obtain⟨nm,wX⟩:∃nm,(dP 47 t)[k]?=some nm:=⟨_,aO (by rw[aa EK];exact aX)⟩;obtain⟨p',c',Qh,yI⟩:=aa HP k nm wX;have Sf:=ag Qh aG;have KT:=yI.below aG;have hnl:=aa HL nm (aS wX);obtain⟨nl,jH⟩:=aI nm.length;rw[jH]at Sf KT hnl;have ENL:=af jH;have HNM:=af wX;clear Qh yI jH wX;obtain⟨R,eR⟩:=aI (kn nm);have ER:=af eR;clear eR;go_wp2_with fail;refine(vt ENL KT hnl ER).mono ?_;rintro e w3⟨rfl,bf⟩;have b3:=aj aG bf;cases R with
 |true=>
  have ta:Hid (∀j nm,j<k+1->(dP 47 t)[j]?=some nm->kn nm=true):=fun j nm' hj hj2=>by by_cases e:j=k;{subst e;have e2:=HNM.symm.trans hj2;simp at e2;rw[<-e2];exact aa ER};{exact iC j nm' ae hj2}
  clear Sf KT bf aG BB;go_wp2;go_roundw;exact⟨k+1,ae,by go_num,ta,b3⟩;exact bG
 | false=>
  have eF:B=false:=by
   rw[aa pY];have:(dP 47 t).all kn=false:=by rw[NU];exact⟨nm,aS (aa HNM),by simp[aa ER]⟩
   rw[this];simp
  subst eF;clear Sf KT;go_wp2;go_ret;exact⟨rfl,aj BB bf⟩};{
 have bu:=du k K;have eT:B=true:=by
  rw[aa pY];have:(dP 47 t).all kn=true:=by rw[iT];intro nm wX;obtain⟨i,hi,rfl⟩:=BG wX;exact aa iC i _ (by rw[aa EK]at hi;omega) (aO hi)
  simp[this,hk8]
 subst eT;go_wp2;go_ret;exact⟨rfl,BB⟩}}};{
 have aQ8:=pW 8 K;have eF:B=false:=by rw[aa pY];simp[hk8]
 subst eF;go_wp2;go_ret;exact⟨rfl,aF⟩}};{
 have ci0:¬(c:Int)=1:=ae;go_enter func194,ntmps194;go_wp2_with fail;have VT:=aa HF (o+1) (.inr rfl);rw[<-HN.1,<-HN.2]at VT;refine VT.mono ?_;rintro e w2⟨rfl,hpc,aF⟩;have HP:=af hpc;clear VT hpc;by_cases hk8:K<=8;{
 have aQ8:¬(8:Int)<(K:Int):=ae;go_wp2
 go_loopw[24](fun i wr=>∃k:Nat,k<=K/\i=.I k/\Hid (∀j nm,j<k->(dP 47 t)[j]?=some nm->kn nm=true)/\Below w2.heap.size w2 wr) (fun i _=>K-(intOf i).toNat)
 exact⟨0,gq _,rfl,(fun j nm hj=>ae),cW _ _⟩;{
 obtain⟨k,hk,rfl,iC,aG⟩:=hrel;have BB:=aj aF aG;by_cases aX:k<K;{
 have bu:=aP k K;obtain⟨nm,wX⟩:∃nm,(dP 47 t)[k]?=some nm:=⟨_,aO (by rw[aa EK];exact aX)⟩;obtain⟨p',c',Qh,yI⟩:=aa HP k nm wX;have Sf:=ag Qh aG;have KT:=yI.below aG;have hnl:=aa HL nm (aS wX);obtain⟨nl,jH⟩:=aI nm.length;rw[jH]at Sf KT hnl;have ENL:=af jH;have HNM:=af wX;clear Qh yI jH wX;obtain⟨R,eR⟩:=aI (kn nm);have ER:=af eR;clear eR;go_wp2_with fail;refine(vt ENL KT hnl ER).mono ?_;rintro e w3⟨rfl,bf⟩;have b3:=aj aG bf;cases R with
 |true=>
  have ta:Hid (∀j nm,j<k+1->(dP 47 t)[j]?=some nm->kn nm=true):=fun j nm' hj hj2=>by by_cases e:j=k;{subst e;have e2:=HNM.symm.trans hj2;simp at e2;rw[<-e2];exact aa ER};{exact iC j nm' ae hj2}
  clear Sf KT bf aG BB;go_wp2;go_roundw;exact⟨k+1,ae,by go_num,ta,b3⟩;exact bG
 | false=>
  have eF:B=false:=by
   rw[aa pY];have:(dP 47 t).all kn=false:=by rw[NU];exact⟨nm,aS (aa HNM),by simp[aa ER]⟩
   rw[this];simp
  subst eF;clear Sf KT;go_wp2;go_ret;exact⟨rfl,aj BB bf⟩};{
 have bu:=du k K;have eT:B=true:=by
  rw[aa pY];have:(dP 47 t).all kn=true:=by rw[iT];intro nm wX;obtain⟨i,hi,rfl⟩:=BG wX;exact aa iC i _ (by rw[aa EK]at hi;omega) (aO hi)
  simp[this,hk8]
 subst eT;go_wp2;go_ret;exact⟨rfl,BB⟩}}};{
 have aQ8:=pW 8 K;have eF:B=false:=by rw[aa pY];simp[hk8]
 subst eF;go_wp2;go_ret;exact⟨rfl,aF⟩}}};{
 have hx1:(x==47)=false:=by simp[py]
 have hx2:(x != 47)=true:=by simp[py]
 have eF:B=false:=by rw[<-aa eB,el,vp];exact MO py
 subst eF;go_enter func194,ntmps194;go_wp2;go_ret;exact⟨rfl,cW _ _⟩}
def DZ{c n:Nat}(en:Hid (l.length=n)){w:World}(h:Rd w (.S p n c) l)(hb:Hid (aM l))(hl:n<=1048576)(eB:Hid (vp l=B)):Cp 89 #[.S p n c] w fun e w'=>e=.returned (.bool B)/\Below w.heap.size w w':=by
 go_enter func89,ntmps89;go_wp2_with fail;refine(Oj en h hb hl eB).mono ?_;rintro e w1⟨⟨v,rfl⟩,aA⟩;go_wp2;go_ret;exact⟨rfl,aA⟩
abbrev Ev:=Int×LI
abbrev aR:=Int×Int×List Ev
structure aB where
 path:LI
 value:LI
 owner:Int
 mode:Int
 holders:LI
 aJ:Int
 gen:Int
 watchers:LI
def qT(w:World)(v:Value)(ns:LI):Prop:=
 ∃(p:OA)(c:Nat),v=.S p ns.length c/\(ns=[]\/∃b o,p=some ⟨b,o,none⟩/\∀i,i<ns.length->w.cell? ⟨b,o+i,none⟩=some (.U (ns.getD i 0)))
def Io(w:World)(v:Value)(es:List Ev):Prop:=
 ∃(p:OA)(c:Nat),v=.S p es.length c/\(es=[]\/∃b o,p=some ⟨b,o,none⟩/\∀i e,es[i]?=some e->w.cell? ⟨b,o+i*2,none⟩=some (.I e.1)/\∃u,w.cell? ⟨b,o+i*2+1,none⟩=some u/\Rd w u e.2)
def yZ(w:World)(v:Value)(ss:List aR):Prop:=
 ∃(p:OA)(c:Nat),v=.S p ss.length c/\(ss=[]\/∃b o,p=some ⟨b,o,none⟩/\∀i s,ss[i]?=some s->w.cell? ⟨b,o+i*3,none⟩=some (.U s.1)/\w.cell? ⟨b,o+i*3+1,none⟩=some (.I s.2.1)/\∃u,w.cell? ⟨b,o+i*3+2,none⟩=some u/\Io w u s.2.2)
def qT.below{w w':World}{ns:LI}(h:qT w v ns)(hb:Bw w w'):qT w' v ns:=by
 obtain⟨p,c,rfl,h⟩:=h;refine⟨p,c,rfl,?_⟩;rcases h with h|⟨b,o,rfl,h⟩;{exact .inl h};{exact .inr ⟨b,o,rfl,fun i hi=>ag (h i hi) hb⟩}
def Io.below{w w':World}{es:List Ev}(h:Io w v es)(hb:Bw w w'):Io w' v es:=by
 obtain⟨p,c,rfl,h⟩:=h;refine⟨p,c,rfl,?_⟩;rcases h with h|⟨b,o,rfl,h⟩;{exact .inl h};{refine .inr ⟨b,o,rfl,fun i e he=>?_⟩;obtain⟨h1,u,h2,h3⟩:=h i e he;exact⟨ag h1 hb,u,ag h2 hb,h3.below hb⟩}
def yZ.below{w w':World}{ss:List aR}(h:yZ w v ss)(hb:Bw w w'):yZ w' v ss:=by
 obtain⟨p,c,rfl,h⟩:=h;refine⟨p,c,rfl,?_⟩;rcases h with h|⟨b,o,rfl,h⟩;{exact .inl h};{refine .inr ⟨b,o,rfl,fun i e he=>?_⟩;obtain⟨h1,h2,u,h3,h4⟩:=h i e he;exact⟨ag h1 hb,ag h2 hb,u,ag h3 hb,h4.below hb⟩}
abbrev gh(e g x n:Int)(S N:Value):Value:=.agg #[.U e,.U g,.U x,.I n,S,N]
def oF{c n:Nat}{ss:List aR}(en:Hid (ss.length=n)){w:World}(h:yZ w (.S p n c) ss)(hn:n<=1048576){id:Int}(eB:Hid ((ss.any fun s=>s.1==id)=B)):Cp 123 #[gh e g x t (.S p n c) N,.U id] w fun r w'=>r=.returned (.bool B)/\Bw w w':=by
 have HR:=af fun(w':World)(hb:Bw w w')=>h.below hb;clear h;go_enter func123,ntmps123;go_wp2_with fail;obtain⟨W,hW⟩:=au (w.alloc (.cells #[.U e,.U g,.U x,.I t,.S p n c,N] 32));have bW:=dO hW;have GM:W.cell? ⟨w.heap.size,4,none⟩=some (.S p n c):=by rw[hW];simp
 rw[<-hW];clear hW;have hS:=aa HR _ bW;have HS:=af hS;have BW:=af bW;clear hS bW HR
 go_loopw[5](fun iv wr=>∃k:Nat,k<=n/\iv=.I k/\Hid (((ss.take k).any fun s=>s.1==id)=false)/\wr=W) (fun iv _=>n-(intOf iv).toNat)
 exact⟨0,Nat.zero_le _,rfl,(by show _=_;simp),rfl⟩;{
 obtain⟨k,hk,rfl,la,rfl⟩:=hrel;by_cases aX:k<n;{
 have bu:=aP k n;have dA:k<ss.length:=by rw[aa en];exact aX
 obtain⟨y,hy⟩:∃y,ss[k]?=some y:=⟨_,aO dA⟩;obtain⟨p',c',ev,hd⟩:=aa HS;simp only[Value.slice.injEq]at ev;obtain⟨rfl,-,-⟩:=ev;obtain⟨b,o,rfl,cO⟩:∃b o,p=some ⟨b,o,none⟩/\∀i s,ss[i]?=some s->wr.cell? ⟨b,o+i*3,none⟩=some (.U s.1):=by rcases hd with h0|⟨b,o,h1,h2⟩;{rw[h0]at dA;simp at dA};{exact⟨b,o,h1,fun i s hi=>(h2 i s hi).1⟩}
 have zE:=cO k y hy;have HY:=af hy;clear cO hd hy dA;by_cases hid:y.1=id;{
 have eT:B=true:=by rw[<-aa eB,List.any_eq_true];exact⟨y,aS (aa HY),by simp[hid]⟩
 subst eT;have bq2:(y.1==id)=true:=by simp[hid]
 go_wp2;go_ret;exact⟨rfl,BW⟩};{
 have bq2:(y.1==id)=false:=by simp[hid]
 have ZN:Hid (((ss.take (k+1)).any fun s=>s.1==id)=false):=by show _=_;rw[List.take_add_one,aa HY,List.any_append,aa la];simp[bq2]
 go_wp2;go_roundw;exact⟨k+1,ae,by go_num,ZN,by first|rfl|trivial⟩;exact bG}};{
 have bu:=du k n;have eF:B=false:=by rw[<-aa eB];have:=aa la;rwa [List.take_of_length_le (by rw[aa en];omega)]at this
 subst eF;go_wp2;go_ret;exact⟨rfl,BW⟩}}
def live(ss:List aR)(id:Int):Bool:=ss.any fun s=>s.1==id
def Ht(ss:List aR)(ids:LI)(i:Nat):Bool:=live ss (ids.getD i 0)&&(i==0||decide (ids.getD (i-1) 0<ids.getD i 0))
def iK(ss:List aR)(ids:LI):Bool:=(List.range ids.length).all (Ht ss ids)
def dr{k:Nat}(h:(List.range k).all f=true)(hk:f k=true):(List.range (k+1)).all f=true:=by
 rw[bl7,List.all_append,h];simp[hk]
def fo{k n:Nat}(hk:k<n)(h:f k=false):(List.range n).all f=false:=by
 rw[NU];exact⟨k,yv.2 hk,by simp[h]⟩
abbrev jv(w:World)(b:Nat)(e g x t:Int)(S N:Value):Prop:=w.cell? ⟨b,0,none⟩=some (.U e)/\w.cell? ⟨b,1,none⟩=some (.U g)/\w.cell? ⟨b,2,none⟩=some (.U x)/\w.cell? ⟨b,3,none⟩=some (.I t)/\w.cell? ⟨b,4,none⟩=some S/\w.cell? ⟨b,5,none⟩=some N
def jv.below{w w':World}{b:Nat}{S N:Value}(h:jv w b e g x t S N)(hb:Bw w w'):jv w' b e g x t S N:=
 ⟨ag h.1 hb,ag h.2.1 hb,ag h.2.2.1 hb,ag h.2.2.2.1 hb,ag h.2.2.2.2.1 hb,ag h.2.2.2.2.2 hb⟩
theorem qg{p q:OA}{c n d m:Nat}{ss:List aR}{ids:LI}(en:Hid (ss.length=n))(em:Hid (ids.length=m)){w:World}(h:yZ w (.S p n c) ss)(hi:qT w (.S q m d) ids)(hn:n<=1048576)(hm:m<=1048576)(eB:Hid (iK ss ids=B)):Cp 124 #[gh e g x t (.S p n c) N,.S q m d] w fun r w'=>r=.returned (.bool B)/\Bw w w':=by
 have HR:=af fun(w':World)(hb:Bw w w')=>ah (h.below hb) (hi.below hb);clear h hi;go_enter func124,ntmps124;go_wp2_with fail;obtain⟨W,hW⟩:=au (w.alloc (.cells #[.U e,.U g,.U x,.I t,.S p n c,N] 32));have bW:=dO hW;have uY:jv W w.heap.size e g x t (.S p n c) N:=by rw[hW];simp[jv]
 rw[<-hW];clear hW;have BW:=af bW;have WV:=af uY;clear bW uY
 go_loopw[5](fun iv wr=>∃k:Nat,k<=m/\iv=.I k/\Hid ((List.range k).all (Ht ss ids)=true)/\Bw W wr) (fun iv _=>m-(intOf iv).toNat)
 exact⟨0,gq _,rfl,bq,cW _ _⟩;{
 obtain⟨k,hk,rfl,iC,aG⟩:=hrel;have BB:=aj BW aG;by_cases aX:k<m;{
 have bu:=aP k m;have dA:k<ids.length:=by rw[aa em];exact aX
 obtain⟨hS,hU⟩:=aa HR _ BB;obtain⟨b,o,rfl,cO⟩:∃b o,q=some ⟨b,o,none⟩/\∀i,i<m->wr.cell? ⟨b,o+i,none⟩=some (.U (ids.getD i 0)):=by obtain⟨p',c',ev,hd⟩:=hU;simp only[dU]at ev;obtain⟨rfl,-,-⟩:=ev;rcases hd with h0|⟨b,o,h1,h2⟩;{rw[h0]at dA;simp at dA};{exact⟨b,o,h1,fun i hi=>h2 i (by rw[aa em];exact hi)⟩}
 have i6:=WV.below aG;have zE:=cO k aX;obtain⟨y,ey⟩:=aI (ids.getD k 0);rw[ey]at zE;have HSS:=af hS;obtain⟨L,eL⟩:=aI (live ss y);have EL:Hid ((ss.any fun s=>s.1==y)=L):=eL;have fD:Ht ss ids k=(L&&(k==0||decide (ids.getD (k-1) 0<y))):=by rw[Ht,ey,eL]
 have hF:Ht ss ids k=false->B=false:=fun h=>by rw[<-aa eB,iK,aa em];exact fo aX h
 clear hS hU dA;cases L with
 |false=>
  have eF:=hF (by rw[fD];rfl);subst eF;have K0:=af (ah i6 zE);clear fD hF eL cO ey i6 zE;go_wp2_with fail;refine dy (fun w'=>jv w' w.heap.size e g x t (.S p n c) N/\w'.cell? ⟨b,o+k,none⟩=some (.U y)) (by exact K0) fun hS=>?_;refine mu 0 1 2 3 hS ?_;refine tn 4 hS ?_;refine ry [5] ?_;refine cn (fun KK hK=>?_) ?_;{refine xR (oF en (HSS.below ay.drew) hn EL) ?_;rintro r w2⟨rfl,aF⟩;refine⟨_,rfl,?_⟩;have bL:Bw wr w2:=aj (cW wr.heap.size wr).drew aF;refine gr hK ⟨K0.1.below bL,ag K0.2 bL⟩ fun hS=>?_;clear hK KK;refine jZ 6 7 hS ?_;refine nK 8 9 10 11 hS ?_;refine nK 12 13 14 15 hS ?_;refine nK 16 17 18 19 hS ?_;refine sn 20 hS ?_;refine sn 21 hS ?_;refine tn 22 hS ?_;refine di ?_;have b2:=aj BB bL;clear aF bL hS;go_wp2;go_ret;exact⟨rfl,b2⟩};exact AllReadyH.nil
 |true=>
  by_cases K8:k=0;{have ta:Hid ((List.range (k+1)).all (Ht ss ids)=true):=dr (aa iC) (by rw[fD,K8];rfl);have HK0:=af K8;have hp:¬0<k:=ae;have hp':¬(0:Int)<(k:Int):=ae;have K0:=af (ah i6 zE);clear fD hF eL cO ey K8 i6 zE;go_wp2_with fail;refine dy (fun w'=>jv w' w.heap.size e g x t (.S p n c) N/\w'.cell? ⟨b,o+k,none⟩=some (.U y)) (by exact K0) fun hS=>?_;refine mu 0 1 2 3 hS ?_;refine tn 4 hS ?_;refine dE 5 fun KK hK=>?_;refine xR (oF en (HSS.below ay.drew) hn EL) ?_;rintro r w2⟨rfl,aF⟩;refine⟨_,rfl,?_⟩;have bL:Bw wr w2:=aj (cW wr.heap.size wr).drew aF;refine gr hK ⟨K0.1.below bL,ag K0.2 bL⟩ fun hS=>?_;clear hK KK;refine mu 6 7 8 9 hS ?_;refine tn 10 hS ?_;refine nK 11 12 13 14 hS ?_;refine nK 15 16 17 18 hS ?_;refine sn 19 hS ?_;refine sn 20 hS ?_;refine jZ 21 22 hS ?_;refine di ?_;have b2:=aj aG bL;clear aF bL hS;go_wp2;go_roundw;exact⟨k+1,ae,by go_num,ta,b2⟩;exact bG};{
 obtain⟨j,ej⟩:∃j:Nat,(k:Int)-1=(j:Int):=⟨k-1,ae⟩;have Sz:k-1=j:=ae;have hcz:=cO j ae;obtain⟨z,ez⟩:=aI (ids.getD j 0);rw[ez]at hcz;rw[Sz,ez]at fD;have hp:0<k:=ae;have hp':=pW 0 k;have hjm:=aP j m;have hj0:=dw 0 j;have wj:=dZ j;by_cases hzy:z<y;{
 have hle:¬y<=z:=ae;have aQ4:decide (y<=z)=false:=by simp;omega
 have ta:Hid ((List.range (k+1)).all (Ht ss ids)=true):=dr (aa iC) (by rw[fD];simp[hzy]);clear hzy;have K0:=af (ah i6 (ah zE hcz));clear fD hF eL cO ey ez K8 i6 zE hcz Sz;go_wp2_with fail;refine dy (fun w'=>jv w' w.heap.size e g x t (.S p n c) N/\w'.cell? ⟨b,o+k,none⟩=some (.U y)/\w'.cell? ⟨b,o+j,none⟩=some (.U z)) (by exact K0) fun hS=>?_;refine mu 0 1 2 3 hS ?_;refine tn 4 hS ?_;refine dE 5 fun KK hK=>?_;refine xR (oF en (HSS.below ay.drew) hn EL) ?_;rintro r w2⟨rfl,aF⟩;refine⟨_,rfl,?_⟩;have bL:Bw wr w2:=aj (cW wr.heap.size wr).drew aF;refine gr hK ⟨K0.1.below bL,ag K0.2.1 bL,ag K0.2.2 bL⟩ fun hS=>?_;clear hK KK;refine mn 6 7 8 9 10 11 12 13 hS ?_;refine mn 14 15 16 17 18 19 20 21 hS ?_;refine tn 22 hS ?_;refine di ?_;have b2:=aj aG bL;clear aF bL hS;go_wp2;go_roundw;exact⟨k+1,ae,by go_num,ta,b2⟩;exact bG};{
 have hle:y<=z:=ae;have aQ4:decide (y<=z)=true:=by simp;omega
 have eF:=hF (by rw[fD];simp[hzy,K8]);subst eF;clear hzy;have K0:=af (ah i6 (ah zE hcz));clear fD hF eL cO ey ez K8 i6 zE hcz Sz;go_wp2_with fail;refine dy (fun w'=>jv w' w.heap.size e g x t (.S p n c) N/\w'.cell? ⟨b,o+k,none⟩=some (.U y)/\w'.cell? ⟨b,o+j,none⟩=some (.U z)) (by exact K0) fun hS=>?_;refine mu 0 1 2 3 hS ?_;refine tn 4 hS ?_;refine dE 5 fun KK hK=>?_;refine xR (oF en (HSS.below ay.drew) hn EL) ?_;rintro r w2⟨rfl,aF⟩;refine⟨_,rfl,?_⟩;have bL:Bw wr w2:=aj (cW wr.heap.size wr).drew aF;refine gr hK ⟨K0.1.below bL,ag K0.2.1 bL,ag K0.2.2 bL⟩ fun hS=>?_;clear hK KK;refine mn 6 7 8 9 10 11 12 13 hS ?_;refine mn 14 15 16 17 18 19 20 21 hS ?_;refine tn 22 hS ?_;refine di ?_;have b2:=aj BB bL;clear aF bL hS;go_wp2;go_ret;exact⟨rfl,b2⟩}}};{
 have bu:=du k m;have eT:B=true:=by
  rw[<-aa eB,iK,aa em];have:k=m:=by omega
  rw[<-this];exact iC
 subst eT;go_wp2;go_ret;exact⟨rfl,BB⟩}}
end Go.Proofs.YtjjnidignljppaaGreatDoor
