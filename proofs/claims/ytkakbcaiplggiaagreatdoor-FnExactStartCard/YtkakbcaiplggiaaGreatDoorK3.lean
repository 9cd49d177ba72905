import Derived.Test.YtkakbcaiplggiaaGreatDoorK0
import Derived.Test.YtkakbcaiplggiaaGreatDoorVPy
import Derived.Deep.DeepCutAuto
import Derived.Lib.EndianBits
import Derived.Laws.Closers25b
import Derived.Laws.BytesString
import Derived.Maps.RangeWalk
import Derived.Maps.Ext
import Derived.Sort.AssemblyPlain
import Derived.Sort.Row
import Derived.Lib.BitFns
import Derived.Lib.Walk
import Derived.Lib.Small
import Derived.Lib.Strings
import Derived.Lib.Slices
import Derived.Laws.Bits64
import Derived.Laws.Bits64b
import Derived.RangeFuncGives
import Derived.RangeFuncSeq
import Derived.Sort.MapsRangeIn
import Derived.OwnWalkIn
import Derived.TacticsInMore
import Derived.RegionIn
import Derived.LoopNIn
import Derived.LoopIn
import Derived.Maps.AppendAt
import Derived.RangeFuncKeeps
import Derived.RangeFuncFrom
import Derived.RangeFuncNested
import Derived.RangeFuncBound
import Derived.RangeFuncCalls
import Derived.RangeFuncLeaves
namespace Go.Proofs.YtkakbcaiplggiaaGreatDoor
set_option maxHeartbeats 6400000
set_option linter.all false
set_option maxRecDepth 100000
open Go.ChangeShapes Go.WideShapes Go.ChangeAt Go.RowKit
variable {B:Bool}{Bm N a b base g i j k nn:Nat}{D:DataW Unit}{E:Prop}{K:Act->World->Prop}{P:Program}{W W':World}{d:Array Int}{e:TypeId}{f:Nat->Bool}{l l0 l1 m s ss:LI}{left:Lit->Bool}{o:Oper}{ops:Array Oper}{p:OA}{ps:List MemPlace}{row:Option Nat}{t x y:Int}{v v0 v1 v2 z:Value}{vs xs:List Value}
def wV{c n:Nat}(en:Hid (l.length=n)){w:World}(h:Rd w (.S p n c) l)(hl:n<=2097152)(eB:Hid (kP l=B)):Calls Tryz.prog 233 #[.S p n c] w (Rb (.bool B) w):=by
 have HR:=af h;clear h;by_cases h1:1<=n;{
 by_cases h16:n<=16;{
 have h1':¬(n:Int)<1:=ae;have cy9:¬(16:Int)<(n:Int):=ae;obtain⟨b,o,rfl,-,hc⟩:=HR.at (by rw[aa en];omega);go_enter Tryz.func233,Tryz.ntmps233;have cW:∀(i:Nat)(w':World),i<n->Bw w w'->w'.cell? (Ad b (o+i))=some (.int .u8 (l.getD i 0)):=λi w' hi bR=>(bR.cell (p:=(Ad b (o+i))) (nY w _ (hc i (aa en▸hi)))).trans (hc i (aa en▸hi));have HC:=af cW;clear hc cW;go_wp2
 go_loopw[17](λi wr=>∃k:Nat,k<=n/\i=.I k/\Hid (∀j,j<k->uj (l.getD j 0)=true)/\Bw w wr) (λi _=>n-(intOf i).toNat)
 exact⟨0,fN _,rfl,(λj hj=>ae),cR _ _⟩;{
 obtain⟨k,hk,rfl,iV,aK⟩:=hrel;by_cases aT:k<n;{
 have bu:=aS k n;have Dx:=aa HC k wr aT aK;obtain⟨z,ez⟩:=aI (l.getD k 0);rw[ez]at Dx;have EZ:=af ez;clear ez;have uX:uj z=true->Hid (∀j,j<k+1->uj (l.getD j 0)=true):=λhz j hj=>by by_cases e:j=k;{rw[e,aa EZ];exact hz};{exact iV j ae}
 have xo:uj z=false->B=false:=λhz=>by
  rw[<-aa eB,kP];have:l.all uj=false:=by rw[Qv];refine⟨z,?_,by simp[hz]⟩;rw[<-aa EZ];have hk':k<l.length:=aa en▸aT;rw[show l.getD k 0=l[k] by simp[List.getD,hk']];exact Ac hk'
  rw[this];simp
 rcases PC z with⟨g1,g2,gb⟩|⟨g2,gb⟩|⟨g3,g4,gb⟩|⟨rfl,gb⟩|⟨g4,g1,g6,gb⟩|⟨rfl,gb⟩|⟨g3,g5,gb⟩;{have HN:=uX gb;clear uX xo;have g3:(48:Int)<=z:=ae;have g4:¬z<=57:=ae;go_wp2;go_roundw;exact⟨k+1,ae,by go_num,HN,aK⟩;exact bM};{
 have eF:=xo gb;subst eF;clear uX xo;have g1:(97:Int)<=z:=ae;have g2':¬z<=122:=ae;have g3:(48:Int)<=z:=ae;have g4:¬z<=57:=ae;have g5:(z != 45)=true:=by simp;omega
 have g6:(z != 95)=true:=by simp;omega
 go_wp2;go_ret;exact⟨rfl,aK⟩};{have HN:=uX gb;clear uX xo;have g1:¬(97:Int)<=z:=ae;go_wp2;go_roundw;exact⟨k+1,ae,by go_num,HN,aK⟩;exact bM};{have HN:=uX gb;clear uX xo;go_wp2;go_roundw;exact⟨k+1,ae,by go_num,HN,aK⟩;exact bM};{
 have eF:=xo gb;subst eF;clear uX xo;have g1':¬(97:Int)<=z:=ae;have g3:(48:Int)<=z:=ae;have g4':¬z<=57:=ae;have g5:(z != 45)=true:=by simp;omega
 have g6':(z != 95)=true:=by simp[g6]
 go_wp2;go_ret;exact⟨rfl,aK⟩};{have HN:=uX gb;clear uX xo;go_wp2;go_roundw;exact⟨k+1,ae,by go_num,HN,aK⟩;exact bM};{
 have eF:=xo gb;subst eF;clear uX xo;have g1:¬(97:Int)<=z:=ae;have g3':¬(48:Int)<=z:=ae;have g5':(z != 45)=true:=by simp[g5]
 have g6:(z != 95)=true:=by simp;omega
 go_wp2;go_ret;exact⟨rfl,aK⟩}};{
 have bu:=dm k n;have e:k=n:=ae;have eT:B=true:=by
  rw[<-aa eB,kP,aa en];have:l.all uj=true:=by rw[jy];intro x hx;obtain⟨i,hi,rfl⟩:=Df hx;have:=aa iV i (by rw[aa en]at hi;omega);rwa [show l.getD i 0=l[i] by simp[List.getD,hi]]at this
  simp[h1,h16,this]
 subst eT;go_wp2;go_ret;exact⟨rfl,aK⟩}}};{
 have h1':¬(n:Int)<1:=ae;have cy9:=qi 16 n;have eF:B=false:=by rw[<-aa eB,kP,aa en];simp[h16]
 subst eF;go_enter Tryz.func233,Tryz.ntmps233;go_wp2;go_ret;exact⟨rfl,cR _ _⟩}};{
 have h1':(n:Int)<1:=ae;have eF:B=false:=by rw[<-aa eB,kP,aa en];simp[h1]
 subst eF;go_enter Tryz.func233,Tryz.ntmps233;go_wp2;go_ret;exact⟨rfl,cR _ _⟩}
def W8{b o n c:Nat}{t:LI}(en:t.length=n){w:World}(hc:∀i,i<n->w.cell? (Ad b (o+i))=some (.int .u8 (t.getD i 0)))(hg:w.cell? (Ad g 0)=some (.int .u8 47))(hB:aN t)(hn:n<=c)(ct4:c<=maxLen)(hl:n<=2097152)(hm:∃m,w.cell? (Ad 1 0)=some (.I m)){K:Nat}(eK:(dT 47 t).length=K):Calls Tryz.prog 232 #[.S (some (Ad b o)) n c,.T g 1 1] w λe w'=>e=.returned (.T w.heap.size K K)/\(∀j nm,(dT 47 t)[j]?=some nm->∃p' c',w'.cell? (Ad w.heap.size j)=some (.S p' nm.length c')/\Rd w' (.S p' nm.length c') nm)/\Bw w w':=by
 obtain⟨m,hm⟩:=hm;have bE1:∀(g o i:Nat),((Ad g o):Addr).add i=(Ad g (o+i)):=λg o i=>by
  unfold Addr.add;split;{next h=>subst h;rfl}
  {rfl}
 obtain⟨e1,e2⟩:=FD hB;refine(Any.bytes_Split Tryz.layS7 (Ad b o) (Ad g 0) n c 1 1 t [47] m w en rfl hB (by intro y hy;simp at hy;subst hy;decide) (λi hi=>by rw[bE1];exact hc i hi) (λi hi=>by obtain rfl:i=0:=ae;exact hg) hn ae aZ (by unfold maxLen at ct4;omega) aZ hm).mono ?_
 rintro e w'⟨rfl,q,rfl⟩;have Q7:Bw w ((w.alloc (.cells (Lib.splitV (Lib.bytesOf [47]) 0 (Lib.count (Lib.bytesOf t) (Lib.bytesOf [47])) (Ad b o) c (Lib.bytesOf t)).toArray (Tryz.layS7_ren.t 22))).drewN q):=⟨rfl,rfl,rfl,ai,λk hk=>Mp _ _ k hk⟩;rw[e2,eK];refine⟨rfl,λj nm hj=>?_,Q7⟩;have Ck:j<(Lib.splitV (Lib.bytesOf [47]) 0 (Lib.count (Lib.bytesOf t) (Lib.bytesOf [47])) (Ad b o) c (Lib.bytesOf t)).length:=by rw[Lib.splitV_length,e1,dZ];exact(bf.1 hj).1
 obtain⟨a',off,len,cp,ev,h1,h2,h3,h4⟩:=Lib.splitV_spec (Lib.bytesOf [47]) 0 aZ (fN _) _ (Ad b o) c (Lib.bytesOf t) (by rw[Lib.bytesOf_length,en];exact hn) j _ (bD Ck);rw[e1,nj,hj]at h3;rw[Lib.bytesOf_length]at h2;have enm:nm=(t.drop off).take len:=by refine DM (aJ1 hB nm (aY hj)) (λz hz=>hB z (GJ (GI hz))) ?_;rw[Lib.bytesOf_take,Lib.bytesOf_drop];simpa using h3
 have bf9:nm.length=len:=by rw[enm,od,sX];omega
 refine⟨some a',cp,?_,?_⟩;{rw[World.cell?_drewN,World.cell?_alloc_new,xQ,bD Ck,ev,bf9]};{
 refine⟨some a',cp,rfl,?_⟩;by_cases h0:len=0;{
 left
 exact sV.1 (bf9▸h0)};{
 right
 have ea:=h4 0 ae;rw[bE1,GK]at ea;refine⟨b,o+off,?_,λi hi=>?_⟩;{have:a'.add 0=a':=rfl;rw[<-this,ea]};{
 rw[bf9]at hi;have EW:((w.alloc (.cells (Lib.splitV (Lib.bytesOf [47]) 0 (Lib.count (Lib.bytesOf t) (Lib.bytesOf [47])) (Ad b o) c (Lib.bytesOf t)).toArray (Tryz.layS7_ren.t 22))).drewN q).cell? (Ad b (o+(off+i)))=some (.int .u8 (t.getD (off+i) 0)):=
  (Q7.cell (p:=(Ad b (o+(off+i)))) (nY w _ (hc (off+i) ae))).trans (hc (off+i) ae)
 rw[Km,EW,enm];have:((t.drop off).take len).getD i 0=t.getD (off+i) 0:=by simp[List.getD,GH,hi,Mq]
 rw[this]}}}
open Go.Proofs.Tryz
theorem aJ0{t:LI}:∀n∈dT (47:Int) t,n.length<=t.length:=by
 induction t with
 |nil=>intro n hn;simp[dT]at hn;subst hn;simp
 |cons x l ih=>
  intro n hn;rw[dT]at hn;split at hn;{rcases jG.1 hn with rfl|hn;{simp};{have:=ih n hn;simp;omega}};{
 cases hc:dT 47 l with
 |nil=>
  rw[hc]at hn;simp at hn;subst hn;simp
 |cons m ms=>
  rw[hc]at hn ih;rcases jG.1 hn with rfl|hn;{have:=ih m ai;simp;omega};{have:=ih n (by simp[hn]);simp;omega}}
theorem ai3{c n:Nat}(en:Hid (l.length=n)){w:World}(h:Rd w (.S p n c) l)(hb:Hid (aN l))(hl:Mg n)(hcn:n<=c)(EU:c<=maxLen)(hm:∃m,w.cell? (Ad 1 0)=some (.I m))(eB:Hid (vp l=B)):Calls prog 212 #[.S p n c] w λe w'=>e=.returned (.bool B)/\Below w.heap.size w w':=by
 have HR:=af h;have HM:=af hm;clear h hm;by_cases KH:n=0;{
 subst KH;have eF:B=false:=by
  rw[<-aa eB,sV.1 (aa en)]
  rfl
 subst eF
 go_in
 go_wp2;go_ret;exact⟨rfl,cR _ _⟩};have um:((n:Int)==0)=false:=by simp[KH]
 obtain⟨b,o,rfl,-,hc⟩:=HR.at (by rw[aa en];omega);obtain⟨x,t,el⟩:∃x t,l=x::t:=by
  cases l with
  |nil=>have:=aa en;simp at this;omega
  |cons x t=>exact⟨x,t,rfl⟩
 have hx:w.cell? (Ad b o)=some (.int .u8 x):=by have:=hc 0 (by rw[aa en];omega);rw[el]at this;exact this
 by_cases qm:x=47;{
 subst qm;have ent:t.length=n-1:=by have:=aa en;rw[el]at this;simp at this;omega
 have hct:∀i,i<n-1->w.cell? (Ad b (o+1+i))=some (.int .u8 (t.getD i 0)):=λi hi=>by have:=hc (1+i) (by rw[aa en];omega);rw[el,<-Km]at this;rw[this];simp[List.getD,ag0 1 i]
 have hbt:aN t:=λz hz=>aa hb z (by rw[el];simp[hz]);obtain⟨K,eK⟩:=aI ((dT 47 t).length);have cX:B=(decide (K<=8)&&(dT 47 t).all kP):=by rw[<-aa eB,el,vp,st,eK];simp
 have Uy:K<=n+1:=by have h1:=(FD hbt).2;have h2:=Lib.count_le (Lib.bytesOf t) (Lib.bytesOf [47]);rw[Lib.bytesOf_length,ent]at h2;omega
 obtain⟨N,eN⟩:=aI (n-1);obtain⟨C,eC⟩:=aI (c-1);have XD:∀(o':Nat)(w':World),(N=0\/o'=o+1)->Below w.heap.size w w'->w'.cell? (Ad w.heap.size 0)=some (.int .u8 47)->Cp 232 #[.S (some (Ad b o')) N C,.T w.heap.size 1 1] w' λe w''=>e=.returned (.T w'.heap.size K K)/\(∀j nm,(dT 47 t)[j]?=some nm->∃p' c',w''.cell? (Ad w'.heap.size j)=some (.S p' nm.length c')/\Rd w'' (.S p' nm.length c') nm)/\Below w'.heap.size w' w'':=by intro o' w' Wt bR hg;refine W8 (by rw[ent,eN]) (λi hi=>?_) hg hbt ae ae ae ?_ eK;{rcases Wt with h0|rfl;{omega};{exact(bR.cell (p:=(Ad b (o+1+i))) (nY w _ (hct i ae))).trans (hct i ae)}};{obtain⟨m,hm⟩:=aa HM;exact⟨m,(bR.cell (p:=(Ad 1 0)) (nY w _ hm)).trans hm⟩}
 have HSP:=af XD;have qz:=af cX;have EK:=af eK;have g1:=dA 1 n;have g2:=dA 1 c;have g3:=iH n c;have HN:=af (ah eN eC);clear XD cX hct hbt ent eK hc eN eC;have bA:Below w.heap.size w (w.alloc (.cells #[.int .u8 47] 5)):=au.alloc ao _;have tg:∀o',(N=0\/o'=o+1)->Cp 232 #[.S (some (Ad b o')) N C,.T w.heap.size 1 1] (w.alloc (.cells #[.int .u8 47] 5)) λe w''=>e=.returned (.T (w.heap.size+1) K K)/\(∀j nm,(dT 47 t)[j]?=some nm->∃p' c',w''.cell? (Ad (w.heap.size+1) j)=some (.S p' nm.length c')/\Rd w'' (.S p' nm.length c') nm)/\Below w.heap.size w w'':=by intro o' Wt;have e:(w.alloc (.cells #[.int .u8 47] 5)).heap.size=w.heap.size+1:=ai;have:=aa HSP o' _ Wt bA ai;rw[e]at this;refine this.mono ?_;rintro e1 w1⟨rfl,h1,h2⟩;refine⟨rfl,h1,?_⟩;rw[<-e]at h2;exact aj bA h2
 have HF:=af tg;clear tg bA;have hlen:∀nm∈dT (47:Int) t,nm.length<=2097152:=λnm xZ=>by have h1:=aJ0 nm xZ;have h2:=aa en;rw[el]at h2;simp at h2;omega
 have HL:=af hlen;clear hlen el;by_cases iW:c=1;{
 subst iW;obtain rfl:n=1:=ae
 go_in
 go_wp2_with fail;have MW:(0:Nat)=N:=aG HN.1;have hC0:(0:Nat)=C:=aG HN.2;have XD:=aa HF o (.inl MW.symm);rw[<-MW,<-hC0]at XD;clear MW hC0;refine XD.mono ?_;rintro e w2⟨rfl,hpc,aD⟩;have HP:=af hpc;clear XD hpc;by_cases hk8:K<=8;{
 have ba7:¬(8:Int)<(K:Int):=ae;go_wp2
 go_loopw[24](λi wr=>∃k:Nat,k<=K/\i=.I k/\Hid (∀j nm,j<k->(dT 47 t)[j]?=some nm->kP nm=true)/\Below w2.heap.size w2 wr) (λi _=>K-(intOf i).toNat)
 exact⟨0,fN _,rfl,(λj nm hj=>ae),cR _ _⟩;{
 obtain⟨k,hk,rfl,iV,aK⟩:=hrel;have BB:=aj aD aK;by_cases aT:k<K;{
 have bu:=aS k K;obtain⟨nm,xZ⟩:∃nm,(dT 47 t)[k]?=some nm:=⟨_,bD (aa EK▸aT)⟩;obtain⟨p',c',Su,II⟩:=aa HP k nm xZ;have Uq:=ag Su aK;have ME:=II.below aK;have hnl:=aa HL nm (aY xZ);obtain⟨nl,jJ⟩:=aI nm.length;rw[jJ]at Uq ME hnl;have ENL:=af jJ;have HNM:=af xZ;clear Su II jJ xZ;obtain⟨R,eR⟩:=aI (kP nm);have ER:=af eR;clear eR;go_wp2_with fail;refine(wV ENL ME hnl ER).mono ?_;rintro e w3⟨rfl,aL⟩;have b3:=aj aK aL;cases R with
 |true=>
  have vz:Hid (∀j nm,j<k+1->(dT 47 t)[j]?=some nm->kP nm=true):=λj nm' hj hj2=>by by_cases e:j=k;{subst e;have e2:=HNM.symm.trans hj2;simp at e2;rw[<-e2];exact aa ER};{exact iV j nm' ae hj2}
  clear Uq ME aL aK BB;go_wp2;go_roundw;exact⟨k+1,ae,by go_num,vz,b3⟩;exact bM
 | false=>
  have eF:B=false:=by
   rw[aa qz];have:(dT 47 t).all kP=false:=by rw[Qv];exact⟨nm,aY (aa HNM),by simp[aa ER]⟩
   rw[this];simp
  subst eF;clear Uq ME;go_wp2;go_ret;exact⟨rfl,aj BB aL⟩};{
 have bu:=dm k K;have eT:B=true:=by
  rw[aa qz];have:(dT 47 t).all kP=true:=by rw[jy];intro nm xZ;obtain⟨i,hi,rfl⟩:=Df xZ;exact aa iV i _ (by rw[aa EK]at hi;omega) (bD hi)
  simp[this,hk8]
 subst eT;go_wp2;go_ret;exact⟨rfl,BB⟩}}};{
 have ba7:=qi 8 K;have eF:B=false:=by rw[aa qz];simp[hk8]
 subst eF;go_wp2;go_ret;exact⟨rfl,aD⟩}};{
 have ct6:¬(c:Int)=1:=ae
 go_in
 go_wp2_with fail;have XD:=aa HF (o+1) (.inr rfl);rw[<-HN.1,<-HN.2]at XD;refine XD.mono ?_;rintro e w2⟨rfl,hpc,aD⟩;have HP:=af hpc;clear XD hpc;by_cases hk8:K<=8;{
 have ba7:¬(8:Int)<(K:Int):=ae;go_wp2
 go_loopw[24](λi wr=>∃k:Nat,k<=K/\i=.I k/\Hid (∀j nm,j<k->(dT 47 t)[j]?=some nm->kP nm=true)/\Below w2.heap.size w2 wr) (λi _=>K-(intOf i).toNat)
 exact⟨0,fN _,rfl,(λj nm hj=>ae),cR _ _⟩;{
 obtain⟨k,hk,rfl,iV,aK⟩:=hrel;have BB:=aj aD aK;by_cases aT:k<K;{
 have bu:=aS k K;obtain⟨nm,xZ⟩:∃nm,(dT 47 t)[k]?=some nm:=⟨_,bD (aa EK▸aT)⟩;obtain⟨p',c',Su,II⟩:=aa HP k nm xZ;have Uq:=ag Su aK;have ME:=II.below aK;have hnl:=aa HL nm (aY xZ);obtain⟨nl,jJ⟩:=aI nm.length;rw[jJ]at Uq ME hnl;have ENL:=af jJ;have HNM:=af xZ;clear Su II jJ xZ;obtain⟨R,eR⟩:=aI (kP nm);have ER:=af eR;clear eR;go_wp2_with fail;refine(wV ENL ME hnl ER).mono ?_;rintro e w3⟨rfl,aL⟩;have b3:=aj aK aL;cases R with
 |true=>
  have vz:Hid (∀j nm,j<k+1->(dT 47 t)[j]?=some nm->kP nm=true):=λj nm' hj hj2=>by by_cases e:j=k;{subst e;have e2:=HNM.symm.trans hj2;simp at e2;rw[<-e2];exact aa ER};{exact iV j nm' ae hj2}
  clear Uq ME aL aK BB;go_wp2;go_roundw;exact⟨k+1,ae,by go_num,vz,b3⟩;exact bM
 | false=>
  have eF:B=false:=by
   rw[aa qz];have:(dT 47 t).all kP=false:=by rw[Qv];exact⟨nm,aY (aa HNM),by simp[aa ER]⟩
   rw[this];simp
  subst eF;clear Uq ME;go_wp2;go_ret;exact⟨rfl,aj BB aL⟩};{
 have bu:=dm k K;have eT:B=true:=by
  rw[aa qz];have:(dT 47 t).all kP=true:=by rw[jy];intro nm xZ;obtain⟨i,hi,rfl⟩:=Df xZ;exact aa iV i _ (by rw[aa EK]at hi;omega) (bD hi)
  simp[this,hk8]
 subst eT;go_wp2;go_ret;exact⟨rfl,BB⟩}}};{
 have ba7:=qi 8 K;have eF:B=false:=by rw[aa qz];simp[hk8]
 subst eF;go_wp2;go_ret;exact⟨rfl,aD⟩}}};{
 have hx1:(x==47)=false:=by simp[qm]
 have hx2:(x != 47)=true:=by simp[qm]
 have eF:B=false:=by rw[<-aa eB,el,vp];exact OR qm
 subst eF
 go_in
 go_wp2;go_ret;exact⟨rfl,cR _ _⟩}
def Lv{c n:Nat}(en:Hid (l.length=n)){w:World}(h:Rd w (.S p n c) l)(hb:Hid (aN l))(hl:Mg n)(eB:Hid (vp l=B)):Calls prog 126 #[.S p n c] w λe w'=>e=.returned (.bool B)/\Below w.heap.size w w':=by
 go_in
 go_wp2_with fail;refine(QG en h hb hl eB).mono ?_;rintro e w1⟨⟨v,rfl⟩,aA⟩;go_wp2;go_ret;exact⟨rfl,aA⟩
abbrev Ev:=Int×LI
abbrev aP:=Int×Int×List Ev
structure aC where
 path:LI
 value:LI
 owner:Int
 mode:Int
 holders:LI
 aJ:Int
 gen:Int
 watchers:LI
def rD(w:World)(v:Value)(ns:LI):Prop:=
 ∃(p:OA)(c:Nat),v=.S p ns.length c/\(ns=[]\/∃b o,p=some (Ad b o)/\∀i,i<ns.length->w.cell? (Ad b (o+i))=some (.U (ns.getD i 0)))
def Oo(w:World)(v:Value)(es:List Ev):Prop:=
 ∃(p:OA)(c:Nat),v=.S p es.length c/\(es=[]\/∃b o,p=some (Ad b o)/\∀i e,es[i]?=some e->w.cell? (Ad b (o+i*2))=some (.I e.1)/\∃u,w.cell? (Ad b (o+i*2+1))=some u/\Rd w u e.2)
def yL(w:World)(v:Value)(ss:List aP):Prop:=
 ∃(p:OA)(c:Nat),v=.S p ss.length c/\(ss=[]\/∃b o,p=some (Ad b o)/\∀i s,ss[i]?=some s->w.cell? (Ad b (o+i*3))=some (.U s.1)/\w.cell? (Ad b (o+i*3+1))=some (.I s.2.1)/\∃u,w.cell? (Ad b (o+i*3+2))=some u/\Oo w u s.2.2)
def rD.below{w w':World}{ns:LI}(h:rD w v ns)(hb:Bw w w'):rD w' v ns:=by
 obtain⟨p,c,rfl,h⟩:=h;refine⟨p,c,rfl,?_⟩;rcases h with h|⟨b,o,rfl,h⟩;{exact .inl h};{exact .inr ⟨b,o,rfl,λi hi=>ag (h i hi) hb⟩}
def Oo.below{w w':World}{es:List Ev}(h:Oo w v es)(hb:Bw w w'):Oo w' v es:=by
 obtain⟨p,c,rfl,h⟩:=h;refine⟨p,c,rfl,?_⟩;rcases h with h|⟨b,o,rfl,h⟩;{exact .inl h};{refine .inr ⟨b,o,rfl,λi e he=>?_⟩;obtain⟨h1,u,h2,h3⟩:=h i e he;exact⟨ag h1 hb,u,ag h2 hb,h3.below hb⟩}
def yL.below{w w':World}{ss:List aP}(h:yL w v ss)(hb:Bw w w'):yL w' v ss:=by
 obtain⟨p,c,rfl,h⟩:=h;refine⟨p,c,rfl,?_⟩;rcases h with h|⟨b,o,rfl,h⟩;{exact .inl h};{refine .inr ⟨b,o,rfl,λi e he=>?_⟩;obtain⟨h1,h2,u,h3,h4⟩:=h i e he;exact⟨ag h1 hb,ag h2 hb,u,ag h3 hb,h4.below hb⟩}
abbrev ft(e g x n:Int)(S N:Value):Value:=.agg #[.U e,.U g,.U x,.I n,S,N]
def pX{e g:Int}{c n:Nat}{N:Value}{ss:List aP}(en:Hid (ss.length=n)){w:World}(h:yL w (.S p n c) ss)(hn:Mg n){id:Int}(eB:Hid ((ss.any λs=>s.1==id)=B)):Calls prog 180 #[ft e g x t (.S p n c) N,.U id] w (Rb (.bool B) w):=by
 have HR:=af λ(w':World)(hb:Bw w w')=>h.below hb;clear h
 go_in
 go_wp2_with fail;obtain⟨W,hW⟩:=az (w.alloc (.cells #[.U e,.U g,.U x,.I t,.S p n c,N] 35));have bW:=ew hW;have Og:W.cell? (Ad w.heap.size 4)=some (.S p n c):=by rw[hW];simp
 rw[<-hW];clear hW;have hS:=aa HR _ bW;have HS:=af hS;have BW:=af bW;clear hS bW HR
 go_loopw[5](λiv wr=>∃k:Nat,k<=n/\iv=.I k/\Hid (((ss.take k).any λs=>s.1==id)=false)/\wr=W) (λiv _=>n-(intOf iv).toNat)
 exact⟨0,fN _,rfl,(by show _=_;simp),rfl⟩;{
 obtain⟨k,hk,rfl,l9,rfl⟩:=hrel;by_cases aT:k<n;{
 have bu:=aS k n;have fh:k<ss.length:=by rw[aa en];exact aT
 obtain⟨y,hy⟩:∃y,ss[k]?=some y:=⟨_,bD fh⟩;obtain⟨p',c',ev,hd⟩:=aa HS;simp only[qZ]at ev;obtain⟨rfl,-,-⟩:=ev;obtain⟨b,o,rfl,cW⟩:∃b o,p=some (Ad b o)/\∀i s,ss[i]?=some s->wr.cell? (Ad b (o+i*3))=some (.U s.1):=by rcases hd with h0|⟨b,o,h1,h2⟩;{rw[h0]at fh;simp at fh};{exact⟨b,o,h1,λi s hi=>(h2 i s hi).1⟩}
 have Dx:=cW k y hy;have HY:=af hy;clear cW hd hy fh;by_cases hid:y.1=id;{
 have eT:B=true:=by rw[<-aa eB,Kl];exact⟨y,aY (aa HY),by simp[hid]⟩
 subst eT;have bB5:(y.1==id)=true:=by simp[hid]
 go_wp2;go_ret;exact⟨rfl,BW⟩};{
 have bB5:(y.1==id)=false:=by simp[hid]
 have aj8:Hid (((ss.take (k+1)).any λs=>s.1==id)=false):=by show _=_;rw[ni,aa HY,List.any_append,aa l9];simp[bB5]
 go_wp2;go_roundw;exact⟨k+1,ae,by go_num,aj8,by first|rfl|trivial⟩;exact bM}};{
 have bu:=dm k n;have eF:B=false:=by rw[<-aa eB];have:=aa l9;rwa [ke (by rw[aa en];omega)]at this
 subst eF;go_wp2;go_ret;exact⟨rfl,BW⟩}}
def live(ss:List aP)(id:Int):Bool:=ss.any λs=>s.1==id
def Jm(ss:List aP)(ids:LI)(i:Nat):Bool:=live ss (ids.getD i 0)&&(i==0||decide (ids.getD (i-1) 0<ids.getD i 0))
def iR(ss:List aP)(ids:LI):Bool:=(List.range ids.length).all (Jm ss ids)
def dX(h:(List.range k).all f=true)(hk:f k=true):(List.range (k+1)).all f=true:=by
 rw[af7,List.all_append,h];simp[hk]
def gJ{k n:Nat}(hk:k<n)(h:f k=false):(List.range n).all f=false:=by
 rw[Qv];exact⟨k,Cd.2 hk,by simp[h]⟩
abbrev jO(w:World)(b:Nat)(e g x t:Int)(S N:Value):Prop:=w.cell? (Ad b 0)=some (.U e)/\w.cell? (Ad b 1)=some (.U g)/\w.cell? (Ad b 2)=some (.U x)/\w.cell? (Ad b 3)=some (.I t)/\w.cell? (Ad b 4)=some S/\w.cell? (Ad b 5)=some N
def jO.below{w w':World}{e g:Int}{S N:Value}(h:jO w b e g x t S N)(hb:Bw w w'):jO w' b e g x t S N:=
 ⟨ag h.1 hb,ag h.2.1 hb,ag h.2.2.1 hb,ag h.2.2.2.1 hb,ag h.2.2.2.2.1 hb,ag h.2.2.2.2.2 hb⟩
theorem qH{e g:Int}{p q:OA}{c n d m:Nat}{N:Value}{ss:List aP}{ids:LI}(en:Hid (ss.length=n))(em:Hid (ids.length=m)){w:World}(h:yL w (.S p n c) ss)(hi:rD w (.S q m d) ids)(hn:Mg n)(hm:Mg m)(eB:Hid (iR ss ids=B)):Calls prog 181 #[ft e g x t (.S p n c) N,.S q m d] w (Rb (.bool B) w):=by
 have HR:=af λ(w':World)(hb:Bw w w')=>ah (h.below hb) (hi.below hb)
 go_in
 go_wp2_with fail;obtain⟨W,hW⟩:=az (w.alloc (.cells #[.U e,.U g,.U x,.I t,.S p n c,N] 35));have bW:=ew hW;have yh:jO W w.heap.size e g x t (.S p n c) N:=by rw[hW];simp[jO]
 rw[<-hW];have BW:=af bW;have YF:=af yh
 go_loopw[5](λiv wr=>∃k:Nat,k<=m/\iv=.I k/\Hid ((List.range k).all (Jm ss ids)=true)/\Bw W wr) (λiv _=>m-(intOf iv).toNat)
 exact⟨0,fN _,rfl,bq,cR _ _⟩;{
 obtain⟨k,hk,rfl,iV,aK⟩:=hrel;have BB:=aj BW aK;by_cases aT:k<m;{
 have bu:=aS k m;have fh:k<ids.length:=aa em▸aT;obtain⟨hS,hU⟩:=aa HR _ BB;obtain⟨b,o,rfl,cW⟩:∃b o,q=some (Ad b o)/\∀i,i<m->wr.cell? (Ad b (o+i))=some (.U (ids.getD i 0)):=by obtain⟨p',c',ev,hd⟩:=hU;obtain⟨rfl,-,-⟩:=js ev;rcases hd with h0|⟨b,o,h1,h2⟩;{rw[h0]at fh;simp at fh};{exact⟨b,o,h1,λi hi=>h2 i (aa em▸hi)⟩}
 have i6:=YF.below aK;have Dx:=cW k aT;obtain⟨y,ey⟩:=aI (ids.getD k 0);rw[ey]at Dx;have HSS:=af hS;obtain⟨L,eL⟩:=aI (live ss y);have EL:Hid ((ss.any λs=>s.1==y)=L):=eL;have fT:Jm ss ids k=(L&&(k==0||decide (ids.getD (k-1) 0<y))):=by rw[Jm,ey,eL]
 have hF:Jm ss ids k=false->B=false:=λh=>by rw[<-aa eB,iR,aa em];exact gJ aT h
 cases L with
 |false=>
  have eF:=hF (by rw[fT];rfl);subst eF;have K0:=af (ah i6 Dx);go_wp2_with fail;refine dC (λw'=>jO w' w.heap.size e g x t (.S p n c) N/\w'.cell? (Ad b (o+k))=some (.U y)) (by exact K0) λhS=>?_;refine mU 0 1 2 3 hS ?_;refine tn 4 hS ?_;refine ry [5] ?_;refine cn (λKK hK=>?_) ?_;{refine yZ (pX en (HSS.below au.drew) hn EL) ?_;rintro r w2⟨rfl,aD⟩;refine⟨_,rfl,?_⟩;have bR:Bw wr w2:=aj (cR wr.heap.size wr).drew aD;refine gr hK ⟨K0.1.below bR,ag K0.2 bR⟩ λhS=>?_;refine kG 6 7 hS ?_;refine oI 8 9 10 11 hS ?_;refine oI 12 13 14 15 hS ?_;refine oI 16 17 18 19 hS ?_;refine sn 20 hS ?_;refine sn 21 hS ?_;refine tn 22 hS ?_;refine dw ?_;have b2:=aj BB bR;go_wp2;go_ret;exact⟨rfl,b2⟩};exact eG
 |true=>
  by_cases QZ:k=0;{have vz:Hid ((List.range (k+1)).all (Jm ss ids)=true):=dX (aa iV) (by rw[fT,QZ];rfl);have HK0:=af QZ;have hp:¬0<k:=ae;have hp':¬(0:Int)<(k:Int):=ae;have K0:=af (ah i6 Dx);clear fT hF eL cW ey QZ i6 Dx;go_wp2_with fail;refine dC (λw'=>jO w' w.heap.size e g x t (.S p n c) N/\w'.cell? (Ad b (o+k))=some (.U y)) (by exact K0) λhS=>?_;refine mU 0 1 2 3 hS ?_;refine tn 4 hS ?_;refine dM 5 λKK hK=>?_;refine yZ (pX en (HSS.below au.drew) hn EL) ?_;rintro r w2⟨rfl,aD⟩;refine⟨_,rfl,?_⟩;have bR:Bw wr w2:=aj (cR wr.heap.size wr).drew aD;refine gr hK ⟨K0.1.below bR,ag K0.2 bR⟩ λhS=>?_;clear hK KK;refine mU 6 7 8 9 hS ?_;refine tn 10 hS ?_;refine oI 11 12 13 14 hS ?_;refine oI 15 16 17 18 hS ?_;refine sn 19 hS ?_;refine sn 20 hS ?_;refine kG 21 22 hS ?_;refine dw ?_;have b2:=aj aK bR;go_wp2;go_roundw;exact⟨k+1,ae,by go_num,vz,b2⟩;exact bM};{
 obtain⟨j,ej⟩:∃j:Nat,(k:Int)-1=(j:Int):=⟨k-1,ae⟩;have Yd:k-1=j:=ae;have hcz:=cW j ae;obtain⟨z,ez⟩:=aI (ids.getD j 0);rw[ez]at hcz;rw[Yd,ez]at fT;have hp:0<k:=ae;have hp':=qi 0 k;have hjm:=aS j m;have hj0:=dA 0 j;have wj:=fk j;by_cases hzy:z<y;{
 have hle:¬y<=z:=ae;have ba3:decide (y<=z)=false:=by simp;omega
 have vz:Hid ((List.range (k+1)).all (Jm ss ids)=true):=dX (aa iV) (by rw[fT];simp[hzy]);have K0:=af (ah i6 (ah Dx hcz));go_wp2_with fail;refine dC (λw'=>jO w' w.heap.size e g x t (.S p n c) N/\w'.cell? (Ad b (o+k))=some (.U y)/\w'.cell? (Ad b (o+j))=some (.U z)) (by exact K0) λhS=>?_;refine mU 0 1 2 3 hS ?_;refine tn 4 hS ?_;refine dM 5 λKK hK=>?_;refine yZ (pX en (HSS.below au.drew) hn EL) ?_;rintro r w2⟨rfl,aD⟩;refine⟨_,rfl,?_⟩;have bR:Bw wr w2:=aj (cR wr.heap.size wr).drew aD;refine gr hK ⟨K0.1.below bR,ag K0.2.1 bR,ag K0.2.2 bR⟩ λhS=>?_;refine nK 6 7 8 9 10 11 12 13 hS ?_;refine nK 14 15 16 17 18 19 20 21 hS ?_;refine tn 22 hS ?_;refine dw ?_;have b2:=aj aK bR;go_wp2;go_roundw;exact⟨k+1,ae,by go_num,vz,b2⟩;exact bM};{
 have hle:y<=z:=ae;have ba3:decide (y<=z)=true:=by simp;omega
 have eF:=hF (by rw[fT];simp[hzy,QZ]);subst eF;have K0:=af (ah i6 (ah Dx hcz));go_wp2_with fail;refine dC (λw'=>jO w' w.heap.size e g x t (.S p n c) N/\w'.cell? (Ad b (o+k))=some (.U y)/\w'.cell? (Ad b (o+j))=some (.U z)) (by exact K0) λhS=>?_;refine mU 0 1 2 3 hS ?_;refine tn 4 hS ?_;refine dM 5 λKK hK=>?_;refine yZ (pX en (HSS.below au.drew) hn EL) ?_;rintro r w2⟨rfl,aD⟩;refine⟨_,rfl,?_⟩;have bR:Bw wr w2:=aj (cR wr.heap.size wr).drew aD;refine gr hK ⟨K0.1.below bR,ag K0.2.1 bR,ag K0.2.2 bR⟩ λhS=>?_;refine nK 6 7 8 9 10 11 12 13 hS ?_;refine nK 14 15 16 17 18 19 20 21 hS ?_;refine tn 22 hS ?_;refine dw ?_;have b2:=aj BB bR;go_wp2;go_ret;exact⟨rfl,b2⟩}}};{
 have bu:=dm k m;have eT:B=true:=by
  rw[<-aa eB,iR,aa em];have:k=m:=by omega
  rw[<-this];exact iV
 subst eT;go_wp2;go_ret;exact⟨rfl,BB⟩}}
def DS:Nat->Nat->LI
 |0,n=>[(n:Int)]
 |f+1,n=>if n<128 then[(n:Int)]else((n % 128+128:Nat):Int)::DS f (n / 128)
def vi(n:Nat):LI:=DS 9 n
theorem Bk{f n:Nat}(h:n<128):DS f n=[(n:Int)]:=by
 cases f with
 |zero=>rfl
 |succ f=>rw[DS,bN h]
def Lh{f n:Nat}(h:¬n<128):DS (f+1) n=((n % 128+128:Nat):Int)::DS f (n / 128):=by rw[DS,bG h]
theorem Vo(f:Nat):∀n,1<=(DS f n).length/\(DS f n).length<=f+1:=by
 induction f with
 |zero=>intro n;simp[DS]
 |succ f ih=>
  intro n;rw[DS];split;{simp};{have:=ih (n / 128);simp;omega}
theorem ay9(f:Nat):∀n,n<128 ^ (f+1)->aN (DS f n):=by
 induction f with
 |zero=>intro n hn z hz;simp[DS]at hz;subst hz;simp at hn;omega
 |succ f ih=>
  intro n hn;rw[DS];split;{intro z hz;simp at hz;subst hz;omega};{intro z hz;rcases jG.1 hz with rfl|hz;{omega};{exact ih (n / 128) (by rw[af6 ae];rw[Qt]at hn;exact hn) z hz}}
def kF{n:Nat}(h:n<18446744073709551616):aN (vi n):=ay9 9 n (by omega)
def fq(n:Nat):1<=(vi n).length/\(vi n).length<=10:=Vo 9 n
def aN.app(h:aN l)(k:aN m):aN (l++m):=λz hz=>by
 rcases gM.1 hz with hz|hz;{exact h z hz};{exact k z hz}
def aX6:((List.range 256).all λy=>bits .or .u8 (y:Int) 128==((y % 128+128:Nat):Int))=true:=by decide +kernel
def bt9{x:Nat}:bits .or .u8 ((x:Int) % 256) 128=((x % 128+128:Nat):Int):=by
 have h:=jy.1 aX6 (x % 256) (Cd.2 (Nat.mod_lt _ ae));have h2:=Mo.1 h;rw[show((x:Int) % 256)=((x % 256:Nat):Int) by omega,h2]
 congr 1
 omega
theorem Cg(f:Nat):∀(v:Nat)(w:World),v<128 ^ (f+1)->v<18446744073709551616->f<=9->∀(N:Nat),Hid ((DS f v).length=N)→
  Calls prog 81 #[.U v] w λe w'=>∃p' c',e=.returned (.S p' N c')/\Own w.heap.size w' (.S p' N c') (DS f v)/\Bw w w':=by
 induction f with
 |zero=>
  intro v w hv h64 hf N hN;have h:v<128:=by simpa using hv
  have IK:N=1:=by rw[<-aa hN];rfl
  subst IK;have h':(v:Int)<128:=ae;have wv:IntKind.u8.wrap (v:Int)=(v:Int):=by rw[Ai];omega
  go_in
  go_wp2;go_ret;exact⟨_,_,rfl,(by have:=Own.one w (v:Int);exact this),au.alloc ao _⟩
 |succ f ih=>
  intro v w hv h64 hf N hN;by_cases h:v<128;{
 have e:DS (f+1) v=[(v:Int)]:=Bk h;have IK:N=1:=by rw[<-aa hN,e];rfl
 subst IK;rw[e];have h':(v:Int)<128:=ae;have wv:IntKind.u8.wrap (v:Int)=(v:Int):=by rw[Ai];omega
 clear e hN ih
 go_in
 go_wp2;go_ret;exact⟨_,_,rfl,(by have:=Own.one w (v:Int);exact this),au.alloc ao _⟩};{
 have h':¬(v:Int)<128:=ae;obtain⟨V,eV⟩:=aI (v / 128);have hd:(v:Int) / 128=(V:Int):=ae;have Y7:V<128 ^ (f+1):=by rw[<-eV,af6 ae];rw[Qt]at hv;exact hv
 obtain⟨M,eM⟩:=aI ((DS f V).length);have hM:=Vo f V;have hih:∀w:World,_:=λw=>ih V w Y7 ae ae M eM;have e:DS (f+1) v=[((v % 128+128:Nat):Int)]++DS f V:=by rw[Lh h,eV];rfl
 obtain⟨y,ey⟩:∃y:Int,(v:Int) % 128+128=y:=⟨_,rfl⟩;have ey2:(((v % 128+128:Nat)):Int)=y:=by rw[<-ey];omega
 rw[ey2]at e;have hNM:N=1+M:=by rw[<-aa hN,e,ir,eM];rfl
 have HIH:=af hih;have EE:=af e;have EM:=af eM;rw[eM]at hM;clear hih e eV ih hN eM
 go_in
 go_wp2_with fail
 try rw[hd]
 try rw[ey]
 refine(aa HIH _).mono ?_;rintro e w1⟨p1,c1,rfl,o1,aA⟩;have oo:Own w.heap.size (w.alloc (.cells #[.int .u8 y] 5)) (.T w.heap.size 1 1) [y]:=Own.one w y;have oo1:=Own.below oo aA;have bA:Bw w (w.alloc (.cells #[.int .u8 y] 5)):=au.alloc ao _;have b1:=aj bA aA;have z1:=b1.size;have r1:=o1.rd;clear oo aA bA o1;go_wp2_with(at_builtin;refine bQ rfl rfl (.T w.heap.size 1 1) EE p1 c1 M EM rfl rfl oo1 r1 (by rw[aa EM];simp;omega) ae ?_);intro p2 c2 w2 o2 gi;have b2:=dz b1 gi oo1 ao ae;have eL:(DS (f+1) v).length=N:=by rw[aa EE,ir,aa EM,hNM];rfl
 rw[eL]at o2⊢;clear gi oo1 r1 b1;go_wp2;go_ret;exact⟨p2,c2,rfl,o2,b2⟩}
theorem jd{v:Nat}{w:World}(h64:v<18446744073709551616):Calls prog 166 #[.U v] w λe w'=>∃p' c',e=.returned (.S p' (vi v).length c')/\Own w.heap.size w' (.S p' (vi v).length c') (vi v)/\Bw w w':=by
 go_in
 go_wp2
 go_loopw[0,3](λnv ov wr=>∃(x f N:Nat)(pre:LI)(pv:OA)(cv:Nat),nv=.U x/\x<18446744073709551616/\Hid (x<128 ^ (f+1))/\N+f<=9/\ov=.S pv N cv/\Hid (pre.length=N)/\Hid (vi v=pre++DS f x)/\Own w.heap.size wr (.S pv N cv) pre/\Bw w wr) (λnv _ _=>(intOf nv).toNat)
 exact⟨v,9,0,[],none,0,rfl,h64,(by show _<_;omega),ae,rfl,rfl,rfl,gC _ _ _ _,cR _ _⟩;{
 obtain⟨x,f,N,pre,pv,cv,rfl,hx,hxf,hNf,rfl,eN,eV,ho,aK⟩:=hrel;have zr:=aK.size;by_cases h:x<128;{
 have h':¬(128:Int)<=(x:Int):=ae;have wx:IntKind.u8.wrap (x:Int)=(x:Int):=by rw[Ai];omega
 have eE:Hid (vi v=pre++[(x:Int)]):=by show _=_;rw[aa eV,Bk h]
 go_wp2_with(at_builtin;refine fo rfl rfl (.S pv N cv) eE wr.heap.size rfl rfl (Own.below ho (au.alloc ao _)) ai (by rw[aa eN];omega) aU ?_);intro p2 c2 w2 o2 gi;have b2:Bw w w2:=(aK.alloc aK.size _).grown gi aU (λk hk=>(ho.lt k hk).1);clear gi;go_wp2;go_ret;exact⟨p2,c2,rfl,o2,b2⟩};{
 have h':=dA 128 x;obtain⟨f',rfl⟩:∃f',f=f'+1:=by
  cases f with
  |zero=>have:=aa hxf;simp at this;omega
  |succ f'=>exact⟨f',rfl⟩
 obtain⟨X,eX⟩:=aI (x / 128);have hX:Hid (X<128 ^ (f'+1)):=by show _<_;have:=aa hxf;rw[<-eX,af6 ae];rw[Qt]at this;exact this
 obtain⟨y,ey⟩:∃y:Int,((x % 128+128:Nat):Int)=y:=⟨_,rfl⟩;have XG:=bt9 (x:=x);rw[ey]at XG;have hd:(x:Int) / 128=(X:Int):=ae;have eV2:Hid (vi v=(pre++[y])++DS f' X):=by show _=_;rw[aa eV,Lh h,eX,ey];simp
 have hXx:X<x:=ae;have hy:ey=ey:=rfl;obtain⟨bt7,ep0⟩:=az (pre++[y]);have eP:=af ep0;have eN2:Hid (bt7.length=N+1):=by show _=_;rw[ep0,ir,aa eN];rfl
 rw[<-ep0]at eV2;clear ep0 eX ey hy;go_wp2_with(at_builtin;refine fo rfl rfl (.S pv N cv) eP wr.heap.size rfl rfl (Own.below ho (au.alloc ao _)) ai (by rw[aa eN];omega) aU ?_);intro p2 c2 w2 o2 gi;have b2:Bw w w2:=(aK.alloc aK.size _).grown gi aU (λk hk=>(ho.lt k hk).1);rw[aa eN2]at o2⊢;clear gi;go_wp2;go_roundw;exact⟨X,f',N+1,bt7,p2,c2,by go_num,ae,hX,ae,rfl,eN2,eV2,o2,b2⟩
 case measure=>simp[intOf];omega}}
def uf(k:Nat)(v x:Int):Int:=bits .or .u64 v (IntKind.u64.wrap (x % 128*2 ^ (7*k)))
def tC{v:Int}:0<=uf k v x/\uf k v x<18446744073709551616:=by
 have h1:=bits_lo_u64 .or v (IntKind.u64.wrap (x % 128*2 ^ (7*k)));have h2:=bits_hi_u64 .or v (IntKind.u64.wrap (x % 128*2 ^ (7*k)));unfold uf;omega
def tm(x:Nat):(x:Int) % 128=((x % 128:Nat):Int):=by omega
def Is{x:Nat}{c:Int}(hc:c % 128=(x:Int))(hx:x<128)(ha:a<2 ^ (7*k))(hs:a+x*2 ^ (7*k)<18446744073709551616):uf k a c=((a+x*2 ^ (7*k):Nat):Int):=by
 unfold uf;rw[hc];have e2:IntKind.u64.wrap ((x:Int)*2 ^ (7*k))=((x*2 ^ (7*k):Nat):Int):=by
  rw[jj];have:((x:Int)*2 ^ (7*k))=((x*2 ^ (7*k):Nat):Int):=by push_cast;rfl
  rw[this];omega
 rw[e2];have hj:=bits_join_low .u64 64 aZ wraps_u64 (7*k) (a:Int) ((x*2 ^ (7*k):Nat):Int) ae (by exact_mod_cast ha) ae ae (by
  have:((x*2 ^ (7*k):Nat):Int) % 2 ^ (7*k)=((x*2 ^ (7*k) % 2 ^ (7*k):Nat):Int):=by push_cast;rfl
  rw[this,Nat.mul_mod_left]
  rfl) ae
 rw[hj]
 push_cast
 rfl
def LJ:Nat->Nat->Int->LI->Option (Int×LI)
 |0,_,_,_=>none
 |_+1,_,_,[]=>none
 |f+1,k,a,c::t=>if c<128 then some (uf k a c,t)else LJ f (k+1) (uf k a c) t
def rv(m:LI):Option (Int×LI):=LJ 10 0 0 m
def Pt(k:Nat):2 ^ (7*(k+1))=128*2 ^ (7*k):=by
 rw[Nat.mul_add,Nat.pow_add,Qq]
theorem aW8(f:Nat):∀(k a x:Nat)(rest:LI),x<128 ^ (f+1)->a<2 ^ (7*k)->a+x*2 ^ (7*k)<18446744073709551616->LJ (f+1) k a (DS f x++rest)=some (((a+x*2 ^ (7*k):Nat):Int),rest):=by
 induction f with
 |zero=>
  intro k a x rest hx ha hs;have XC:x<128:=by simpa using hx
  rw[DS];simp only[D6,Gp,LJ];rw[bN ae,Is (by rw[tm];omega) XC ha hs]
 |succ f ih=>
  intro k a x rest hx ha hs;by_cases h:x<128;{rw[Bk h];simp only[D6,Gp,LJ];rw[bN ae,Is (by rw[tm];omega) h ha hs]};{
 rw[Lh h];simp only[D6,LJ];have hdm:=Nat.div_add_mod x 128;have hml:=Nat.mod_lt x (show 0<128 by omega);generalize x / 128=q at*;generalize x % 128=r at*;subst hdm;have aZ4:(128*q+r)*2 ^ (7*k)=q*2 ^ (7*(k+1))+r*2 ^ (7*k):=by rw[Pt,Nat.add_mul,Qq 128 q,Nat.mul_assoc]
 rw[bG ae,Is (by rw[tm];omega) hml ha (by rw[aZ4]at hs;omega),ih (k+1) (a+r*2 ^ (7*k)) q rest ?_ ?_ ?_];{
 rw[aZ4]
 congr 2
 simp;omega};{rw[Qt]at hx;omega};{rw[Pt];have:r*2 ^ (7*k)<=127*2 ^ (7*k):=Qp _ ae;omega};{rw[aZ4]at hs;omega}}
def VA{s:Nat}(rest:LI)(hs:s<18446744073709551616):rv (vi s++rest)=some ((s:Int),rest):=by
 have:=aW8 9 0 0 s rest ae aZ ae;simpa[rv,vi]using this
theorem vL(f:Nat):∀(k:Nat)(a:Int)(m:LI)(v:Int)(t:LI),LJ f k a m=some (v,t)->0<=v/\v<18446744073709551616/\t.length<m.length/\t=m.drop (m.length-t.length):=by
 induction f with
 |zero=>intro k a m v t h;simp[LJ]at h
 | succ f ih=>
  intro k a m v t h;cases m with
  |nil=>simp[LJ]at h
  |cons c m=>
   rw[LJ]at h;split at h;{
 simp at h;obtain⟨rfl,rfl⟩:=h;have:=tC (k:=k) (v:=a) (x:=c);refine⟨this.1,this.2,ai,?_⟩;rw[iT,show m.length+1-m.length=1 by omega]
 rfl}
   {obtain⟨h1,h2,h3,h4⟩:=ih _ _ _ _ _ h;refine⟨h1,h2,aU,?_⟩;rw[iT,show m.length+1-t.length=(m.length-t.length)+1 by omega,xO];exact h4}
def vOf:Option (Int×LI)->Int
 |some x=>x.1
 |none=>0
def aOf(n:Nat):Option (Int×LI)->Int
 |some x=>(n:Int)-x.2.length
 |none=>-1
def LY{c n:Nat}{w:World}:Calls prog 68 #[.S p n c,.I (-1)] w λe w'=>e=.returned (.tuple #[.I 0,.I (-1)])/\w'=w:=by
 go_in
 go_wp2
 go_ret2
 exact⟨rfl,rfl⟩
def L5{c n:Nat}{w:World}(hl:Mg n):Calls prog 68 #[.S p n c,.I n] w λe w'=>e=.returned (.tuple #[.I 0,.I (-1)])/\w'=w:=by
 have h0:¬(n:Int)<0:=ae;have h1:=iH n n
 go_in
 go_wp2
 go_ret2
 exact⟨rfl,rfl⟩
def Po{c n a:Nat}(en:Hid (l.length=n)){w:World}(h:Rd w (.S p n c) l)(hb:aN l)(hl:Mg n)(ha:a<n):Calls prog 68 #[.S p n c,.I a] w λe w'=>e=.returned (.tuple #[.I (l.getD a 0),.I ((a+1:Nat):Int)])/\w'=w:=by
 obtain⟨b,o,rfl,-,hc⟩:=h.at (by rw[aa en];omega);have Dx:=hc a (aa en▸ha);have hx:0<=l.getD a 0/\l.getD a 0<256:=by have Uw:a<l.length:=aa en▸ha;rw[show l.getD a 0=l[a] by simp[List.getD,Uw]];exact hb _ (Ac Uw)
 obtain⟨x,ex⟩:=aI (l.getD a 0);rw[ex]at Dx hx⊢;have h0:¬(a:Int)<0:=ae;have h1:¬(n:Int)<=(a:Int):=ae;have h2:=aS a n;have wx:IntKind.i64.wrap x=x:=jL _ ae;clear hc ex
 go_in
 go_wp2
 go_ret2
 exact⟨ai,rfl⟩
def CL{c n:Nat}{w:World}:Calls prog 66 #[.S p n c,.I (-1)] w λe w'=>e=.returned (.tuple #[.U 0,.I (-1)])/\w'=w:=by
 go_in
 go_wp2_with fail
 go_loopw[6,7](λnv iv wr=>nv=.U 0/\iv=.I 0/\wr=w) (λ_ iv _=>10-(intOf iv).toNat)
 exact⟨rfl,rfl,rfl⟩;{
 obtain⟨rfl,rfl,rfl⟩:=hrel;go_wp2
 go_ret2
 exact⟨rfl,rfl⟩}
def UL(h:a<l.length):l.drop a=l.getD a 0::l.drop (a+1):=by
 rw[Mr h];simp[List.getD,h]
def FT{c n a:Nat}(en:Hid (l.length=n)){w:World}(h:Rd w (.S p n c) l)(hb:aN l)(hl:Mg n)(ha:a<=n){r:Option (Int×LI)}(er:Hid (rv (l.drop a)=r)):Calls prog 66 #[.S p n c,.I a] w λe w'=>e=.returned (.tuple #[.U (vOf r),.I (aOf n r)])/\w'=w:=by
 have HR:=af h;have HB:=af hb;have ha0:¬(a:Int)<0:=ae;clear h hb
 go_in
 go_wp2_with fail
 go_loopw[6,7](λnv iv wr=>∃(v:Int)(k:Nat),nv=.U v/\k<=10/\iv=.I k/\Hid (r=LJ (10-k) k v (l.drop (a+k)))/\wr=w) (λ_ iv _=>10-(intOf iv).toNat)
 exact⟨0,0,rfl,ae,rfl,(by show _=_;rw[<-aa er];rfl),rfl⟩;{
 obtain⟨v,k,rfl,hk,rfl,hr,rfl⟩:=hrel;by_cases h10:k<10;{
 have bf1:(k:Int)<10:=ae;obtain⟨A,eA⟩:∃A:Nat,(a:Int)+(k:Int)=(A:Int):=⟨a+k,ae⟩;have eA2:a+k=A:=ae;have lK:=aa hr;rw[eA2,show 10-k=(9-k)+1 by omega]at lK;by_cases ka:A<n;{
 have hA:=aS A n;have Rc:¬(n:Int)<=(A:Int):=ae;obtain⟨b,o,rfl,-,hc⟩:=HR.at (by rw[aa en];omega);have Dx:=hc A (aa en▸ka);have hx:0<=l.getD A 0/\l.getD A 0<256:=by have Uw:A<l.length:=aa en▸ka;rw[show l.getD A 0=l[A] by simp[List.getD,Uw]];exact HB _ (Ac Uw)
 rw[UL (aa en▸ka)]at lK;obtain⟨x,ex⟩:=aI (l.getD A 0);rw[ex]at Dx hx lK;have w7:IntKind.i64.wrap (7*(k:Int))=7*(k:Int):=jL _ ae;rw[LJ]at lK;clear hc ex hr;by_cases aj0:x<128;{
 rw[bN aj0]at lK;have e1:vOf r=uf k v x:=by rw[lK];rfl
 have e2:aOf n r=(A:Int)+1:=by rw[lK];show(n:Int)-((l.drop (A+1)).length:Nat)=_;rw[sX,aa en];omega
 have E:=af (ah e1 e2);clear e1 e2 lK;go_wp2
 go_ret2
 rw[E.1,E.2];exact⟨rfl,rfl⟩};{
 have cm1:¬x<128:=aj0;rw[bG aj0]at lK;have IJ:Hid (r=LJ (10-(k+1)) (k+1) (uf k v x) (l.drop (a+(k+1)))):=by show _=_;rw[lK,show 10-(k+1)=9-k by omega,show a+(k+1)=A+1 by omega]
 clear lK;go_wp2;go_roundw;exact⟨uf k v x,k+1,rfl,ae,by go_num,IJ,by first|rfl|trivial⟩;exact bM}};{
 have Rc:=iH n A;rw[Kn (by rw[aa en];omega),LJ]at lK;subst lK;clear hr;go_wp2
 go_ret2
 exact⟨rfl,rfl⟩}};{
 have bf1:¬(k:Int)<10:=ae;have lK:=aa hr;rw[show 10-k=0 by omega,LJ]at lK;subst lK;clear hr;go_wp2
 go_ret2
 exact⟨rfl,rfl⟩}}
def aO(l:LI):ByteArray:=l.foldl (λr n=>r.push (UInt8.ofNat n.toNat)) ByteArray.empty
theorem KU(l:LI)(s:ByteArray):(l.foldl (λr n=>r.push (UInt8.ofNat n.toNat)) s).data.toList=s.data.toList++l.map (λn=>UInt8.ofNat n.toNat):=by
 induction l generalizing s with
 |nil=>simp
 |cons b l ih=>rw[Mn,ih];simp[ByteArray.push]
theorem map_inj(hl:aN l)(hm:aN m)(h:l.map (λn=>UInt8.ofNat n.toNat)=m.map (λn=>UInt8.ofNat n.toNat)):l=m:=by
 induction l generalizing m with
 |nil=>cases m with
  |nil=>rfl
  |cons b m=>simp at h
 | cons a l ih=>cases m with
  |nil=>simp at h
  |cons b m=>
   simp only[iM,List.cons.injEq]at h;obtain⟨a0,a1⟩:=hl a ai;obtain⟨b0,b1⟩:=hm b ai;have e:=uO UInt8.toNat h.1;simp at e;have e2:a=b:=ae;rw[e2,ih (λz hz=>hl z (by simp[hz])) (λz hz=>hm z (by simp[hz])) h.2]
def fI(l:LI):(aO l).toList=l.map (λn=>UInt8.ofNat n.toNat):=by
 rw[ByteArray.toList_eq,aO,KU];rfl
def qN(hl:aN l)(hm:aN m):((aO l).toList==(aO m).toList)=decide (l=m):=by
 rw[fI,fI];by_cases h:l=m;{simp[h]};{simp only[h,We,Wd];exactλe=>h (map_inj hl hm e)}
theorem dL{w:World}{c n:Nat}(en:l.length=n)(h:Rd w (.S p n c) l):(convert 22 9 (.S p n c)).run prog w=.ok (.string (aO l)) w:=by
 subst en;rw[run_convert_bytes_string w 22 9 5 p l.length c underlying22 underlying5 underlying9];cases p with
 |none=>
  have e:=h.sc;subst e;simp[Conv.bytesToString,aO,Qc]
 |some a=>
  obtain⟨n1,n2,n3⟩:=h.news;have hl:=run_loadCells_list (P:=prog) w a (U l) (λj v hj=>n2 j v hj);simp only[dZ]at hl;exact run_bytesToString w a l.length c l hl
def jr{p q:OA}{c d n k:Nat}(el:Hid (l.length=n))(em:Hid (m.length=k)){w:World}(h1:Rd w (.S p n c) l)(h2:Rd w (.S q k d) m)(b1:aN l)(b2:aN m):Calls prog 136 #[.S p n c,.S q k d] w (Rb (.bool (decide (l=m))) w):=by
 have e1:=dL el h1;have e2:=dL em h2;have HE:=af (qN b1 b2);clear h1 h2 b1 b2
 go_in
 go_wp2;go_ret;exact⟨by rw[aa HE];rfl,cR _ _⟩
def Rd.cut{w:World}{b o n c:Nat}(h:Rd w (.S (some (Ad b o)) n c) l)(i j:Nat)(hi:i<=j)(hj:j<=l.length)(q:OA)(hq:j=i\/q=some (Ad b (o+i)))(d:Nat)(m:LI)(em:m=(l.take j).drop i):Rd w (.S q (j-i) d) m:=by
 have hm:m.length=j-i:=by rw[em];simp;omega
 refine⟨q,d,by rw[hm],?_⟩;rcases hq with rfl|rfl;{left;exact Jd ae}
 {
 obtain⟨p',c',e,h⟩:=h;obtain⟨e1,-,-⟩:=js e;rcases h with rfl|⟨b',o',e2,hc⟩;{left;exact Jd (by simp at hj;omega)}
 {
 right
 rw[e2]at e1;simp only[kU,bv0]at e1;obtain⟨rfl,rfl,-⟩:=e1;refine⟨b,o+i,rfl,λk hk=>?_⟩;have:=hc (i+k) ae;rw[Km,this,em];simp[List.getD,GH,show i+k<j by omega]}}
def lZ{p q:OA}{c d n k:Nat}(el:Hid (l.length=n))(em:Hid (m.length=k)){w:World}(h1:Rd w (.S p n c) l)(h2:Rd w (.S q k d) m)(b1:aN l)(b2:aN m):Calls prog 70 #[.S p n c,.S q k d] w (Rb (.bool (decide (l=m))) w):=by
 have e1:=dL el h1;have e2:=dL em h2;have HE:=af (qN b1 b2);clear h1 h2 b1 b2
 go_in
 go_wp2;go_ret;exact⟨by rw[aa HE];rfl,cR _ _⟩
def jS{c n:Nat}(en:Hid (l.length=n)){w:World}(h:Rd w (.S p n c) l)(hl:n<=2097152):Cp 65 #[.S p n c] w λe w'=>∃p' c',e=.returned (.S p' n c')/\Own w.heap.size w' (.S p' n c') l/\Bw w w':=by
 have e:=aa en;subst e;exact xT h hl
def rt(m:LI):Option (LI×LI):=
 match rv m with
 |none=>none
 |some x=>if(x.2.length:Int)<x.1 then none else some (x.2.take x.1.toNat,x.2.drop x.1.toNat)
def tOf:Option (LI×LI)->LI
 |some x=>x.1
 |none=>[]
def bOf(n:Nat):Option (LI×LI)->Int
 |some x=>(n:Int)-x.2.length
 |none=>-1
def LU{c n:Nat}{w:World}:Calls prog 67 #[.S p n c,.I (-1)] w λe w'=>e=.returned (.tuple #[.S none 0 0,.I (-1)])/\w'=w:=by
 go_in
 go_wp2_with fail;refine(CL).mono ?_;rintro e w'⟨rfl,rfl⟩;go_wp2
 go_ret2
 exact⟨rfl,rfl⟩
theorem Pm{c n a:Nat}(en:Hid (l.length=n)){w:World}(h:Rd w (.S p n c) l)(hb:aN l)(hl:Mg n)(xq:n<=c)(ha:a<=n){r:Option (LI×LI)}(er:Hid (rt (l.drop a)=r))(eN:Hid ((tOf r).length=N)):Calls prog 67 #[.S p n c,.I a] w λe w'=>∃p' c',e=.returned (.tuple #[.S p' N c',.I (bOf n r)])/\Own w.heap.size w' (.S p' N c') (tOf r)/\Bw w w':=by
 obtain⟨x,ex⟩:=aI (rv (l.drop a));have Nh:=aa er;rw[rt,ex]at Nh
 go_in
 go_wp2_with fail;refine(FT en h hb hl ha ex).mono ?_;rintro e w'⟨rfl,rfl⟩;cases x with
 |none=>
  subst Nh;have MW:N=0:=by rw[<-aa eN];rfl
  subst MW;dsimp only[vOf,aOf];go_wp2
  go_ret2
  exact⟨none,0,rfl,gC _ _ _ _,cR _ _⟩
 | some x=>
  obtain⟨v,t⟩:=x;have jN:=vL 10 0 0 _ v t ex;rw[sX,aa en]at jN;obtain⟨v0,v1,htl,aF1⟩:=jN;obtain⟨T,eT⟩:=aI t.length;dsimp only at Nh;rw[eT]at Nh htl aF1;obtain⟨A,eA⟩:=aI (n-T);have hte:t=l.drop A:=by
   rw[aF1,Gn]
   congr 1
   omega
  have ea:aOf n (some (v,t))=(A:Int):=by show(n:Int)-(t.length:Nat)=_;rw[eT];omega
  have ev:vOf (some (v,t))=v:=rfl;rw[ea,ev];have hA0:¬(A:Int)<0:=ae;have hAn:(n:Int)-(A:Int)=(T:Int):=ae;have wT:IntKind.u64.wrap (T:Int)=(T:Int):=by rw[jj];omega
  by_cases hv:(T:Int)<v;{
 rw[bN hv]at Nh;subst Nh;have MW:N=0:=by rw[<-aa eN];rfl
 subst MW;clear er ea ev ex aF1 hte;go_wp2
 go_ret2
 exact⟨none,0,rfl,gC _ _ _ _,cR _ _⟩};{
 rw[bG hv]at Nh;obtain⟨V,rfl⟩:∃V:Nat,v=(V:Int):=⟨v.toNat,ae⟩;have eV:((V:Int)).toNat=V:=ae;rw[eV]at Nh;have IK:N=V:=by rw[<-aa eN,<-Nh];show(t.take V).length=V;rw[od,eT];omega
 subst IK;have XN:bOf n r=((A+N:Nat):Int):=by rw[<-Nh];show(n:Int)-((t.drop N).length:Nat)=_;rw[sX,eT];omega
 have Ss:tOf r=(l.take (A+N)).drop A:=by rw[<-Nh];show t.take N=_;rw[hte,List.drop_take,aP3]
 obtain⟨b,o,rfl,-,-⟩:=h.at (by rw[aa en];omega);have hcut:∀(q:OA)(d:Nat),(A+N=A\/q=some (Ad b (o+A)))->Rd w' (.S q N d) (tOf r):=λq d hq=>by have:=h.cut A (A+N) ae (by rw[aa en];omega) q hq d (tOf r) Ss;rwa [aP3]at this
 obtain⟨E,eE⟩:=aI (A+N);rw[eE]at hcut;have wN:=fk N;have hAE:(A:Int)+(N:Int)=(E:Int):=ae;have hE1:=iH A E;have hE2:=iH E c;have hE4:E-A=N:=ae;have hvv:¬(T:Int)<(N:Int):=hv;have HC:=af hcut;have HS:=af (ah XN (ah Ss (ah eE (ah eT eA))));clear er Nh ea ev ex aF1 hte hcut XN Ss eE eT eA hv eV h hb;by_cases XM:c=A;{
 have hEA:A=E:=ae;have MW:N=0:=ae;subst XM;subst hEA;subst MW;go_wp2_with fail;refine(jS eN (aa HC _ _ (.inl (by first|rfl|trivial))) ae).mono ?_;rintro e w2⟨p2,c2,rfl,o2,b2⟩;go_wp2
 go_ret2
 exact⟨p2,c2,by rw[HS.1,HS.2.2.1];rfl,o2,b2⟩};{
 have ct3:¬(c:Int)=(A:Int):=ae;have dJ9:c≠A:=XM;have wE:=fk E;have hNb:N<=2097152:=ae;have HE4:=af hE4;clear htl XM hE4 ct3 v0 v1;go_wp2_with fail;rw[aa HE4];refine(jS eN (aa HC _ _ (.inr rfl)) ae).mono ?_;rintro e w2⟨p2,c2,rfl,o2,b2⟩;go_wp2
 go_ret2
 exact⟨p2,c2,by rw[HS.1,HS.2.2.1];rfl,o2,b2⟩}}
open Go.Maps (Keyed IsMap)
def aV:Value->Option (DataW Unit×List MemPlace)
 | .pointer (some ⟨b,0,none⟩)=>some (.lit (.int .i64 b),[])
 | .pointer none=>some (.nil,[])
 |_=>none
def lX(b:Nat):aV (.pointer (some (Ad b 0)))=some (.lit (.I b),[]):=rfl
def kn(h:aV v=some (.lit (.I b),ps)):v=.pointer (some (Ad b 0)):=by
 unfold aV at h;split at h;{simp only[kU,fQ,DataW.lit.injEq,CN,Mm,Int.natCast_inj]at h;rw[h.1]};{simp at h};{simp at h}
def uI(h:aV v=some (.nil,ps)):v=.pointer none:=by
 unfold aV at h;split at h;{simp at h};{rfl}
 {simp at h}
structure gP(D:DataW Unit)(l:List (Lit×Nat)):Prop where
 hs:∀k,Maps.has D k=true↔∃p∈l,p.1=k
 at':∀p∈l,∀z,D.atKey p.1 z=.lit (.I p.2)
def gP.nil:gP (.map []) []:=⟨λk=>by simp[Maps.has],λp hp=>by simp at hp⟩
def gP.put{l:List (Lit×Nat)}(h:gP D l)(hD:IsMap D){k:Lit}(hk:WideAt.IsKeyLit k)(hn:∀p∈l,p.1≠k)(g:Nat):gP (D.put k (.lit (.I g))) (l++[(k,g)]):=by
 refine⟨λk'=>?_,λp hp z=>?_⟩;{by_cases e:k'=k;{subst e;simp[Maps.has_put_same hD hk]};{rw[Maps.has_put_other e,h.hs k'];constructor;{rintro⟨p,hp,rfl⟩;exact⟨p,by simp[hp],rfl⟩};{rintro⟨p,hp,rfl⟩;rcases gM.1 hp with hp|hp;{exact⟨p,hp,rfl⟩};{simp at hp;subst hp;exact absurd rfl e}}}};{rcases gM.1 hp with hp|hp;{rw[Maps.atKey_put_other (hn p hp)];exact h.at' p hp z};{simp at hp;subst hp;exact Maps.atKey_put_same hD hk _ _}}
def dH(D:DataW Unit)(s:LI):Prop:=∀k,Maps.has D k=true↔∃i∈s,k=.U i
def dH.nil:dH (.map []) []:=λk=>by simp[Maps.has]
def dH.put(h:dH D s)(hD:IsMap D)(i:Int)(d:DataW Unit):dH (D.put (.U i) d) (s++[i]):=by
 intro k';by_cases e:k'=.U i;{subst e;rw[Maps.has_put_same hD (by trivial)];simp};{rw[Maps.has_put_other e,h k'];constructor;{rintro⟨j,hj,rfl⟩;exact⟨j,by simp[hj],rfl⟩};{rintro⟨j,hj,rfl⟩;rcases gM.1 hj with hj|hj;{exact⟨j,hj,rfl⟩};{simp at hj;subst hj;exact absurd rfl e}}}
theorem dH.bt0(h:dH D s)(hD:IsMap D)(hk:∀es,D=.map es->∀p∈es,WideAt.IsKeyLit p.1):Maps.size D=0↔s=[]:=by
 obtain⟨es,rfl⟩:=hD;constructor;{
 intro h0;have e0:es=[]:=sV.1 h0;subst e0;cases s with
 |nil=>rfl
 |cons i s=>
  have:=(h (.U i)).2 ⟨i,ai,rfl⟩;simp[Maps.has]at this};{
 rintro rfl;cases es with
 |nil=>rfl
 |cons p es=>
  have:=(h p.1).1 (by rw[Maps.has_eq];simp[VP (hk _ rfl p ai)]);simp at this}
section
variable {P:Program}(w:World){ops:Array Oper}{rest:List Oper}{o:Oper}{a:Act}{Q:Exit->Act->World->Prop}
def fK{α:Type}(hg:o.guard=none)(it:Operand)(Jn:o.op=Op.next it false)(k:TypeId)(K:Keyed P k)(mkK:α->Value)(cl1:∀key kl,keyOf P k key=some kl->∃x,key=mkK x)(b r n:Nat)(D:DataW Unit)(l:List (Lit×Nat))(hM:gP D l)(left:Lit->Bool)(jD:Nat)(hit:a.eval it=.pointer (some (Ad r 0)))(h:w.ranges P k aV b r n D left jD)(an9:jD=0->(∀kl,left kl=false)->wpList P ops Q rest (a.put o.dst (.tuple #[.bool false])) w)(an4:∀(x:α)(p:Lit×Nat)(w':World)(Nt:Nat),keyOf P k (mkK x)=some p.1->p∈l->left p.1=true->w'.ranges P k aV b r n D (λz=>left z&&!z.sameKey p.1) Nt->Nt<jD→
   w.grownBy w' (some r)->w'.heap.size=w.heap.size->(Instr.entry (.pointer (some (Ad r 0)))).run P w'=.ok (.tuple #[mkK x,.pointer (some (Ad p.2 0))]) w'->wpList P ops Q rest (a.put o.dst (.tuple #[.bool true,mkK x,.pointer (some (Ad p.2 0))])) w'):wpList P ops Q (o::rest) a w:=by
 refine wpList_plain hg λK' hK'=>?_;unfold Oper.wp;rcases h.next K o.type with⟨h0,hl,dN⟩|⟨key,v,kl,y,w',Nt,cQ,hlk,hv,fT,dN,jN,aT,yI,jI,Ef⟩;{simp[execOp,Jn,hit,dN,Result.andThen];exact hK' _ _ (an9 h0 hl)};{
 obtain⟨x,rfl⟩:=cl1 key kl cQ;obtain⟨p,hp,rfl⟩:=(hM.hs kl).1 (Maps.has_true_of_atKey fT);have e1:y.1=.lit (.I p.2):=by rw[<-fT .nil];exact hM.at' p hp _
 obtain⟨y1,y2⟩:=y;simp only at e1;subst e1;obtain rfl:=kn hv;simp[execOp,Jn,hit,dN,Result.andThen];exact hK' _ _ (an4 x p w' Nt cQ hp hlk jN aT yI jI Ef)}
def DR(hg:o.guard=none)(it:Operand)(Jn:o.op=Op.next it false)(k:TypeId)(K:Keyed P k)(hk:P.underlying k=some (.int .u64))(b r n:Nat)(D:DataW Unit)(s:LI)(hM:dH D s)(left:Lit->Bool)(jD:Nat)(hit:a.eval it=.pointer (some (Ad r 0)))(h:w.ranges P k unitElem b r n D left jD)(an9:jD=0->(∀kl,left kl=false)->wpList P ops Q rest (a.put o.dst (.tuple #[.bool false])) w)(an4:∀(x:Int)(w':World)(Nt:Nat),(Lit.U x).wf=true->x∈s->left (.U x)=true->w'.ranges P k unitElem b r n D (λz=>left z&&!z.sameKey (.U x)) Nt->Nt<jD→
   w.grownBy w' (some r)->w'.heap.size=w.heap.size->(Instr.entry (.pointer (some (Ad r 0)))).run P w'=.ok (.tuple #[.U x,.agg #[]]) w'->wpList P ops Q rest (a.put o.dst (.tuple #[.bool true,.U x,.agg #[]])) w'):wpList P ops Q (o::rest) a w:=by
 refine wpList_plain hg λK' hK'=>?_;unfold Oper.wp;rcases h.next K o.type with⟨h0,hl,dN⟩|⟨key,v,kl,y,w',Nt,cQ,hlk,hv,fT,dN,jN,aT,yI,jI,Ef⟩;{simp[execOp,Jn,hit,dN,Result.andThen];exact hK' _ _ (an9 h0 hl)};{obtain⟨x,rfl,rfl,hwx⟩:=Maps.keyOf_int_inv hk cQ;obtain⟨i,hi,ei⟩:=(hM _).1 (Maps.has_true_of_atKey fT);simp only[CN,Mm]at ei;subst ei;obtain⟨rfl,_⟩:=unitElem_inv hv;simp[execOp,Jn,hit,dN,Result.andThen];exact hK' _ _ (an4 x w' Nt hwx hi hlk jN aT yI jI Ef)}
end
def cL(l:LI):Lit:=.string (l.map λn=>UInt8.ofNat n.toNat)
def mH(hl:aN l)(hm:aN m)(h:cL l=cL m):l=m:=by
 simp only[cL,ac9]at h;exact map_inj hl hm h
def oR(l:LI):Lit.string (aO l).data.toList=cL l:=by rw[<-ByteArray.toList_eq,fI];rfl
def ag8{s:ByteArray}(h:Lit.string s.data.toList=cL l):s=aO l:=by
 rw[<-oR]at h;simp only[ac9]at h;cases s with|mk d=>cases hb:aO l with|mk d'=>(rw[hb]at h;simp only at h;congr;exact Wc.1 h)
def aF{w w':World}(h:w'.heap[b]?=w.heap[b]?)(o:Nat):w'.cell? (Ad b o)=w.cell? (Ad b o):=by
 unfold World.cell?;rw[h]
def al(w:World)(b:Nat)(vs:List Value):Prop:=(∀i v,vs[i]?=some v->w.cell? (Ad b i)=some v)/\∀o,w.frozen? (Ad b o)=false
def al.alloc(w:World)(cs:Array Value)(t:TypeId):al (w.alloc (.cells cs t)) w.heap.size cs.toList:=by
 refine⟨λi v h=>?_,λo=>?_⟩;{rw[V9]at h;simp[h]};{simp[go_sem]}
def al.below{w w':World}(h:al w b vs)(hb:b<w.heap.size)(Ej:Bw w w'):al w' b vs:=
 ⟨λi v hi=>(Ej.cell (p:=(Ad b i)) hb).trans (h.1 i v hi),λo=>(Ej.frozen (p:=(Ad b o)) hb).trans (h.2 o)⟩
def al.yv{w:World}(h:al w b vs){a:Addr}(ha:b≠a.block)(u:Value):al (w.setCell a u) b vs:=by
 have hh:(w.setCell a u).heap[b]?=w.heap[b]?:=fW _ _ _ _ ha;refine⟨λi v hi=>(aF hh _).trans (h.1 i v hi),λo=>?_⟩;have:(w.setCell a u).frozen? (Ad b o)=w.frozen? (Ad b o):=sj hh;rw[this];exact h.2 o
def al.fG{w:World}(h:al w b vs)(j:Nat)(hj:j<vs.length)(u:Value):al (w.setCell (Ad b j) u) b (vs.set j u):=by
 have hc:=h.1 j _ (bD hj);refine⟨λi v hi=>?_,λo=>by simp[h.2 o]⟩;by_cases e:j=i;{subst e;rw[ae9 hj]at hi;cases hi;exact Db _ _ _ hc};{rw[cF8 e]at hi;have:=h.1 i v hi;simp[go_sem,e,this]}
def wX{w:World}{t:TypeId}(ty:TypeId)(i:TypeInfo){size bytes:Nat}(ht:P.underlying t=some (.slice e))(hi:P.info? e=some i)(hz:i.zero=some z)(Ar:i.size=size)(gq:i.bytes=bytes)(hzs:z.cells.size=size)(jI:0<size){n:Nat}(bO:w.ownsRow base e size v n xs){a:Addr}{m:Nat}(c:Nat){news:List Value}(hl:news.length=m*size)(jk:∀j u,news[j]?=some u->w.cell? (a.add j)=some u)(h1:∀u∈news,u.oneCell'=true)(h63:n+m<=maxLen)(rj:(n+m)*bytes<=140737488355328)(Aw:base<=w.heap.size):∃v' w',(Builtin.append_ #[t,t] ty #[v,.S (some a) m c]).run P w=.ok v' w'/\w'.ownsRow base e size v' (n+m) (xs++news)/\w.grownBy w' v.ownBlock/\∀g,v'.ownBlock=some g->v.ownBlock=some g\/w.heap.size<=g:=by
 obtain⟨v',w',hr,h2,h3,-⟩:=ac7 (P:=P) w base t ty e i z size bytes ht hi hz Ar gq hzs jI v n xs bO a m c news hl jk h1 h63 rj Aw;refine⟨v',w',hr,h2,h3,λg' yJ=>?_⟩;rcases id bO.2 with⟨rfl,rfl⟩|⟨g,cap,cur,rfl,hbg,hg,xq,EU,hcs,bx9⟩;{have hx:xs=[]:=Jd (by simpa using bO.1);subst hx;obtain⟨v2,w2,lK,k2,-,-⟩:=ac7 (P:=P) w w.heap.size t ty e i z size bytes ht hi hz Ar gq hzs jI (.S none 0 0) 0 [] (gC w _ e size) a m c news hl jk h1 h63 rj ao;rw[hr]at lK;simp only[Ka]at lK;obtain⟨rfl,rfl⟩:=lK;exact .inr (k2.lt g' yJ).1};{
 subst Ar;subst gq;by_cases Ws:n+m<=cap;{
 have bc5:n*i.size+news.length<=cur.size:=by rw[hl,hcs,<-Nat.add_mul];exact Qp _ Ws
 rw[run_append_room (P:=P) w t ty e i ht hi g n cap cur hg a m c news hl jk h1 Ws bc5]at hr;simp only[Ka]at hr;obtain⟨rfl,-⟩:=hr;exact .inl yJ};{have holds:∀j u,xs[j]?=some u->w.cell? (((Ad g 0):Addr).add j)=some u:=bO.cells (g:=g) rfl;rw[run_append_grow (P:=P) w t ty e i z ht hi hz (Ad g 0) n cap xs bO.1 holds a m c news hl jk ae (by simp only[maxLen]at h63;omega) (growslice_fits ae rj)]at hr;simp only[Ka]at hr;obtain⟨rfl,-⟩:=hr;simp only[Value.ownBlock,kU]at yJ;exact .inr ae}}
def cK{w:World}{rest:List Oper}{a:Act}{Q:Exit->Act->World->Prop}(mW:o.guard=none){s x:Operand}(t:TypeId)(ho:o.op=.call {callee:=.builtin .append,args:=#[s,x],argTypes:=#[t,t]})(i:TypeInfo)(size:Nat){bytes:Nat}(ht:P.underlying t=some (.slice e))(hi:P.info? e=some i)(hz:i.zero=some z)(Ar:i.size=size)(gq:i.bytes=bytes)(hzs:z.cells.size=size)(jI:0<size)(v:Value){n:Nat}(hs:a.eval s=v)(bO:w.ownsRow base e size v n xs)(g m c:Nat)(news:List Value)(hx:a.eval x=.T g m c)(hl:news.length=m*size)(jk:∀j u,news[j]?=some u->w.cell? (Ad g j)=some u)(h1:∀u∈news,u.oneCell'=true)(h63:n+m<=maxLen)(rj:(n+m)*bytes<=140737488355328)(Aw:base<=w.heap.size)(h:∀v' w',w'.ownsRow base e size v' (n+m) (xs++news)->w.grownBy w' v.ownBlock->(∀g,v'.ownBlock=some g->v.ownBlock=some g\/w.heap.size<=g)->wpList P ops Q rest (a.put o.dst v') w'):wpList P ops Q (o::rest) a w:=by
 obtain⟨v',w',hr,h2,h3,h4⟩:=wX (P:=P) o.type i ht hi hz Ar gq hzs jI bO (a:=Ad g 0) c hl (λj u hu=>by rw[CO,kS];exact jk j u hu) h1 h63 rj Aw;exact Lib.wpList_append_run w mW s x t t ho _ _ hs hx _ _ hr (h v' w' h2 h3 h4)
def pf{w:World}{a:Act}{Q:Exit->Act->World->Prop}(mW:o.guard=none){s x:Operand}{t:TypeId}(ho:o.op=.call {callee:=.builtin .append,args:=#[s,x],argTypes:=#[t,t]})(i:TypeInfo)(size:Nat){bytes:Nat}(ht:P.underlying t=some (.slice e))(hi:P.info? e=some i)(hz:i.zero=some z)(Ar:i.size=size)(gq:i.bytes=bytes)(hzs:z.cells.size=size)(jI:0<size){n:Nat}(hs:a.eval s=v)(bO:w.ownsRow base e size v n xs)(m c:Nat)(news:List Value)(hx:a.eval x=.T g m c)(hl:news.length=m*size)(jk:∀j u,news[j]?=some u->w.cell? (Ad g j)=some u)(h1:∀u∈news,u.oneCell'=true)(h63:n+m<=maxLen)(rj:(n+m)*bytes<=140737488355328)(Aw:base<=w.heap.size)(h:∀v' w',w'.ownsRow base e size v' (n+m) (xs++news)->w.grownBy w' v.ownBlock->(∀g,v'.ownBlock=some g->v.ownBlock=some g\/w.heap.size<=g)->K (a.put o.dst v') w'):if Region.wanted o (yielded ops a.tmps)=true then Oper.wp P o a w K Q else E:=by
 have hw:Region.wanted o (yielded ops a.tmps)=true:=by simp[Region.wanted,mW]
 rw[bN hw];obtain⟨v',w',hr,h2,h3,h4⟩:=wX (P:=P) o.type i ht hi hz Ar gq hzs jI bO (a:=Ad g 0) c hl (λj u hu=>by rw[CO,kS];exact jk j u hu) h1 h63 rj Aw;exact Lib.wp_append_run w s x t t ho _ _ hs hx _ _ hr (h v' w' h2 h3 h4)
def gv(ls:List LI){lm:LI}{n:Nat}(k:Nat)(ek:Hid (k=ls.length))(e:Hid (lm=cat ls))(en:Hid (lm.length=n)){w:World}(h:lQ w g vs ls)(hl:n<=4194304)(hk:k<=10):Calls prog 88 #[.T g k k] w λe w'=>∃p' c',e=.returned (.S p' n c')/\Own w.heap.size w' (.S p' n c') lm/\Bw w w':=by
 have e1:=aa ek;have e2:=aa e;have e3:=aa en;subst e1 e3 e2
 go_in
 go_wp2_with fail;refine(yy h hl ae).mono ?_;rintro e w1⟨p1,c1,rfl,o1,aA⟩;go_wp2;go_ret;exact⟨p1,c1,rfl,o1,aA⟩
theorem aa4{w:World}(c0:w.cell? (Ad g 0)=some v0)(c1:w.cell? (Ad g 1)=some v1)(r0:Rd w v0 l0)(r1:Rd w v1 l1):lQ w g [v0,v1] [l0,l1]:=by
 refine⟨rfl,λj v x e1 e2=>?_⟩
 match j,e1,e2 with
 |0,e1,e2=>simp at e1 e2;subst e1 e2;exact⟨c0,r0⟩
 |1,e1,e2=>simp at e1 e2;subst e1 e2;exact⟨c1,r1⟩
theorem aa3{w:World}{v3 v4:Value}{l2 l3 l4:LI}(c0:w.cell? (Ad g 0)=some v0)(c1:w.cell? (Ad g 1)=some v1)(c2:w.cell? (Ad g 2)=some v2)(c3:w.cell? (Ad g 3)=some v3)(c4:w.cell? (Ad g 4)=some v4)(r0:Rd w v0 l0)(r1:Rd w v1 l1)(r2:Rd w v2 l2)(r3:Rd w v3 l3)(r4:Rd w v4 l4):lQ w g [v0,v1,v2,v3,v4] [l0,l1,l2,l3,l4]:=by
 refine⟨rfl,λj v x e1 e2=>?_⟩
 match j,e1,e2 with
 |0,e1,e2=>simp at e1 e2;subst e1 e2;exact⟨c0,r0⟩
 |1,e1,e2=>simp at e1 e2;subst e1 e2;exact⟨c1,r1⟩
 |2,e1,e2=>simp at e1 e2;subst e1 e2;exact⟨c2,r2⟩
 |3,e1,e2=>simp at e1 e2;subst e1 e2;exact⟨c3,r3⟩
 |4,e1,e2=>simp at e1 e2;subst e1 e2;exact⟨c4,r4⟩
def cE4(a b:LI):cat [a,b]=a++b:=by simp[cat]
def cE1(a b c d e:LI):cat [a,b,c,d,e]=a++(b++(c++(d++e))):=by simp[cat]
def tx(l:LI):LI:=vi l.length++l
def uz(l:LI):l.length+1<=(tx l).length/\(tx l).length<=l.length+10:=by
 have:=fq l.length;rw[tx,ir];omega
def ta{c n:Nat}(en:Hid (l.length=n)){w:World}(h:Rd w (.S p n c) l)(hl:Mg n)(eN:Hid ((tx l).length=N)):Calls prog 82 #[.S p n c] w λe w'=>∃p' c',e=.returned (.S p' N c')/\Own w.heap.size w' (.S p' N c') (tx l)/\Bw w w':=by
 obtain⟨M,eM⟩:=aI ((vi n).length);have hM:=fq n;rw[eM]at hM;have EM:=af eM;clear eM;have hN:M+n=N:=by rw[<-aa eN,tx,ir,aa en,aa EM]
 have wn:IntKind.u64.wrap (n:Int)=(n:Int):=by rw[jj];omega
 have EE:Hid (tx l=vi n++l):=by show _=_;rw[tx,aa en]
 go_in
 go_wp2_with fail;refine(Cg 9 n _ ae ae ae M EM).mono ?_;rintro e w1⟨p1,c1,rfl,o1,b1⟩;have r1:=h.below b1;have z1:=b1.size;have YK:Own w.heap.size w1 (.S p1 M c1) (vi n):=o1;clear o1 h;go_wp2_with(at_builtin;refine bQ rfl rfl (.S p1 M c1) EE p c n en rfl rfl YK r1 (by rw[aa EM,aa en];omega) ae ?_);intro p2 c2 w2 o2 gi;have b2:=dz b1 gi YK ao ae;rw[aa eN]at o2⊢;clear gi YK r1 b1;go_wp2;go_ret;exact⟨p2,c2,rfl,o2,b2⟩
def mh{c n:Nat}(en:Hid (l.length=n)){w:World}(h:Rd w (.S p n c) l)(hl:Mg n)(eN:Hid ((tx l).length=N)):Calls prog 218 #[.S p n c] w λe w'=>∃p' c',e=.returned (.S p' N c')/\Own w.heap.size w' (.S p' N c') (tx l)/\Bw w w':=by
 obtain⟨M,eM⟩:=aI ((vi n).length);have hM:=fq n;rw[eM]at hM;have EM:=af eM;clear eM;have hN:M+n=N:=by rw[<-aa eN,tx,ir,aa en,aa EM]
 have wn:IntKind.u64.wrap (n:Int)=(n:Int):=by rw[jj];omega
 have EE:Hid (tx l=cat [vi n,l]):=by show _=_;rw[cE4,tx,aa en]
 go_in
 go_wp2_with fail;refine(jd ae).mono ?_;rintro e w1⟨p1,c1,rfl,o1,b1⟩;rw[aa EM]at o1⊢;have r1:=h.below b1;have z1:=b1.size;have rv:=o1.rd;clear o1 h;go_wp2_with fail;refine(gv (g:=w1.heap.size) (vs:=[.S p1 M c1,.S p n c]) [vi n,l] (lm:=tx l) (n:=N) 2 rfl EE eN (aa4 ai ai (rv.below (au.alloc ao _)) (r1.below (au.alloc ao _))) ae ae).mono ?_;rintro e w2⟨p2,c2,rfl,o2,aD⟩;have b2:Bw w w2:=aj (aj b1 (au.alloc ao _)) aD;have o3:Own w.heap.size w2 (.S p2 N c2) (tx l):=Own.mono o2 aU;clear o2 aD r1 rv b1;go_wp2;go_ret;exact⟨p2,c2,rfl,o3,b2⟩
namespace Q
open Go.Sort
def af{p:Prop}(h:p):Hid p:=h
def aa{p:Prop}(h:Hid p):p:=h
def bH{α:Sort _}(x:α):∃y,Hid (x=y):=⟨x,af rfl⟩
abbrev HU(w:World)(blk off:Nat)(d:Array Int):Prop:=Holds (λx:Int=>Value.U x) w blk off d
def qI{w:World}:w.grownBy w row:=⟨rfl,rfl,rfl,iP _,λ_ _ _=>rfl⟩
def aX{w w1 w2:World}(h:w.grownBy w1 row)(k:w1.grownBy w2 row):w.grownBy w2 row:=
 ⟨k.os.trans h.os,k.tape.trans h.tape,k.output.trans h.output,dQ h.size k.size,λi hi cg=>(k.block i (gQ hi h.size) cg).trans (h.block i hi cg)⟩
def aE(w:World)(b o:Nat)(v:Value):w.grownBy (w.setCell (Ad b o) v) (some b):=
 ⟨rfl,rfl,rfl,ai,λi _ cg=>fW _ _ _ _ (λe=>cg (by rw[e]))⟩
def ay{w w':World}(h:w.grownBy w' row):w.grownBy w'.drew row:=⟨h.os,h.tape,h.output,h.size,h.block⟩
def HU.swap{w:World}{blk off:Nat}(h:HU w blk off d)(hi:i<d.size)(hj:j<d.size)(hx:x=d[j]!)(hy:y=d[i]!):HU ((w.setCell (Ad blk (off+i)) (.U x)).setCell (Ad blk (off+j)) (.U y)) blk off (swp d i j):=by
 subst hx hy;have e:=putRow_self (λx:Int=>Value.U x) w blk off d h;have e2:=putRow_swp (λx:Int=>Value.U x) w blk off d i j hi hj;rw[e]at e2;show Holds _ _ _ _ _;rw[e2];exact holds_putRow _ w blk off d _ h (by rw[size_swp])
def jP{w:World}{p q:Addr}{t u:Value}(h:w.cell? p=some t):∃s,(w.setCell q u).cell? p=some s:=by
 by_cases e:q=p;{subst e;exact⟨u,Db _ _ _ h⟩};{exact⟨t,(CQ _ _ _ _ e).trans h⟩}
def HU.drew{w:World}{blk off:Nat}(h:HU w blk off d):HU w.drew blk off d:=h
def HU.kept{w w':World}{blk off:Nat}(h:HU w blk off d)(hb:w'.heap[blk]?=w.heap[blk]?):HU w' blk off d:=λj hj=>
 ⟨(tJ (a:=(Ad blk (off+j))) hb).trans (h j hj).1,(sj (a:=(Ad blk (off+j))) hb).trans (h j hj).2⟩
def aC2{w:World}:Calls prog 211 #[.U x] w λe w'=>e=.returned (.bool false)/\w'=w:=by
 go_in
 go_wp2;go_ret;exact⟨ai,rfl⟩
def fS{w:World}:Calls prog 243 #[.U x,.U y] w λe w'=>e=.returned (.bool (ltInt x y))/\w'=w:=by
 go_in
 go_wp2_with fail;refine(aC2).mono ?_;rintro e w'⟨rfl,rfl⟩;go_wp2;go_ret;exact⟨rfl,rfl⟩
def fU{vs:Array Value}{w:World}:(callFunc 243 vs).run prog w=.ok (.enter 243 vs) w:=by kernel_rfl
def de{w:World}{a:Act}{Q:Exit->Act->World->Prop}{R:Ending->World->Prop}(hw:Region.wanted o (yielded ops a.tmps)=true){f:FuncId}{x1 x2:Operand}{WW:Array TypeId}(ho:o.op=.call {callee:=.value (.func f),args:=#[x1,x2],argTypes:=WW})(h1:a.eval x1=v1)(h2:a.eval x2=v2)(yK:∀vs,(callFunc f vs).run P w=.ok (.enter f vs) w)(hc:Calls P f #[v1,v2] w R)(hR:∀e w',R e w'->∃v,e=.returned v/\K (a.put o.dst v) w'):if Region.wanted o (yielded ops a.tmps)=true then Oper.wp P o a w K Q else E:=by
 rw[bN hw];have dN:(execOp a.eval o).run P w=.ok (.enter f #[v1,v2]) w:=by subst h1 h2;unfold execOp;simp[go_sem,ho,resolve,invoke,yK]
 show o.upon P a K Q _;rw[dN,Qd];refine hc.mono ?_;intro e w' h;obtain⟨v,rfl,hk⟩:=hR e w' h;exact hk
def aA8{blk off cap N a b:Nat}(hN:Hid (d.size=N)){w:World}(h:HU w blk off d)(Sy:a<=b)(hb:b<=N)(jI:N<=1048576):Calls prog 241 #[.S (some (Ad blk off)) N cap,.I a,.I b] w λe w'=>e=.returned (.tuple #[])/\HU w' blk off (reverseRange d a b)/\w.grownBy w' (some blk):=by
 obtain⟨D,eD⟩:=aI (reverseRange d a b);rw[eD];have ED:Hid (reverseLoop a (b-1) d=D):=eD;clear eD;have H0:=af h;clear h
 go_in
 go_wp2_with fail
 go_loopw[6,7](λs6 s7 wr=>∃(i jn:Nat)(jz:Int)(dk:Array Int),s6=.I i/\s7=.I jz/\jz<=1048576/\-1<=jz/\i<=1048577/\Hid ((i:Int)<jz->jz=jn/\jn<N)/\Hid (¬(i:Int)<jz->¬i<jn)/\Hid (dk.size=N)/\Hid (HU wr blk off dk)/\Hid (reverseLoop i jn dk=D)/\Hid (w.grownBy wr (some blk))) (λs6 s7 _=>(intOf s7-intOf s6).toNat)
 exact⟨a,b-1,(b:Int)-1,d,rfl,by first|rfl|go_num,ae,ae,ae,λh=>⟨ae,ae⟩,(λh=>ae),hN,H0,ED,qI⟩;{
 obtain⟨i,jn,jz,dk,rfl,rfl,q1,q2,q3,h1,h2,wD,Ht,heq,hg⟩:=hrel;by_cases aT:(i:Int)<jz;{
 obtain⟨ej,hjn⟩:=aa h1 aT;subst ej;have kr:i<jn:=ae;have MQ:=aa wD;obtain⟨ci,fi⟩:=aa Ht i ae;obtain⟨cj,fj⟩:=aa Ht jn ae;obtain⟨y,ey⟩:=aI dk[i]!;obtain⟨z,ez⟩:=aI dk[jn]!;have Uh:=af (Ht.swap (i:=i) (j:=jn) ae ae ez.symm ey.symm);rw[ey]at ci;rw[ez]at cj;have hq:=aa heq;rw[reverseLoop,bN kr]at hq;have HQ:=af hq;have tF:Hid ((swp dk i jn).size=N):=by show _=_;rw[size_swp];exact MQ
 have HG:=af (aX (aX hg (aE wr blk (off+i) (.U z))) (aE _ blk (off+jn) (.U y)));have i1:=aS jn N;have i2:=aS i N;have i3:=dA 0 jn;clear h1 h2 Ht heq hg ey ez hq MQ;go_wp2_with fail
 go_region
 go_wp2;go_roundw;exact⟨i+1,jn-1,(jn:Int)-1,swp dk i jn,by go_num,by first|rfl|go_num,ae,ae,ae,λh=>⟨ae,ae⟩,(λh=>ae),tF,Uh.drew,HQ,ay HG⟩;exact bM};{
 have co2:=aa h2 aT;have hq:=aa heq;rw[reverseLoop,bG co2]at hq;subst hq;go_wp2
 go_end0
 exact⟨rfl,Ht,hg⟩}}
end Q
namespace Q
open Go.Sort
theorem xl(lt:Int->Int->Bool)(a:Nat):∀(j:Nat)(d:Array Int),(insInner lt a j d).size=d.size
 |0,d=>rfl
 |j+1,d=>by rw[insInner];split;{rw[xl lt a j,size_swp]};{rfl}
theorem insInner_stop(h:¬a<j\/ltInt d[j]! d[j-1]! = false):insInner ltInt a j d=d:=by
 cases j with
 |zero=>rfl
 |succ j=>
  rw[insInner,bG];rcases h with h|h;{simp;omega};{simp only[Am]at h;simp[h]}
theorem insInner_go(h:a<j)(hl:ltInt d[j]! d[j-1]! = true):insInner ltInt a j d=insInner ltInt a (j-1) (swp d j (j-1)):=by
 cases j with
 |zero=>omega
 |succ j=>
  simp only[Am]at hl⊢;rw[insInner,bN (by simp[hl];omega)]
theorem aE3{blk off cap N a b:Nat}(hN:Hid (d.size=N)){w:World}(h:HU w blk off d)(Sy:a<=b)(hb:b<=N)(jI:N<=1048576):Calls prog 237 #[.S (some (Ad blk off)) N cap,.I a,.I b] w λe w'=>e=.returned (.tuple #[])/\HU w' blk off (insertionSort ltInt d a b)/\w.grownBy w' (some blk):=by
 obtain⟨D,eD⟩:=aI (insertionSort ltInt d a b);rw[eD];have ED:Hid (insOuter ltInt a b (a+1) d=D):=eD;have H0:=af h
 go_in
 go_wp2_with fail
 go_loopw[6](λs6 wr=>∃(i:Nat)(dk:Array Int),s6=.I i/\i<=1048577/\a<i/\Hid (dk.size=N)/\Hid (HU wr blk off dk)/\Hid (insOuter ltInt a b i dk=D)/\Hid (w.grownBy wr (some blk))) (λs6 _=>b-(intOf s6).toNat)
 exact⟨a+1,d,by first|rfl|go_num,ae,ae,hN,H0,ED,qI⟩;{
 obtain⟨i,dk,rfl,q1,q2,wD,Ht,heq,hg⟩:=hrel;by_cases aT:i<b;{
 have bu:=aS i b;have hq:=aa heq;rw[insOuter,bN aT]at hq;obtain⟨E,eE⟩:=aI (insInner ltInt a i dk);rw[eE]at hq;have HQ:=af hq;have EE:=af eE;have hEs:Hid (E.size=N):=by show _=_;rw[<-eE,xl];exact aa wD
 go_wp2_with fail;obtain⟨Y,eY⟩:=az wr;subst eY;have HG0:=hg
 go_loopw[7](λs7 wr=>∃(j:Nat)(dj:Array Int),s7=.I j/\j<=i/\a<=j/\Hid (dj.size=N)/\Hid (HU wr blk off dj)/\Hid (insInner ltInt a j dj=E)/\Hid (w.grownBy wr (some blk))) (λs7 _=>(intOf s7).toNat)
 exact⟨i,dk,rfl,iP _,ae,wD,Ht,EE,HG0⟩;{
 obtain⟨j,dj,rfl,q3,q4,hdj,IL,Up,hg⟩:=hrel;by_cases hja:a<j;{
 have cq3:=aS a j;obtain⟨m,em⟩:∃m:Nat,(j:Int)-1=(m:Int):=⟨j-1,ae⟩;have em0:j-1=m:=ae;have Q6:=aa hdj;obtain⟨cj,fj⟩:=aa IL j ae;obtain⟨cm,fm⟩:=aa IL m ae;obtain⟨y,ey⟩:=aI dj[j]!;obtain⟨z,ez⟩:=aI dj[m]!;have Uh:=af (IL.swap (i:=j) (j:=m) ae ae ez.symm ey.symm);rw[ey]at cj;rw[ez]at cm;have i1:=aS j N;have i2:=aS m N;have i3:=dA 0 m;have wm:=fk m;obtain⟨B,eB⟩:=aI (ltInt y z);have EB:=af eB;have vy:Hid (B=false->dj=E):=λhB=>by rw[<-aa Up,insInner_stop (.inr (by rw[em0,ey,ez,eB,hB]))]
 have HGO:Hid (B=true->insInner ltInt a m (swp dj j m)=E):=λhB=>by rw[<-aa Up,insInner_go hja (by rw[em0,ey,ez,eB,hB]),em0]
 have tF:Hid ((swp dj j m).size=N):=by show _=_;rw[size_swp];exact Q6
 have HG:=af (aX (aX hg (aE wr blk (off+j) (.U z))) (aE _ blk (off+m) (.U y)));have K0:=af (ah cj cm);have FF:=af (ah fj fm);go_wp2_with fail
 go_cut[30](λrv wc=>rv=.bool B/\wc=wr.drew)
 case first=>(
 refine dC (λw'=>w'.cell? (Ad blk (off+j))=some (.U y)/\w'.cell? (Ad blk (off+m))=some (.U z)) (by exact K0) λhS=>?_;refine nK 0 1 2 3 4 5 6 7 hS ?_;refine mU 8 9 10 11 hS ?_;refine tn 12 hS ?_;refine ry [13] ?_;refine cn (λKK hK=>?_) ?_;{refine de aH aH aH aH (λ_=>fU) (fS) ?_;rintro r w2⟨rfl,rfl⟩;refine⟨_,rfl,?_⟩;rw[aa EB];refine gr hK (by exact K0) λhS=>?_;refine tn 14 hS ?_;refine dw ?_;go_wp2_with fail;go_meet;exact⟨rfl,rfl⟩};exact eG)
 obtain⟨rfl,rfl⟩:=hcut;cases B with
 |false=>
  have e:=aa vy rfl;subst e;go_wp2;go_roundw;exact⟨i+1,dj,by go_num,ae,ae,hdj,IL.drew,HQ,ay hg⟩;exact bM
 |true=>
  have e:=af (aa HGO rfl);obtain⟨cj,cm⟩:=aa K0;obtain⟨fj,fm⟩:=aa FF;go_wp2_with fail
  go_region
  go_wp2;go_roundw;exact⟨m,swp dj j m,by first|rfl|go_num,ae,ae,tF,(aa Uh),e,ay (ay HG)⟩;exact bM};{
 have cq3:=dm a j;have e:dj=E:=by rw[<-aa Up,insInner_stop (.inl hja)]
 subst e;go_wp2_with fail
 go_cut[30](λrv wc=>rv=.bool false/\wc=wr.drew)
 case first=>(
 refine dC (λw'=>True) jR λhS=>?_;refine mU 0 1 2 3 hS ?_;refine oI 4 5 6 7 hS ?_;refine oI 8 9 10 11 hS ?_;refine sn 12 hS ?_;refine sn 13 hS ?_;refine tn 14 hS ?_;refine dw ?_;go_wp2_with fail;go_meet;exact⟨rfl,rfl⟩)
 obtain⟨rfl,rfl⟩:=hcut;go_wp2;go_roundw;exact⟨i+1,dj,by go_num,ae,ae,hdj,IL.drew,HQ,ay hg⟩
 case measure=>simp[intOf];omega}}}
 {
 have bu:=dm i b;have hq:=aa heq;rw[insOuter,bG aT]at hq;subst hq;go_wp2
 go_end0
 exact⟨rfl,Ht,hg⟩}}
end Q
namespace Q
open Go.Sort
def ZH{hi first r:Nat}(h:¬2*r+1<hi):siftDown ltInt hi first r d=d:=by
 rw[siftDown,Qm ae]
def YN(hi first r:Nat)(d:Array Int):Nat:=if 2*r+1+1<hi&&ltInt d[first+(2*r+1)]! d[first+(2*r+1)+1]! then 2*r+2 else 2*r+1
def Bz{hi first r:Nat}(h:2*r+1<hi)(hl:ltInt d[first+r]! d[first+YN hi first r d]! = false):siftDown ltInt hi first r d=d:=by
 rw[siftDown,dif_neg ae];unfold YN at hl;split;{next hc=>rw[bN hc]at hl;rw[bN (by simp[hl])]}
 {next hc=>rw[bG hc]at hl;rw[bN (by simp[hl])]}
def Lx{hi first r:Nat}(h:2*r+1<hi)(hl:ltInt d[first+r]! d[first+YN hi first r d]! = true):siftDown ltInt hi first r d=siftDown ltInt hi first (YN hi first r d) (swp d (first+r) (first+YN hi first r d)):=by
 rw[siftDown,dif_neg ae];unfold YN at hl⊢;split;{
 next hc=>
 rw[bN hc]at hl;rw[bG (by simp[hl])];have:2*r+2<hi:=by simp at hc;omega
 rw[Qm this]};{
 next hc=>
 rw[bG hc]at hl;rw[bG (by simp[hl])]}
theorem Pc{blk off cap N lo hi first:Nat}(hN:Hid (d.size=N)){w:World}(h:HU w blk off d)(hh:first+hi<=N)(YU:lo<=N)(jI:N<=1048576):Calls prog 258 #[.S (some (Ad blk off)) N cap,.I lo,.I hi,.I first] w λe w'=>e=.returned (.tuple #[])/\HU w' blk off (siftDown ltInt hi first lo d)/\w.grownBy w' (some blk):=by
 obtain⟨D,eD⟩:=aI (siftDown ltInt hi first lo d);rw[eD];have ED:=af eD;have H0:=af h
 go_in
 go_wp2_with fail
 go_loopw[8](λs8 wr=>∃(r:Nat)(dk:Array Int),s8=.I r/\r<=1048576/\Hid (dk.size=N)/\Hid (HU wr blk off dk)/\Hid (siftDown ltInt hi first r dk=D)/\Hid (w.grownBy wr (some blk))) (λs8 _=>hi-(intOf s8).toNat)
 exact⟨lo,d,rfl,ae,hN,H0,ED,qI⟩;{
 obtain⟨r,dk,rfl,q1,wD,Ht,heq,hg⟩:=hrel;have w1:IntKind.i64.wrap (2*(r:Int))=2*(r:Int):=jL _ ae;obtain⟨c,ec⟩:∃c:Nat,2*(r:Int)+1=(c:Int):=⟨2*r+1,ae⟩;have ec0:2*r+1=c:=ae;have wc:=fk c;by_cases aT:c<hi;{
 have bu:¬(hi:Int)<=(c:Int):=ae;have MQ:=aa wD;obtain⟨c2,ec2⟩:∃c2:Nat,(c:Int)+1=(c2:Int):=⟨c+1,ae⟩;have wc2:=fk c2;obtain⟨fr,efr⟩:∃x:Nat,(first:Int)+(r:Int)=(x:Int):=⟨first+r,ae⟩;have wfr:=fk fr;obtain⟨fc,efc⟩:∃x:Nat,(first:Int)+(c:Int)=(x:Int):=⟨first+c,ae⟩;have wfc:=fk fc;obtain⟨fd,efd⟩:∃x:Nat,(fc:Int)+1=(x:Int):=⟨fc+1,ae⟩;have wfd:=fk fd;have dQ6:(first:Int)+(c2:Int)=(fd:Int):=ae;have n1:first+r=fr:=ae
 have n2:first+c=fc:=ae
 have n3:fc+1=fd:=ae;have n4:2*r+2=c2:=ae;obtain⟨cr,frr⟩:=aa Ht fr ae;obtain⟨cc,fcc⟩:=aa Ht fc ae;obtain⟨y,ey⟩:=aI dk[fr]!;obtain⟨z,ez⟩:=aI dk[fc]!;rw[ey]at cr;rw[ez]at cc;have j1:=aS fr N;have j2:=aS fc N;have K1:=af (ah cr cc);have F1:=af (ah frr fcc);by_cases ku:c2<hi;{
 have ct5:=aS c2 hi;obtain⟨cd,fdd⟩:=aa Ht fd ae;obtain⟨x,ex⟩:=aI dk[fd]!;rw[ex]at cd;have j3:=aS fd N;obtain⟨B,eB⟩:=aI (ltInt z x);have EB:=af eB;have Um:YN hi first r dk=if B then c2 else c:=by unfold YN;rw[ec0,n4,n2,n3,ez,ex,eB];simp only[show decide (c+1<hi)=true by(rw[pL];omega),pM]
 have K2:=af (ah K1.2 cd);have bO9:=af Um;have HX:=af (ah ex (ah cd fdd));have Be:=af (ah ec0 (ah n1 (ah n2 (ah n3 n4))));have HE:=af (ah ey ez);go_wp2_with fail
 go_cut[36](λrv wc=>rv=.bool B/\wc=wr.drew)
 case first=>(
 refine dC (λw'=>w'.cell? (Ad blk (off+fc))=some (.U z)/\w'.cell? (Ad blk (off+fd))=some (.U x)) (by exact K2) λhS=>?_;refine nK 0 1 2 3 4 5 6 7 hS ?_;refine nK 8 9 10 11 12 13 14 15 hS ?_;refine kG 16 17 hS ?_;refine ry [18] ?_;refine cn (λKK hK=>?_) ?_;{refine de aH aH aH aH (λ_=>fU) (fS) ?_;rintro r' w2⟨rfl,rfl⟩;refine⟨_,rfl,?_⟩;rw[aa EB];refine gr hK (by exact K2) λhS=>?_;refine tn 19 hS ?_;refine dw ?_;go_wp2_with fail;go_meet;exact⟨rfl,rfl⟩};exact eG)
 obtain⟨rfl,rfl⟩:=hcut;cases B with
 |true=>
  have Lb:Hid (YN hi first r dk=c2):=by show _=_;rw[aa bO9];rfl
  obtain⟨ex,cd,fdd⟩:=aa HX;obtain⟨cr,-⟩:=aa K1;obtain⟨frr,-⟩:=aa F1;obtain⟨B2,SE⟩:=aI (ltInt y x);have EB2:=af SE;have Wu:first+c2=fd:=aG (aa Be)
  have mX:first+r=fr:=Be.2.1
  have vy:Hid (B2=false->dk=D):=λhB=>by rw[<-aa heq,Bz (aG Be.1) (by rw[aa Lb,Wu,mX,HE.1,ex,SE,hB])]
  have HGO:Hid (B2=true->siftDown ltInt hi first c2 (swp dk fr fd)=D):=λhB=>by have:=aa heq;rw[Lx (aG Be.1) (by rw[aa Lb,Wu,mX,HE.1,ex,SE,hB]),aa Lb,Wu,mX]at this;exact this
  have MQ:=aa wD;have Uh:=af (Ht.swap (i:=fr) (j:=fd) ae ae ex.symm HE.1.symm);have tF:Hid ((swp dk fr fd).size=N):=by show _=_;rw[size_swp];exact MQ
  have HG:=af (aX (aX hg (aE wr blk (off+fr) (.U x))) (aE _ blk (off+fd) (.U y)));have K3:=af (ah cr cd);have F3:=af (ah frr fdd);have hrc:r<c2:=aG (aa Be);go_wp2_with fail
  go_cut[52](λrv wc=>rv=.bool (!B2)/\wc=wr.drew.drew)
  case first=>(
 refine dC (λw'=>w'.cell? (Ad blk (off+fr))=some (.U y)/\w'.cell? (Ad blk (off+fd))=some (.U x)) (by exact K3) λhS=>?_;refine nK 0 1 2 3 4 5 6 7 hS ?_;refine mU 8 9 10 11 hS ?_;refine ry [12] ?_;refine cn (λKK hK=>?_) ?_;{refine de aH aH aH aH (λ_=>fU) (fS) ?_;rintro r' w2⟨rfl,rfl⟩;refine⟨_,rfl,?_⟩;rw[aa EB2];refine gr hK (by exact K3) λhS=>?_;refine tn 13 hS ?_;refine dw ?_;go_wp2_with fail;go_meet;exact⟨rfl,rfl⟩};exact eG)
  obtain⟨rfl,rfl⟩:=hcut;cases B2 with
  |false=>
   have e:=aa vy rfl;subst e;go_wp2;exact dD (sS (h:=rfl) _ _ _) rfl ⟨rfl,Ht,ay (ay hg)⟩
  |true=>
   have e:=af (aa HGO rfl);obtain⟨cr,cd⟩:=aa K3;obtain⟨frr,fdd⟩:=aa F3;go_wp2_with fail
   go_region
   go_wp2;go_roundw;exact⟨c2,swp dk fr fd,rfl,ae,tF,(aa Uh),e,ay (ay (ay HG))⟩;exact bM
 |false=>
  have Lb:Hid (YN hi first r dk=c):=by show _=_;rw[aa bO9];rfl
  have ex:=HE.2;have cd:=K1.2;have fdd:=F1.2;obtain⟨cr,-⟩:=aa K1;obtain⟨frr,-⟩:=aa F1;obtain⟨B2,SE⟩:=aI (ltInt y z);have EB2:=af SE;have Wu:first+c=fc:=aG (aa Be)
  have mX:first+r=fr:=Be.2.1
  have vy:Hid (B2=false->dk=D):=λhB=>by rw[<-aa heq,Bz (aG Be.1) (by rw[aa Lb,Wu,mX,HE.1,ex,SE,hB])]
  have HGO:Hid (B2=true->siftDown ltInt hi first c (swp dk fr fc)=D):=λhB=>by have:=aa heq;rw[Lx (aG Be.1) (by rw[aa Lb,Wu,mX,HE.1,ex,SE,hB]),aa Lb,Wu,mX]at this;exact this
  have MQ:=aa wD;have Uh:=af (Ht.swap (i:=fr) (j:=fc) ae ae ex.symm HE.1.symm);have tF:Hid ((swp dk fr fc).size=N):=by show _=_;rw[size_swp];exact MQ
  have HG:=af (aX (aX hg (aE wr blk (off+fr) (.U z))) (aE _ blk (off+fc) (.U y)));have K3:=af (ah cr cd);have F3:=af (ah frr fdd);have hrc:r<c:=aG (aa Be);go_wp2_with fail
  go_cut[52](λrv wc=>rv=.bool (!B2)/\wc=wr.drew.drew)
  case first=>(
 refine dC (λw'=>w'.cell? (Ad blk (off+fr))=some (.U y)/\w'.cell? (Ad blk (off+fc))=some (.U z)) (by exact K3) λhS=>?_;refine nK 0 1 2 3 4 5 6 7 hS ?_;refine mU 8 9 10 11 hS ?_;refine ry [12] ?_;refine cn (λKK hK=>?_) ?_;{refine de aH aH aH aH (λ_=>fU) (fS) ?_;rintro r' w2⟨rfl,rfl⟩;refine⟨_,rfl,?_⟩;rw[aa EB2];refine gr hK (by exact K3) λhS=>?_;refine tn 13 hS ?_;refine dw ?_;go_wp2_with fail;go_meet;exact⟨rfl,rfl⟩};exact eG)
  obtain⟨rfl,rfl⟩:=hcut;cases B2 with
  |false=>
   have e:=aa vy rfl;subst e;go_wp2;exact dD (sS (h:=rfl) _ _ _) rfl ⟨rfl,Ht,ay (ay hg)⟩
  |true=>
   have e:=af (aa HGO rfl);obtain⟨cr,cd⟩:=aa K3;obtain⟨frr,fdd⟩:=aa F3;go_wp2_with fail
   go_region
   go_wp2;go_roundw;exact⟨c,swp dk fr fc,rfl,ae,tF,(aa Uh),e,ay (ay (ay HG))⟩;exact bM};{
 have ct5:=dm c2 hi;have Lb:Hid (YN hi first r dk=c):=by show _=_;unfold YN;rw[bG aU,ec0]
 have Be:=af (ah ec0 (ah n1 (ah n2 (ah n3 n4))));have HE:=af (ah ey ez);have ex:=HE.2;have cd:=K1.2;have fdd:=F1.2;go_wp2_with fail
 go_cut[36](λrv wc=>rv=.bool false/\wc=wr.drew)
 case first=>(
 refine dC (λw'=>True) jR λhS=>?_;refine mU 0 1 2 3 hS ?_;refine tn 4 hS ?_;refine oI 5 6 7 8 hS ?_;refine oI 9 10 11 12 hS ?_;refine oI 13 14 15 16 hS ?_;refine sn 17 hS ?_;refine sn 18 hS ?_;refine tn 19 hS ?_;refine dw ?_;go_wp2_with fail;go_meet;exact⟨rfl,rfl⟩)
 obtain⟨rfl,rfl⟩:=hcut;obtain⟨cr,-⟩:=aa K1;obtain⟨frr,-⟩:=aa F1;obtain⟨B2,SE⟩:=aI (ltInt y z);have EB2:=af SE;have Wu:first+c=fc:=aG (aa Be)
 have mX:first+r=fr:=Be.2.1
 have vy:Hid (B2=false->dk=D):=λhB=>by rw[<-aa heq,Bz (aG Be.1) (by rw[aa Lb,Wu,mX,HE.1,ex,SE,hB])]
 have HGO:Hid (B2=true->siftDown ltInt hi first c (swp dk fr fc)=D):=λhB=>by have:=aa heq;rw[Lx (aG Be.1) (by rw[aa Lb,Wu,mX,HE.1,ex,SE,hB]),aa Lb,Wu,mX]at this;exact this
 have MQ:=aa wD;have Uh:=af (Ht.swap (i:=fr) (j:=fc) ae ae ex.symm HE.1.symm);have tF:Hid ((swp dk fr fc).size=N):=by show _=_;rw[size_swp];exact MQ
 have HG:=af (aX (aX hg (aE wr blk (off+fr) (.U z))) (aE _ blk (off+fc) (.U y)));have K3:=af (ah cr cd);have F3:=af (ah frr fdd);have hrc:r<c:=aG (aa Be);go_wp2_with fail
 go_cut[52](λrv wc=>rv=.bool (!B2)/\wc=wr.drew.drew)
 case first=>(
 refine dC (λw'=>w'.cell? (Ad blk (off+fr))=some (.U y)/\w'.cell? (Ad blk (off+fc))=some (.U z)) (by exact K3) λhS=>?_;refine nK 0 1 2 3 4 5 6 7 hS ?_;refine mU 8 9 10 11 hS ?_;refine ry [12] ?_;refine cn (λKK hK=>?_) ?_;{refine de aH aH aH aH (λ_=>fU) (fS) ?_;rintro r' w2⟨rfl,rfl⟩;refine⟨_,rfl,?_⟩;rw[aa EB2];refine gr hK (by exact K3) λhS=>?_;refine tn 13 hS ?_;refine dw ?_;go_wp2_with fail;go_meet;exact⟨rfl,rfl⟩};exact eG)
 obtain⟨rfl,rfl⟩:=hcut;cases B2 with
 |false=>
  have e:=aa vy rfl;subst e;go_wp2;exact dD (sS (h:=rfl) _ _ _) rfl ⟨rfl,Ht,ay (ay hg)⟩
 |true=>
  have e:=af (aa HGO rfl);obtain⟨cr,cd⟩:=aa K3;obtain⟨frr,fdd⟩:=aa F3;go_wp2_with fail
  go_region
  go_wp2;go_roundw;exact⟨c,swp dk fr fc,rfl,ae,tF,(aa Uh),e,ay (ay (ay HG))⟩;exact bM}};{
 have bu:=iH hi c;have hq:=aa heq;rw[ZH ae]at hq;subst hq;go_wp2
 first
  |exact dD (sS (h:=rfl) _ _ _) rfl ⟨rfl,Ht,hg⟩
  |(go_end0;exact⟨rfl,Ht,hg⟩)}}
end Q
namespace Q
open Go.Sort
theorem JS(lt:Int->Int->Bool)(hi first:Nat):∀(k r:Nat)(d:Array Int),hi-r<=k->(siftDown lt hi first r d).size=d.size:=by
 intro k
 induction k with
 |zero=>intro r d hk;rw[siftDown,Qm ae]
 |succ k ih=>
  intro r d hk;rw[siftDown];split;{rfl}
  {
 split;{
 split;{rfl}
 {split;{rw[ih _ _ ae,size_swp]};{rfl}}}
 {
 split;{rfl}
 {rw[ih _ _ ae,size_swp]}}}
def al9{blk off cap N a b:Nat}(hN:Hid (d.size=N)){w:World}(h:HU w blk off d)(Sy:a<=b)(hb:b<=N)(jI:N<=1048576):Calls prog 238 #[.S (some (Ad blk off)) N cap,.I a,.I b] w λe w'=>e=.returned (.tuple #[])/\HU w' blk off (heapSort ltInt d a b)/\w.grownBy w' (some blk):=by
 obtain⟨D,eD⟩:=aI (heapSort ltInt d a b);rw[eD];obtain⟨H,eH⟩:∃H:Nat,(b:Int)-(a:Int)=(H:Int):=⟨b-a,ae⟩;have eH0:b-a=H:=ae;have wH:=fk H;unfold heapSort at eD;rw[eH0]at eD;obtain⟨M,eM⟩:=aI (heapBuild ltInt H a ((H-1) / 2+1) d);rw[eM]at eD;have ED:=af eD;have EM:=af eM;have H0:=af h;have hHN:a+H<=N:=ae;have HE0:=af eH0;have w1:IntKind.i64.wrap ((H:Int)-1)=(H:Int)-1:=jL _ ae;obtain⟨q,eq⟩:∃q:Int,Int.tdiv ((H:Int)-1) 2=q:=⟨_,rfl⟩;have hq:q=((H-1) / 2:Nat):=by rw[<-eq];by_cases hz:H=0;{subst hz;decide};{rw[show(H:Int)-1=((H-1:Nat):Int) by omega];exact(ae4 _ _).symm}
 have hq1:0<=q:=ae;have hq2:q<=1048576:=ae;have wq:IntKind.i64.wrap q=q:=jL _ ae;have HQ:=af hq;clear eD eM h eH0 hq
 go_in
 go_wp2_with fail
 go_loopw[9](λs9 wr=>∃(iz:Int)(k:Nat)(dk:Array Int),s9=.I iz/\iz=(k:Int)-1/\k<=H+1/\Hid (dk.size=N)/\Hid (HU wr blk off dk)/\Hid (heapBuild ltInt H a k dk=M)/\Hid (w.grownBy wr (some blk))) (λs9 _=>(intOf s9+1).toNat)
 exact⟨q,(H-1) / 2+1,d,rfl,aG (aa HQ),ae,hN,H0,EM,qI⟩;{
 obtain⟨iz,k,dk,rfl,hk,hiz,wD,Ht,heq,hg⟩:=hrel;have HK:=af hk;by_cases hz:0<=iz;{
 obtain⟨m,em⟩:∃m:Nat,iz=(m:Int):=⟨iz.toNat,ae⟩;have ek:k=m+1:=ae;subst ek;clear hk HK;subst em;have Od:=dA 0 m;have wu:=aa heq;rw[heapBuild]at wu;have HQ2:=af wu;have bc6:Hid ((siftDown ltInt H a m dk).size=N):=by show _=_;rw[JS ltInt H a _ m dk ao];exact aa wD
 have hm:m<=N:=ae;clear wu heq;go_wp2_with fail;refine(Pc wD Ht hHN hm jI).mono ?_;rintro e w2⟨rfl,AZ,gi⟩;have HG:=af (aX hg gi);have HH2:=af AZ;clear gi AZ;go_wp2;go_roundw;exact⟨(m:Int)-1,m,_,by first|rfl|go_num,ae,ae,bc6,HH2,HQ2,HG⟩
 case measure=>first|(simp[intOf];done)|(simp[intOf];omega)}
 {
 have ek:k=0:=ae;subst ek;have eM:dk=M:=aa heq;subst eM;clear hk HK;go_wp2_with fail;obtain⟨Y,eY⟩:=az wr;subst eY;have HG0:=hg;clear hg hz
 go_loopw[10](λTy wr=>∃(iz:Int)(k:Nat)(dj:Array Int),Ty=.I iz/\iz=(k:Int)-1/\k<=H/\Hid (dj.size=N)/\Hid (HU wr blk off dj)/\Hid (heapPop ltInt a k dj=D)/\Hid (w.grownBy wr (some blk))) (λTy _=>(intOf Ty+1).toNat)
 exact⟨(H:Int)-1,H,dk,rfl,rfl,iP _,wD,Ht,ED,HG0⟩;{
 obtain⟨iz,k,dj,rfl,hk,hiz,hdj,IL,Up,hg⟩:=hrel;by_cases hz:0<=iz;{
 obtain⟨m,em⟩:∃m:Nat,iz=(m:Int):=⟨iz.toNat,ae⟩;have ek:k=m+1:=ae;subst ek;clear hk;subst em;have Od:=dA 0 m;obtain⟨f,ef⟩:∃x:Nat,(a:Int)+(m:Int)=(x:Int):=⟨a+m,ae⟩;have wf:=fk f;have ef0:a+m=f:=ae;have Q6:=aa hdj;obtain⟨ca,fa⟩:=aa IL a ae;obtain⟨cf,ff⟩:=aa IL f ae;obtain⟨y,ey⟩:=aI dj[a]!;obtain⟨z,ez⟩:=aI dj[f]!;rw[ey]at ca;rw[ez]at cf;obtain⟨tt,ct⟩:=jP (q:=(Ad blk (off+a))) (u:=.U z) cf;have i1:=aS a N;have i2:=aS f N;have wu:=aa Up;rw[heapPop,ef0]at wu;have HQ2:=af wu;have HSW:=af (IL.swap (i:=a) (j:=f) ae ae ez.symm ey.symm);have tF:Hid ((swp dj a f).size=N):=by show _=_;rw[size_swp];exact Q6
 have HS3:Hid ((siftDown ltInt m a 0 (swp dj a f)).size=N):=by show _=_;rw[JS ltInt m a _ 0 _ ao];exact aa tF
 have HG:=af (aX (aX hg (aE wr blk (off+a) (.U z))) (aE _ blk (off+f) (.U y)));have Dt:a+m<=N:=ae;clear ey ez Q6 wu Up ef0;go_wp2_with fail
 go_region
 go_wp2_with fail;refine(Pc tF (by exact HSW) Dt (fN _) jI).mono ?_;rintro e w2⟨rfl,AZ,gi⟩;have HG2:=af (aX (ay HG) gi);have HH2:=af AZ;clear gi AZ ca cf fa ff ct;go_wp2;go_roundw;exact⟨(m:Int)-1,m,_,by first|rfl|go_num,rfl,ae,HS3,HH2,HQ2,HG2⟩
 case measure=>first|(simp[intOf];done)|(simp[intOf];omega)}
 {
 have ek:k=0:=ae;subst ek;have eD:dj=D:=aa Up;subst eD;clear hk;go_wp2
 go_end0
 exact⟨rfl,IL,hg⟩}}}}
end Q
namespace Q
open Go.Sort
def bs8(h:i<b)(hp:ltInt d[i]! d[i-1]! = false):scanSorted ltInt d b i=scanSorted ltInt d b (i+1):=by
 rw[scanSorted,bN (by simp[h,hp])]
def az6(h:¬i<b\/ltInt d[i]! d[i-1]! = true):scanSorted ltInt d b i=i:=by
 rw[scanSorted,bG];rcases h with h|h;{simp;omega};{simp[h]}
theorem Vx:∀(j:Nat)(d:Array Int),(shiftDown ltInt j d).size=d.size
 |0,d=>rfl
 |j+1,d=>by
  rw[shiftDown];split;{rfl}
  {rw[Vx j,size_swp]}
theorem az1(b:Nat):∀(k j:Nat)(d:Array Int),b-j<=k->(shiftUp ltInt b j d).size=d.size:=by
 intro k
 induction k with
 |zero=>intro j d h;rw[shiftUp,bG ae]
 |succ k ih=>
  intro j d h;rw[shiftUp];split;{
 split;{rfl}
 {rw[ih _ _ ae,size_swp]}};{rfl}
theorem bt2(h:0<j)(hp:ltInt d[j]! d[j-1]! = true):shiftDown ltInt j d=shiftDown ltInt (j-1) (swp d j (j-1)):=by
 cases j with
 |zero=>omega
 |succ j=>
  simp only[Am]at hp⊢;rw[shiftDown,bG (by simp[hp])]
theorem Vw(h:j=0\/ltInt d[j]! d[j-1]! = false):shiftDown ltInt j d=d:=by
 cases j with
 |zero=>rfl
 |succ j=>
  rcases h with h|h;{omega};{simp only[Am]at h;rw[shiftDown,bN (by simp[h])]}
def bs6(h:j<b)(hp:ltInt d[j]! d[j-1]! = true):shiftUp ltInt b j d=shiftUp ltInt b (j+1) (swp d j (j-1)):=by
 rw[shiftUp,bN h,bG (by simp[hp])]
def Vq(h:¬j<b\/ltInt d[j]! d[j-1]! = false):shiftUp ltInt b j d=d:=by
 rw[shiftUp];rcases h with h|h;{rw[bG h]};{split;{rw[bN (by simp[h])]};{rfl}}
def aB1{a b s i I:Nat}(hI:scanSorted ltInt d b i=I)(h:I=b):partialIns ltInt a b (s+1) i d=(d,true):=by
 rw[partialIns];simp only[hI];rw[bN h]
def pi_short{a b s i I:Nat}(hI:scanSorted ltInt d b i=I)(h:¬I=b)(h5:b-a<50):partialIns ltInt a b (s+1) i d=(d,false):=by
 rw[partialIns];simp only[hI];rw[bG h,bN h5]
def pi_go{a b s i I:Nat}(hI:scanSorted ltInt d b i=I)(h:¬I=b)(h5:¬b-a<50){d2 d3 d4:Array Int}(h2:swp d I (I-1)=d2)(h3:(if I-a>=2 then shiftDown ltInt (I-1) d2 else d2)=d3)(h4:(if b-I>=2 then shiftUp ltInt b (I+1) d3 else d3)=d4):partialIns ltInt a b (s+1) i d=partialIns ltInt a b s I d4:=by
 rw[partialIns];simp only[hI];rw[bG h,bG h5,h2,h3,h4]
theorem Xl{blk off cap N a b:Nat}(hN:Hid (d.size=N)){w:World}(h:HU w blk off d)(Sy:a<b)(hb:b<=N)(jI:N<=1048576):Calls prog 242 #[.S (some (Ad blk off)) N cap,.I a,.I b] w λe w'=>e=.returned (.bool (partialInsertionSort ltInt d a b).2)/\HU w' blk off (partialInsertionSort ltInt d a b).1/\w.grownBy w' (some blk):=by
 obtain⟨⟨R1,R2⟩,eR⟩:∃R,partialInsertionSort ltInt d a b=R:=⟨_,rfl⟩;rw[eR];have ER:Hid (partialIns ltInt a b 5 (a+1) d=(R1,R2)):=eR;have H0:=af h;obtain⟨Lz,eL⟩:∃x:Nat,(b:Int)-(a:Int)=(x:Int):=⟨b-a,ae⟩;have eL0:=af (show b-a=Lz by omega);have wL:=fk Lz
 go_in
 go_wp2_with fail
 go_loopw[7,8](λs7 s8 wr=>∃(i s:Nat)(jz:Int)(dk:Array Int),s7=.I i/\s8=.I jz/\jz+s=5/\0<=jz/\a+1<=i/\i<=b/\Hid (dk.size=N)/\Hid (HU wr blk off dk)/\Hid (partialIns ltInt a b s i dk=(R1,R2))/\Hid (w.grownBy wr (some blk))) (λ_ s8 _=>(5-intOf s8).toNat)
 exact⟨a+1,5,0,d,by first|rfl|go_num,rfl,rfl,ae,ae,ae,hN,H0,ER,qI⟩;{
 obtain⟨i,s,jz,dk,rfl,rfl,z1,z2,z3,z4,HD,hH,hQ,hG⟩:=hrel;cases s with
 |zero=>
  have hj:¬jz<5:=ae;have hq:=aa hQ;simp only[partialIns,fQ]at hq;obtain⟨eq1,eq2⟩:=hq;subst eq1 eq2;go_wp2;go_ret;exact⟨rfl,hH,hG⟩
 |succ t=>
  have hj:jz<5:=ae;obtain⟨I,eI⟩:=aI (scanSorted ltInt dk b i);have EI:=af eI;have EI':=af eI;have wD:=aa HD;go_wp2_with fail;obtain⟨Y,eY⟩:=az wr;subst eY
  go_loopw[7](λs7 wr=>∃i1:Nat,s7=.I i1/\a+1<=i1/\i1<=b/\Hid (HU wr blk off dk)/\Hid (scanSorted ltInt dk b i1=I)/\Hid (w.grownBy wr (some blk))) (λs7 _=>b-(intOf s7).toNat)
  exact⟨i,rfl,ae,ae,hH,EI,hG⟩;{
 obtain⟨i1,rfl,qa,qb,Co,hE1,hG1⟩:=hrel;obtain⟨Bc,Yh⟩:=aI (decide (i1<b)&&!ltInt dk[i1]! dk[i1-1]!);have vX:=af Yh;obtain⟨m,em⟩:∃m:Nat,(i1:Int)-1=(m:Int):=⟨i1-1,ae⟩;have em0:=af (show i1-1=m by omega);have wm:=fk m;go_wp2_with fail
 go_cut[32](λrv wc=>rv=.bool Bc/\wc=wr.drew)
 case first=>(
 by_cases kr:i1<b;{
 have Cl:=aS i1 b;obtain⟨c1,-⟩:=aa Co i1 ae;obtain⟨c2,-⟩:=aa Co m ae;obtain⟨x,ex⟩:=aI dk[i1]!;obtain⟨y,ey⟩:=aI dk[m]!;rw[ex]at c1;rw[ey]at c2;have k1:=aS i1 N;have k2:=aS m N;have k3:=dA 0 i1;have k4:=dA 0 m;obtain⟨L,eL'⟩:=aI (ltInt x y);have EL:=af eL';have eB:Bc=(!L):=by rw[<-aa vX];simp only[BN kr,pM,aa em0,ex,ey,eL']
 subst eB;have K0:=af (ah c1 c2);refine dC (λw'=>w'.cell? (Ad blk (off+i1))=some (.U x)/\w'.cell? (Ad blk (off+m))=some (.U y)) (by exact K0) λhS=>?_;refine nK 0 1 2 3 4 5 6 7 hS ?_;refine mU 8 9 10 11 hS ?_;refine tn 12 hS ?_;refine dM 13 λKK hK=>?_;refine de aH aH aH aH (λ_=>fU) (fS) ?_;rintro r' w2⟨rfl,rfl⟩;refine⟨_,rfl,?_⟩;rw[aa EL];refine gr hK (by exact K0) λhS=>?_;refine kG 14 15 hS ?_;refine dw ?_;go_wp2_with fail;go_meet;exact⟨rfl,rfl⟩};{
 have Cl:=dm i1 b;have eB:Bc=false:=by rw[<-aa vX,tX kr];rfl
 subst eB;refine dC (λw'=>True) jR λhS=>?_;refine mU 0 1 2 3 hS ?_;refine oI 4 5 6 7 hS ?_;refine oI 8 9 10 11 hS ?_;refine sn 12 hS ?_;refine sn 13 hS ?_;refine sn 14 hS ?_;refine tn 15 hS ?_;refine dw ?_;go_wp2_with fail;go_meet;exact⟨rfl,rfl⟩})
 obtain⟨rfl,rfl⟩:=hcut;cases Bc with
 |true=>
  have hh:i1<b/\ltInt dk[i1]! dk[i1-1]! = false:=by have:=aa vX;simp only[fx,pL,Bool.not_eq_true']at this;exact this
  have hn:Hid (scanSorted ltInt dk b (i1+1)=I):=by show _=_;rw[<-bs8 hh.1 hh.2];exact aa hE1
  have hle:=hh.1;go_wp2;go_roundw;exact⟨i1+1,by go_num,ae,ae,Co.drew,hn,ay hG1⟩;exact bM
 |false=>
  have cX:i1=I:=by rw[<-aa hE1,az6];have:=aa vX;simp only[uM,xL,Bool.not_eq_false']at this;exact this
  subst cX;by_cases hib:i1=b;{have hq:=aa hQ;rw[aB1 (aa EI') hib,fQ]at hq;obtain⟨eq1,eq2⟩:=hq;subst eq1 eq2;subst hib;go_wp2;go_ret;exact⟨rfl,Co,ay hG1⟩};{
 have dH7:¬(i1:Int)=(b:Int):=ae;by_cases h5:Lz<50;{have h5':(Lz:Int)<50:=ae;have hq:=aa hQ;rw[pi_short (aa EI') hib (aa eL0▸h5),fQ]at hq;obtain⟨eq1,eq2⟩:=hq;subst eq1 eq2;go_wp2;go_ret;exact⟨rfl,Co,ay hG1⟩};{
 have h5':¬(Lz:Int)<50:=ae;obtain⟨d2,e2⟩:=aI (swp dk i1 (i1-1));obtain⟨d3,e3⟩:∃x,(if i1-a>=2 then shiftDown ltInt (i1-1) d2 else d2)=x:=⟨_,rfl⟩;obtain⟨d4,e4⟩:∃x,(if b-i1>=2 then shiftUp ltInt b (i1+1) d3 else d3)=x:=⟨_,rfl⟩;have hq:=aa hQ;rw[pi_go (aa EI') hib (aa eL0▸h5) e2 e3 e4]at hq;have HQ:=af hq;rw[aa em0]at e2 e3;have HD2:Hid (d2.size=N):=by show _=_;rw[<-e2,size_swp];exact wD
 have Iy:Hid (d3.size=N):=by show _=_;rw[<-e3];split;{rw[Vx];exact aa HD2};{exact HD2}
 have HD4:Hid (d4.size=N):=by show _=_;rw[<-e4];split;{rw[az1 b _ _ _ ao];exact aa Iy};{exact Iy}
 obtain⟨c1,f1⟩:=aa Co i1 ae;obtain⟨c2,f2⟩:=aa Co m ae;obtain⟨p1,Ib⟩:=aI dk[i1]!;obtain⟨p2,Ia⟩:=aI dk[m]!;rw[Ib]at c1;rw[Ia]at c2;have vx:=af (Co.swap (i:=i1) (j:=m) ae ae Ia.symm Ib.symm);rw[e2]at vx;have SP:=af (aX (aX hG1 (aE _ blk (off+i1) (.U p2))) (aE _ blk (off+m) (.U p1)));have l1:=aS i1 N;have l2:=aS m N;have l3:=dA 0 m;have E3:=af e3;have E4:=af e4;obtain⟨A1,eA⟩:∃x:Nat,(i1:Int)-(a:Int)=(x:Int):=⟨i1-a,ae⟩;have eA0:=af (show i1-a=A1 by omega);have wA:=fk A1;obtain⟨B1,eB1⟩:∃x:Nat,(b:Int)-(i1:Int)=(x:Int):=⟨b-i1,ae⟩;have eB0:=af (show b-i1=B1 by omega);have wB:=fk B1;go_wp2_with fail
 go_region
 go_upto_if 61 with fail
 go_cut[9](λs9 wc=>Hid (HU wc blk off d3)/\Hid (w.grownBy wc (some blk)))
 case first=>(
 by_cases hC:A1>=2;{
 have hC':(A1:Int)>=2:=ae;have hC2:=dA 2 A1
 try simp only[hC2,decide_true]
 have E3':Hid (shiftDown ltInt m d2=d3):=by have:=aa E3;rw[aa eA0,bN hC]at this;exact this
 go_wp2_with fail;obtain⟨Y2,eY2⟩:=az wr;subst eY2
 go_loopw[9](λs9 wr=>∃(j:Nat)(dj:Array Int),s9=.I j/\j<=m/\Hid (dj.size=N)/\Hid (HU wr blk off dj)/\Hid (shiftDown ltInt j dj=d3)/\Hid (w.grownBy wr (some blk))) (λs9 _=>(intOf s9).toNat)
 exact⟨m,d2,by first|rfl|go_num,ae,HD2,by exact vx,E3',by exact ay (ay SP)⟩;{
 obtain⟨j,dj,rfl,q1,hdj,IL,Up,hg⟩:=hrel;by_cases hgo:0<j;{
 have al6:=dA 1 j;obtain⟨jm,ejm⟩:∃x:Nat,(j:Int)-1=(x:Int):=⟨j-1,ae⟩;have UI:j-1=jm:=ae;have wjm:=fk jm;have Q6:=aa hdj;obtain⟨cj,fj⟩:=aa IL j ae;obtain⟨cm,fm⟩:=aa IL jm ae;obtain⟨y,ey⟩:=aI dj[j]!;obtain⟨z,ez⟩:=aI dj[jm]!;have Uh:=af (IL.swap (i:=j) (j:=jm) ae ae ez.symm ey.symm);rw[ey]at cj;rw[ez]at cm;have i1':=aS j N;have i2':=aS jm N;have i3':=dA 0 jm;have i4':=dA 0 j;obtain⟨B,eB⟩:=aI (ltInt y z);have EB:=af eB;have vy:Hid (B=false->dj=d3):=λhB=>by rw[<-aa Up,Vw (.inr (by rw[UI,ey,ez,eB,hB]))]
 have HGO:Hid (B=true->shiftDown ltInt jm (swp dj j jm)=d3):=λhB=>by rw[<-aa Up,bt2 hgo (by rw[UI,ey,ez,eB,hB]),UI]
 have tF:Hid ((swp dj j jm).size=N):=by show _=_;rw[size_swp];exact Q6
 have HGs:=af (aX (aX hg (aE _ blk (off+j) (.U z))) (aE _ blk (off+jm) (.U y)));have K0:=af (ah cj cm);have FF:=af (ah fj fm);go_wp2_with fail
 go_cut[78](λrv wc=>rv=.bool (!B)/\wc=wr.drew)
 case first=>(
 refine dC (λw'=>w'.cell? (Ad blk (off+j))=some (.U y)/\w'.cell? (Ad blk (off+jm))=some (.U z)) (by exact K0) λhS=>?_;refine nK 0 1 2 3 4 5 6 7 hS ?_;refine tn 8 hS ?_;refine ry [9] ?_;refine cn (λKK hK=>?_) ?_;{refine de aH aH aH aH (λ_=>fU) (fS) ?_;rintro r w2⟨rfl,rfl⟩;refine⟨_,rfl,?_⟩;rw[aa EB];refine gr hK (by exact K0) λhS=>?_;refine tn 10 hS ?_;refine dw ?_;go_wp2_with fail;go_meet;exact⟨rfl,rfl⟩};exact eG)
 obtain⟨rfl,rfl⟩:=hcut;cases B with
 |false=>
  have e:=aa vy rfl;subst e;go_wp2_with fail;go_meet;exact⟨IL,ay hg⟩
 |true=>
  have e:=af (aa HGO rfl);obtain⟨cj,cm⟩:=aa K0;obtain⟨fj,fm⟩:=aa FF;go_wp2_with fail
  go_region
  go_wp2;go_roundw
  case rel=>(
 exact⟨jm,swp dj j jm,by first|rfl|go_num,ae,tF,(aa Uh),e,ay (ay HGs)⟩)
  case measure=>simp[intOf];omega}
 {
 have al6:¬(1:Int)<=(j:Int):=ae;have e:dj=d3:=by rw[<-aa Up,Vw (.inl ae)]
 subst e;go_wp2_with fail;go_meet;exact⟨IL,hg⟩}}};{
 have hC':¬(A1:Int)>=2:=ae;have hC2:¬(2:Int)<=(A1:Int):=ae
 try simp only[hC2,We]
 have e:d2=d3:=by have:=aa E3;rw[aa eA0,bG hC]at this;exact this
 subst e;go_wp2_with fail;go_meet;exact⟨by exact vx,by exact ay (ay SP)⟩})
 obtain⟨MY,hG3⟩:=hcut;obtain⟨Y3,eY3⟩:=az wc;subst eY3
 go_upto_if 98 with fail
 by_cases hC:B1>=2;{
 have hC':(B1:Int)>=2:=ae;have hC2:=dA 2 B1
 try simp only[hC2,decide_true]
 have E3':Hid (shiftUp ltInt b (i1+1) d3=d4):=by have:=aa E4;rw[aa eB0,bN hC]at this;exact this
 go_wp2_with fail;obtain⟨Y2,eY2⟩:=az wr;subst eY2
 go_loopw[10](λTy wr=>∃(j:Nat)(dj:Array Int),Ty=.I j/\i1+1<=j/\j<=b/\Hid (dj.size=N)/\Hid (HU wr blk off dj)/\Hid (shiftUp ltInt b j dj=d4)/\Hid (w.grownBy wr (some blk))) (λTy _=>b-(intOf Ty).toNat)
 exact⟨i1+1,d3,by first|rfl|go_num,ae,ae,Iy,by exact MY,E3',by exact hG3⟩;{
 obtain⟨j,dj,rfl,q1,q2,hdj,IL,Up,hg⟩:=hrel;by_cases hgo:j<b;{
 have al6:=aS j b;obtain⟨jm,ejm⟩:∃x:Nat,(j:Int)-1=(x:Int):=⟨j-1,ae⟩;have UI:j-1=jm:=ae;have wjm:=fk jm;have Q6:=aa hdj;obtain⟨cj,fj⟩:=aa IL j ae;obtain⟨cm,fm⟩:=aa IL jm ae;obtain⟨y,ey⟩:=aI dj[j]!;obtain⟨z,ez⟩:=aI dj[jm]!;have Uh:=af (IL.swap (i:=j) (j:=jm) ae ae ez.symm ey.symm);rw[ey]at cj;rw[ez]at cm;have i1':=aS j N;have i2':=aS jm N;have i3':=dA 0 jm;have i4':=dA 0 j;obtain⟨B,eB⟩:=aI (ltInt y z);have EB:=af eB;have vy:Hid (B=false->dj=d4):=λhB=>by rw[<-aa Up,Vq (.inr (by rw[UI,ey,ez,eB,hB]))]
 have HGO:Hid (B=true->shiftUp ltInt b (j+1) (swp dj j jm)=d4):=λhB=>by rw[<-aa Up,bs6 hgo (by rw[UI,ey,ez,eB,hB]),UI]
 have tF:Hid ((swp dj j jm).size=N):=by show _=_;rw[size_swp];exact Q6
 have HGs:=af (aX (aX hg (aE _ blk (off+j) (.U z))) (aE _ blk (off+jm) (.U y)));have K0:=af (ah cj cm);have FF:=af (ah fj fm);go_wp2_with fail
 go_cut[116](λrv wc=>rv=.bool (!B)/\wc=wr.drew)
 case first=>(
 refine dC (λw'=>w'.cell? (Ad blk (off+j))=some (.U y)/\w'.cell? (Ad blk (off+jm))=some (.U z)) (by exact K0) λhS=>?_;refine nK 0 1 2 3 4 5 6 7 hS ?_;refine tn 8 hS ?_;refine ry [9] ?_;refine cn (λKK hK=>?_) ?_;{refine de aH aH aH aH (λ_=>fU) (fS) ?_;rintro r w2⟨rfl,rfl⟩;refine⟨_,rfl,?_⟩;rw[aa EB];refine gr hK (by exact K0) λhS=>?_;refine tn 10 hS ?_;refine dw ?_;go_wp2_with fail;go_meet;exact⟨rfl,rfl⟩};exact eG)
 obtain⟨rfl,rfl⟩:=hcut;cases B with
 |false=>
  have e:=aa vy rfl;subst e;go_wp2;go_roundw
  case rel=>(
 exact⟨i1,t,jz+1,_,rfl,by first|rfl|go_num,ae,ae,ae,ae,HD4,IL,HQ,ay hg⟩)
  case measure=>simp[intOf];omega
 |true=>
  have e:=af (aa HGO rfl);obtain⟨cj,cm⟩:=aa K0;obtain⟨fj,fm⟩:=aa FF;go_wp2_with fail
  go_region
  go_wp2;go_roundw
  case rel=>(
 exact⟨j+1,swp dj j jm,by first|rfl|go_num,ae,ae,tF,(aa Uh),e,ay (ay HGs)⟩)
  case measure=>simp[intOf];omega}
 {
 have al6:=dm j b;have e:dj=d4:=by rw[<-aa Up,Vq (.inl hgo)]
 subst e;go_wp2;go_roundw
 case rel=>(
 exact⟨i1,t,jz+1,_,rfl,by first|rfl|go_num,ae,ae,ae,ae,HD4,IL,HQ,hg⟩)
 case measure=>simp[intOf];omega}}}
 {
 have hC':¬(B1:Int)>=2:=ae;have hC2:¬(2:Int)<=(B1:Int):=ae
 try simp only[hC2,We]
 have e:d3=d4:=by have:=aa E4;rw[aa eB0,bG hC]at this;exact this
 subst e;go_wp2;go_roundw
 case rel=>(
 exact⟨i1,t,jz+1,_,rfl,by first|rfl|go_num,ae,ae,ae,ae,HD4,by exact MY,HQ,by exact hG3⟩)
 case measure=>simp[intOf];omega}}}}}
end Q
namespace Q
open Go.Sort
structure YI(w:World)(g:Nat)(S:Int):Prop where
 cell:w.cell? (Ad g 0)=some (.I S)
 fr:w.frozen? (Ad g 0)=false
def YI.drew{w:World}{S:Int}(h:YI w g S):YI w.drew g S:=⟨h.cell,h.fr⟩
def YI.set{w:World}{S T:Int}(h:YI w g S):YI (w.setCell (Ad g 0) (.I T)) g T:=
 ⟨Db _ _ _ h.cell,by rw[BM];exact h.fr⟩
def HU.aside{w:World}{blk off g o:Nat}(h:HU w blk off d)(cg:g≠blk):HU (w.setCell (Ad g o) v) blk off d:=
 h.kept (fW _ _ _ _ (λe=>cg (by simpa using e.symm)))
theorem xI{blk off cap N g x y:Nat}{S:Int}(hN:Hid (d.size=N)){w:World}(h:HU w blk off d)(hx:x<N)(hy:y<N)(jI:N<=1048576)(hg:g≠blk)(hc:YI w g S)(hS:0<=S)(Sz:S<=1000):Calls prog 270 #[.S (some (Ad blk off)) N cap,.I x,.I y,.pointer (some (Ad g 0))] w λe w'=>
   ∃(x' y':Nat)(S':Int),e=.returned (.tuple #[.I x',.I y'])/\((x'=x/\y'=y)\/(x'=y/\y'=x))/\S<=S'/\S'<=S+1/\YI w' g S'/\HU w' blk off d/\w.grownBy w' (some g):=by
 have wD:=aa hN;obtain⟨cx,-⟩:=h x ae;obtain⟨cy,-⟩:=h y ae;obtain⟨u,eu⟩:=aI d[x]!;obtain⟨v,ev⟩:=aI d[y]!;rw[eu]at cx;rw[ev]at cy;have k1:=aS x N;have k2:=aS y N;obtain⟨B,eB⟩:=aI (ltInt v u);have EB:=af eB;have K0:=af (ah cx cy);have H0:=af h;have C0:=af hc;have EW:=hc.cell;have yK:=hc.fr
 go_in
 go_wp2_with fail
 go_cut[18](λrv wc=>rv=.bool B/\wc=w.drew)
 case first=>(
 refine dC (λw'=>w'.cell? (Ad blk (off+x))=some (.U u)/\w'.cell? (Ad blk (off+y))=some (.U v)) (by exact K0) λhS=>?_;refine nK 0 1 2 3 4 5 6 7 hS ?_;refine ry [8] ?_;refine cn (λKK hK=>?_) ?_;{refine de aH aH aH aH (λ_=>fU) (fS) ?_;rintro r' w2⟨rfl,rfl⟩;refine⟨_,rfl,?_⟩;rw[aa EB];refine gr hK (by exact K0) λhS=>?_;refine dw ?_;go_wp2_with fail;go_meet;exact⟨rfl,rfl⟩};exact eG)
 obtain⟨rfl,rfl⟩:=hcut;cases B with
 |true=>
  go_wp2
  go_ret2
  exact⟨y,x,S+1,rfl,.inr ⟨rfl,rfl⟩,ae,ae,C0.drew.set,(H0.drew).aside hg,aX (ay (qI)) (aE _ g 0 _)⟩
 |false=>
  go_wp2
  go_ret2
  exact⟨x,y,S,rfl,.inl ⟨rfl,rfl⟩,ae,ae,C0.drew,H0.drew,ay (qI)⟩
def xK{blk off cap N g x y z:Nat}{S:Int}(hN:Hid (d.size=N)){w:World}(h:HU w blk off d)(hx:x<N)(hy:y<N)(hz:z<N)(jI:N<=1048576)(hg:g≠blk)(hc:YI w g S)(hS:0<=S)(Sz:S<=900):Calls prog 262 #[.S (some (Ad blk off)) N cap,.I x,.I y,.I z,.pointer (some (Ad g 0))] w λe w'=>
   ∃(m:Nat)(S':Int),e=.returned (.I m)/\(m=x\/m=y\/m=z)/\S<=S'/\S'<=S+3/\YI w' g S'/\HU w' blk off d/\w.grownBy w' (some g):=by
 have H0:=af h;have C0:=af hc
 go_in
 go_wp2_with fail;refine(xI hN H0 hx hy jI hg C0 hS ae).mono ?_;rintro e w1⟨x1,y1,S1,rfl,hxy,s1,s2,iW,Co,gx⟩;have C1:=af iW;have H1:=af Co;have G1:=af gx;have XY:=af hxy;have x1N:x1<N:=ae;have y1N:y1<N:=ae;go_wp2_with fail;refine(xI hN H1 y1N hz jI hg C1 ae ae).mono ?_;rintro e w2⟨y2,z2,S2,rfl,hyz,s3,s4,ku,AZ,gi⟩;have C2:=af ku;have H2:=af AZ;have G2:=af gi;have YZ:=af hyz;have y2N:y2<N:=ae;go_wp2_with fail;refine(xI hN H2 x1N y2N jI hg C2 ae ae).mono ?_;rintro e w3⟨x3,y3,S3,rfl,cl6,s5,s6,Ho,MY,wC⟩;have C3:=af Ho;have H3:=af MY;have G3:=af wC;have XY3:=af cl6;go_wp2;go_ret;exact⟨y3,S3,rfl,by have:=aa XY;have:=aa YZ;have:=aa XY3;omega,ae,ae,C3,H3,aX G1 (aX G2 G3)⟩
def qW{blk off cap N g x:Nat}{S:Int}(hN:Hid (d.size=N)){w:World}(h:HU w blk off d)(hx:1<=x)(XC:x+1<N)(jI:N<=1048576)(hg:g≠blk)(hc:YI w g S)(hS:0<=S)(Sz:S<=900):Calls prog 261 #[.S (some (Ad blk off)) N cap,.I x,.pointer (some (Ad g 0))] w λe w'=>
   ∃(m:Nat)(S':Int),e=.returned (.I m)/\x<=m+1/\m<=x+1/\S<=S'/\S'<=S+3/\YI w' g S'/\HU w' blk off d/\w.grownBy w' (some g):=by
 have H0:=af h;have C0:=af hc;obtain⟨m,em⟩:∃m:Nat,(x:Int)-1=(m:Int):=⟨x-1,ae⟩;obtain⟨n,en⟩:∃n:Nat,(x:Int)+1=(n:Int):=⟨x+1,ae⟩;have wm:=fk m;have wn:=fk n;have mN:m<N:=ae;have nN:n<N:=ae;have xN:x<N:=ae
 go_in
 go_wp2_with fail;refine(xK hN H0 mN xN nN jI hg C0 hS Sz).mono ?_;rintro e w1⟨r,S1,rfl,hr,s1,s2,iW,Co,gx⟩;have C1:=af iW;have H1:=af Co;have G1:=af gx;have HR:=af hr;go_wp2;go_ret;exact⟨r,S1,rfl,aG (aa HR),aG (aa HR),s1,s2,C1,H1,G1⟩
end Q
namespace Q
open Go.Sort
def vg{w:World}{o:Obj}:w.grownBy (w.alloc o) row:=Qb w o row
def Cr{w w1 w2:World}(h:w.grownBy w1 row)(k:w1.grownBy w2 (some g))(hg:w.heap.size<=g):w.grownBy w2 row:=
 ⟨k.os.trans h.os,k.tape.trans h.tape,k.output.trans h.output,dQ h.size k.size,λi hi cg=>(k.block i (gQ hi h.size) (λe=>by
  have:i=g:=by simpa using e
  omega)).trans (h.block i hi cg)⟩
def HU.alloc{w:World}{blk off:Nat}(h:HU w blk off d)(hb:blk<w.heap.size)(o:Obj):HU (w.alloc o) blk off d:=
 h.kept (RowKit.Below.heap_alloc w o blk hb)
def Xk{blk off cap N a b:Nat}(hN:Hid (d.size=N)){w:World}(h:HU w blk off d)(jB:blk<w.heap.size)(Sy:a+8<=b)(hb:b<=N)(jI:N<=1048576):Calls prog 240 #[.S (some (Ad blk off)) N cap,.I a,.I b] w λe w'=>
   ∃(p:Nat)(t:Int),e=.returned (.tuple #[.I p,.I t])/\a<=p/\p<b/\HU w' blk off d/\w.grownBy w' (some blk):=by
 obtain⟨L,eL⟩:∃x:Nat,(b:Int)-(a:Int)=(x:Int):=⟨b-a,ae⟩;have wL:=fk L;obtain⟨Q,eQ⟩:=aI (L / 4);have eQ1:Int.tdiv (L:Int) 4=(Q:Int):=eQ▸(ae4 L 4).symm;have eQ2:(L:Int) / 4=(Q:Int):=ae;have wQ:=fk Q;have wQ2:IntKind.i64.wrap ((Q:Int)*2)=(Q:Int)*2:=jL _ ae;have wQ3:IntKind.i64.wrap ((Q:Int)*3)=(Q:Int)*3:=jL _ ae;obtain⟨I,eI⟩:∃x:Nat,(a:Int)+(Q:Int)=(x:Int):=⟨a+Q,ae⟩;obtain⟨J,eJ⟩:∃x:Nat,(a:Int)+(Q:Int)*2=(x:Int):=⟨a+Q*2,ae⟩;obtain⟨K,eK⟩:∃x:Nat,(a:Int)+(Q:Int)*3=(x:Int):=⟨a+Q*3,ae⟩;have wI:=fk I;have wJ:=fk J;have wK:=fk K;have bI:a+2<=I/\I+6<=b:=ae;have bJ:a+2<=J/\J+2<b:=ae;have bK:a+2<=K/\K+1<b:=ae;have h8:=dA 8 L;have hg:w.heap.size≠blk:=ae;have H0:=af (h.alloc jB (.cells #[.I 0] 3));have C0:Hid (YI (w.alloc (.cells #[.I 0] 3)) w.heap.size 0):=⟨ai,ai⟩;have HL:=af (ah eQ Sy)
 go_in
 by_cases h50:(50:Int)<=(L:Int);{
 go_wp2_with fail;refine(qW hN H0 ae ae jI hg C0 ae ae).mono ?_;rintro e w1⟨i1,S1,rfl,p1,p2,s1,s2,iW,Co,gx⟩;have C1:=af iW;have H1:=af Co;have G1:=af gx;go_wp2_with fail;refine(qW hN H1 ae ae jI hg C1 ae ae).mono ?_;rintro e w2⟨j1,S2,rfl,p3,p4,s3,s4,ku,AZ,gi⟩;have C2:=af ku;have H2:=af AZ;have G2:=af gi;go_wp2_with fail;refine(qW hN H2 ae ae jI hg C2 ae ae).mono ?_;rintro e w3⟨k1,S3,rfl,p5,p6,s5,s6,Ho,MY,wC⟩;have C3:=af Ho;have H3:=af MY;have G3:=af wC;go_wp2_with fail;refine(xK hN H3 ae ae ae jI hg C3 ae ae).mono ?_;rintro e w4⟨m,S4,rfl,hm,s7,s8,Og,Ra,tL⟩;have H4:=af Ra;have G4:=af (Cr (vg (w:=w) (row:=some blk)) (aX G1 (aX G2 (aX G3 tL))) ao);have B4:a<=m/\m<b:=ae;have HB:=af B4;have EW:=Og.cell;go_wp2
 all_goals
  go_ret2
  exact⟨m,_,rfl,HB.1,HB.2,H4,G4⟩};{
 go_wp2_with fail;refine(xK hN H0 ae ae ae jI hg C0 ae ae).mono ?_;rintro e w4⟨m,S4,rfl,hm,s7,s8,Og,Ra,tL⟩;have H4:=af Ra;have G4:=af (Cr (vg (w:=w) (row:=some blk)) tL ao);have B4:a<=m/\m<b:=ae;have HB:=af B4;have EW:=Og.cell;go_wp2
 all_goals
  go_ret2
  exact⟨m,_,rfl,HB.1,HB.2,H4,G4⟩}
end Q
namespace Q
open Go.Sort
theorem TF:∀x:Nat,0<x->x<2 ^ 64->2 ^ (Lib.bitLen x)<=2*x:=by
 intro x
 induction x using Nat.strongRecOn with
 |_ x ih=>
  intro h0 h;rw[Lib.bitLen_half x ae h,ag0,Qt];by_cases h1:x=1;{subst h1;decide};{have:=ih (x / 2) ae ae ae;omega}
def aV7(h:i<Lib.len8tab.size):(Lib.len8tab[i]).toNat=Lib.bitLen i/\Lib.bitLen i<=8:=by
 have h':=h;rw[Lib.len8tab_size]at h';have h2:=Lib.len8_of (i:Int) ae ae;have h3:=Lib.bitLen_le8' (i:Int) ae ae;simp only[Lib.len8,qY,ByteArray.getElem?_lt' _ _ h,si]at h2 h3;omega
def Lm{i:Int}{m:Nat}(e:i.toNat=m)(h:i.toNat<Lib.len8tab.size):((Lib.len8tab[i.toNat]).toNat:Int)=(Lib.bitLen m:Int)/\Lib.bitLen m<=8:=by
 subst e;have:=aV7 h;omega
def Xu{n:Nat}(hn:Mg n){w:World}:Calls prog 247 #[.U n] w λe w'=>e=.returned (.I (Lib.bitLen n))/\w'=w:=by
 obtain⟨x,ex⟩:∃x:Int,(n:Int)=x:=⟨_,rfl⟩;have hx0:0<=x:=ae;have hx1:x<=1048576:=ae;rw[ex];have EX:=af (ah ex hn);clear ex hn
 go_in
 go_wp2
 all_goals(try(exfalso;simp only[Lib.len8tab_size]at*;omega))
 all_goals(go_ret;refine⟨uO Ending.returned (uO (Value.int IntKind.i64) ?_),rfl⟩)
 {obtain⟨ex,hn⟩:=aa EX;obtain⟨t1,t2⟩:=Lm (i:=x / 65536) (m:=n / 65536) ae ae;have s:=Lib.bitLen_shift16 n ae ae;rw[t1,GC (Lib.bitLen _:Int) ae,GC _ ae];omega};{obtain⟨ex,hn⟩:=aa EX;obtain⟨t1,t2⟩:=Lm (i:=x / 256) (m:=n / 256) ae ae;have s:=Lib.bitLen_shift8 n ae ae;rw[t1,GC (Lib.bitLen _:Int) ae,GC _ ae];omega};{obtain⟨ex,hn⟩:=aa EX;obtain⟨t1,t2⟩:=Lm (i:=x) (m:=n) ae ae;rw[t1,GC (Lib.bitLen _:Int) ae,GC _ ae]}
def Ms{n:Nat}(hn:Mg n)(w:World):Calls prog 228 #[.U n] w λe w'=>e=.returned (.I (Lib.bitLen n))/\w'=w:=by
 go_in
 go_wp2_with fail;refine(Xu hn).mono ?_;rintro e w'⟨rfl,rfl⟩;go_wp2;go_ret;exact⟨rfl,rfl⟩
def ab4{n:Nat}(KH:0<n)(hn:Mg n){w:World}:Calls prog 259 #[.I n] w λe w'=>∃M:Nat,e=.returned (.U M)/\0<M/\M<=2*n/\w'=w:=by
 have hK:Lib.bitLen n<=21:=Lib.bitLen_le n 21 ae ae;have hP:=TF n KH ae;have hL:=Ms hn;generalize Lib.bitLen n=K at hK hP hL;obtain⟨M,eM⟩:=aI (2 ^ K);have h0:0<M:=eM▸Nat.two_pow_pos K;rw[eM]at hP;have hp:((2:Int) ^ K)=(M:Int):=by rw[<-eM];push_cast;rfl
 have hw:IntKind.u64.wrap ((2:Int) ^ K)=(M:Int):=by rw[hp,jj];omega
 have hP':=af hP;have h0':=af h0;clear hP h0 eM hp
 go_in
 go_wp2_with fail;refine(hL _).mono ?_;rintro e w'⟨rfl,rfl⟩;go_wp2;go_ret;exact⟨M,by first|rfl|simp only[hw],aa h0',aa hP',rfl⟩
def ac0{X:Nat}(hX:X<18446744073709551616){w:World}(hc:w.cell? (Ad g 0)=some (.U X))(hf:w.frozen? (Ad g 0)=false):Calls prog 260 #[.pointer (some (Ad g 0))] w λe w'=>∃C:Nat,e=.returned (.U C)/\C<18446744073709551616/\w'.cell? (Ad g 0)=some (.U C)/\w'.frozen? (Ad g 0)=false/\w.grownBy w' (some g):=by
 obtain⟨A,lA,e1⟩:∃A:Nat,A<18446744073709551616/\bits .xor .u64 (X:Int) (IntKind.u64.wrap ((X:Int)*8192))=(A:Int):=by refine⟨X ^^^ (X*8192 % 18446744073709551616),Ql (n:=64) ae ae,?_⟩;rw[jj,show((X:Int)*8192 % 18446744073709551616)=((X*8192 % 18446744073709551616:Nat):Int) by omega,ac5 _ _ hX ae]
 obtain⟨B,lB,e2⟩:∃B:Nat,B<18446744073709551616/\bits .xor .u64 (A:Int) ((A:Int) / 128)=(B:Int):=by refine⟨A ^^^ (A / 128),Ql (n:=64) ae ae,?_⟩;rw[show((A:Int) / 128)=((A / 128:Nat):Int) by omega,ac5 _ _ lA ae]
 obtain⟨C,lC,e3⟩:∃C:Nat,C<18446744073709551616/\bits .xor .u64 (B:Int) (IntKind.u64.wrap ((B:Int)*131072))=(C:Int):=by refine⟨B ^^^ (B*131072 % 18446744073709551616),Ql (n:=64) ae ae,?_⟩;rw[jj,show((B:Int)*131072 % 18446744073709551616)=((B*131072 % 18446744073709551616:Nat):Int) by omega,ac5 _ _ lB ae]
 have c1:=Db w (Ad g 0) (.U A) hc;have c2:=Db _ (Ad g 0) (.U B) c1;have c3:=Db _ (Ad g 0) (.U C) c2;have HG:=af (aX (aX (aE w g 0 (.U A)) (aE _ g 0 (.U B))) (aE _ g 0 (.U C)));have HF:Hid ((((w.setCell (Ad g 0) (.U A)).setCell (Ad g 0) (.U B)).setCell (Ad g 0) (.U C)).frozen? (Ad g 0)=false):=by show _=_;simp only[BM];exact hf
 have LC:=af lC;have HC:=af c3;clear hX lA lB lC
 go_in
 go_wp2_with fail
 go_region
 go_wp2_with fail
 go_region
 go_wp2_with fail
 go_region
 go_wp2;go_ret;exact⟨C,rfl,LC,by exact HC,by exact HF,by exact ay (ay (ay HG))⟩
end Q
namespace Q
open Go.Sort
def Yv{blk off cap N a b:Nat}(hN:Hid (d.size=N)){w:World}(h:HU w blk off d)(jB:blk<w.heap.size)(Sy:a+8<=b)(hb:b<=N)(jI:N<=1048576):Calls prog 239 #[.S (some (Ad blk off)) N cap,.I a,.I b] w λe w'=>
   e=.returned (.tuple #[])/\∃d',HU w' blk off d'/\PermIn a b d d'/\w.grownBy w' (some blk):=by
 obtain⟨L,eL⟩:∃x:Nat,(b:Int)-(a:Int)=(x:Int):=⟨b-a,ae⟩;have wL:=fk L;obtain⟨Q,eQ⟩:=aI (L / 4);have eQ1:Int.tdiv (L:Int) 4=(Q:Int):=eQ▸(ae4 L 4).symm;have eQ2:(L:Int) / 4=(Q:Int):=ae;have wQ:=fk Q;have wQ2:IntKind.i64.wrap ((Q:Int)*2)=(Q:Int)*2:=jL _ ae;obtain⟨J,eJ⟩:∃x:Nat,(a:Int)+(Q:Int)*2=(x:Int):=⟨a+Q*2,ae⟩;have wJ:=fk J;have bJ:a+2<=J/\J+2<b:=ae;have wJ1:IntKind.i64.wrap ((J:Int)+1)=(J:Int)+1:=jL _ ae;obtain⟨J0,eJ0⟩:∃x:Nat,(J:Int)-1=(x:Int):=⟨J-1,ae⟩;have wJ0:=fk J0;have h8:=dA 8 L;have wU:IntKind.u64.wrap (L:Int)=(L:Int):=by rw[jj];omega
 have hg:w.heap.size≠blk:=ae;have hLb:a+L=b:=ae;have H0:=af (h.alloc jB (.cells #[.U L] 303));have HL:=af (ah eQ Sy)
 go_in
 go_wp2_with fail;refine(ab4 ae ae).mono ?_;rintro e w1⟨M,rfl,hM0,hM,rfl⟩;have wM:IntKind.u64.wrap ((M:Int)-1)=(M:Int)-1:=by rw[jj];omega
 go_wp2_with fail
 go_loopw[9](λs9 wr=>∃(idx R:Nat)(dk:Array Int),s9=.I idx/\J0<=idx/\idx<=J+2/\R<18446744073709551616/\Hid (wr.cell? (Ad w.heap.size 0)=some (.U R)/\wr.frozen? (Ad w.heap.size 0)=false)/\Hid (HU wr blk off dk)/\Hid (PermIn a b d dk)/\Hid (dk.size=N)/\Hid (w.grownBy wr (some blk))) (λs9 _=>J+2-(intOf s9).toNat)
 exact⟨J0,L,d,rfl,ae,ae,ae,⟨ai,ai⟩,by exact aa H0,permIn_refl d a b,hN,by exact vg⟩;{
 obtain⟨idx,R,dk,rfl,z1,z2,lR,hC,hH,hP,hdk,hG⟩:=hrel;by_cases hgo:idx<=J+1;{
 have al6:(idx:Int)<=(J:Int)+1:=ae;go_wp2_with fail;refine(ac0 lR hC.1 hC.2).mono ?_;rintro e w2⟨C,rfl,lC,ku,Q4,gi⟩;have C2:=af (ah ku Q4);have H2:=af (hH.kept (gi.block blk (gQ jB hG.size) (λe=>hg (by simpa using e.symm))));have G2:=af (Cr hG gi ao);obtain⟨O,lO,dR6⟩:∃O:Nat,O<=M-1/\bits .and .u64 (C:Int) ((M:Int)-1)=(O:Int):=by refine⟨C&&& (M-1),Nat.and_le_right,?_⟩;rw[show((M:Int)-1)=((M-1:Nat):Int) by omega,bits_and_u64_nat _ _ lC ae]
 have wO:=fk O;by_cases hLO:L<=O;{
 have cw3:=iH L O;obtain⟨P,eP⟩:∃x:Nat,(O:Int)-(L:Int)=(x:Int):=⟨O-L,ae⟩;have wP:=fk P;have bP:P<L:=ae;obtain⟨T,eT⟩:∃x:Nat,(a:Int)+(P:Int)=(x:Int):=⟨a+P,ae⟩;have wT:=fk T;have bT:a<=T/\T<b:=ae;have wD:=aa hdk;obtain⟨c1,f1⟩:=aa H2 idx ae;obtain⟨c2,f2⟩:=aa H2 T ae;obtain⟨p1,Ib⟩:=aI dk[idx]!;obtain⟨p2,Ia⟩:=aI dk[T]!;rw[Ib]at c1;rw[Ia]at c2;obtain⟨tt,ct⟩:=jP (q:=(Ad blk (off+idx))) (u:=.U p2) c2;have vx:=af (H2.swap (i:=idx) (j:=T) ae ae Ia.symm Ib.symm);have SP:=af (aX (aX G2 (aE _ blk (off+idx) (.U p2))) (aE _ blk (off+T) (.U p1)));have HPn:Hid (PermIn a b d (swp dk idx T)):=permIn_trans _ _ _ a b hP (swp_permIn dk a b idx T ae ae ae ae ae);have HDn:Hid ((swp dk idx T).size=N):=by show _=_;rw[size_swp];exact wD
 have HCn:Hid ((((w2.setCell (Ad blk (off+idx)) (.U p2)).setCell (Ad blk (off+T)) (.U p1)).drew).cell? (Ad w.heap.size 0)=some (.U C)/\(((w2.setCell (Ad blk (off+idx)) (.U p2)).setCell (Ad blk (off+T)) (.U p1)).drew).frozen? (Ad w.heap.size 0)=false):=
  ⟨(CQ _ _ _ _ (by simp<;>omega)).trans ((CQ _ _ _ _ (by simp<;>omega)).trans C2.1),by show World.frozen? ((w2.setCell (Ad blk (off+idx)) (.U p2)).setCell (Ad blk (off+T)) (.U p1)) _=false;rw[BM,BM];exact C2.2⟩
 have l1:=aS idx N;have l2:=aS T N;have l3:=dA 0 T;go_wp2_with fail
 go_region
 go_wp2;go_roundw;exact⟨idx+1,C,swp dk idx T,by first|rfl|go_num,ae,ae,lC,HCn,by exact vx,HPn,HDn,by exact ay SP⟩;exact bM};{
 have cw3:¬(L:Int)<=(O:Int):=ae;obtain⟨P,eP⟩:∃x:Nat,O=x:=⟨O,rfl⟩;subst eP;have bP:O<L:=ae;obtain⟨T,eT⟩:∃x:Nat,(a:Int)+(O:Int)=(x:Int):=⟨a+O,ae⟩;have wT:=fk T;have bT:a<=T/\T<b:=ae;have wD:=aa hdk;obtain⟨c1,f1⟩:=aa H2 idx ae;obtain⟨c2,f2⟩:=aa H2 T ae;obtain⟨p1,Ib⟩:=aI dk[idx]!;obtain⟨p2,Ia⟩:=aI dk[T]!;rw[Ib]at c1;rw[Ia]at c2;obtain⟨tt,ct⟩:=jP (q:=(Ad blk (off+idx))) (u:=.U p2) c2;have vx:=af (H2.swap (i:=idx) (j:=T) ae ae Ia.symm Ib.symm);have SP:=af (aX (aX G2 (aE _ blk (off+idx) (.U p2))) (aE _ blk (off+T) (.U p1)));have HPn:Hid (PermIn a b d (swp dk idx T)):=permIn_trans _ _ _ a b hP (swp_permIn dk a b idx T ae ae ae ae ae);have HDn:Hid ((swp dk idx T).size=N):=by show _=_;rw[size_swp];exact wD
 have HCn:Hid ((((w2.setCell (Ad blk (off+idx)) (.U p2)).setCell (Ad blk (off+T)) (.U p1)).drew).cell? (Ad w.heap.size 0)=some (.U C)/\(((w2.setCell (Ad blk (off+idx)) (.U p2)).setCell (Ad blk (off+T)) (.U p1)).drew).frozen? (Ad w.heap.size 0)=false):=
  ⟨(CQ _ _ _ _ (by simp<;>omega)).trans ((CQ _ _ _ _ (by simp<;>omega)).trans C2.1),by show World.frozen? ((w2.setCell (Ad blk (off+idx)) (.U p2)).setCell (Ad blk (off+T)) (.U p1)) _=false;rw[BM,BM];exact C2.2⟩
 have l1:=aS idx N;have l2:=aS T N;have l3:=dA 0 T;go_wp2_with fail
 go_region
 go_wp2;go_roundw;exact⟨idx+1,C,swp dk idx T,by first|rfl|go_num,ae,ae,lC,HCn,by exact vx,HPn,HDn,by exact ay SP⟩;exact bM}};{
 have al6:¬(idx:Int)<=(J:Int)+1:=ae;go_wp2
 go_end0
 exact⟨rfl,dk,hH,hP,hG⟩}}
end Q
namespace Q
open Go.Maps
def iO:Keyed prog 31:=int_keyed underlying31
abbrev fy(x:Int):Value:=.U x
def rI{H:Type}(D0:DataW H)(left:Lit->Bool)(ss:LI):Prop:=ss.Nodup/\∀x,x∈ss↔(has D0 (.U x)=true/\left (.U x)=false)
def rI.start{H:Type}(D0:DataW H):rI D0 (has D0) []:=⟨VY,λx=>by cases has D0 (.U x)<;>simp⟩
def rI.step{H:Type}{D0:DataW H}(h:rI D0 left ss){y:DataW H}(hlk:left (.U x)=true)(fT:∀zd,D0.atKey (.U x) zd=y):rI D0 (λz=>left z&&!z.sameKey (.U x)) (ss++[x]):=by
 have Un:has D0 (.U x)=true:=has_true_of_atKey fT;have ya:x∉ss:=λhx=>by have:=((h.2 x).1 hx).2;rw[hlk]at this;cases this
 refine⟨BS.2 ⟨h.1,ai,λa ha b hb=>by simp at hb;subst hb;exactλe=>ya (e▸ha)⟩,λy=>?_⟩;by_cases hy:y=x;{subst hy;simp[Un,Lit.sameKey]};{simp[h.2 y,hy,Lit.sameKey]}
def lu{H:Type}(D0:DataW H)(ss:LI):Prop:=ss.Nodup/\(∀x,x∈ss↔has D0 (.U x)=true)/\ss.length<=Maps.size D0
def rI.all{H:Type}{D0:DataW H}(h:rI D0 left ss)(hl:∀kl,left kl=false)(hs:ss.length<=Maps.size D0):lu D0 ss:=⟨h.1,(λx=>by rw[h.2 x,hl];simp),hs⟩
theorem Mz{H:Type}(n:Nat)(hn:1<=n)(l Bm b nn:Nat)(D0:DataW H){R:Value->Option (DataW H×List MemPlace)}(J Jx:LI->World->Prop)(hY:∀pre x W,J pre W->pre.length<Maps.size D0->YieldAt Fence.wide (n-1) prog l #[fy x] W λe W'=>(e=.returned (.bool true)/\J (pre++[x]) W'/\KeepsWalks W W')\/(e=.returned (.bool false)/\Jx (pre++[x]) W'))(W:World)(hJ:AbidesFrom W.heap.size J)(hm:W.cell? (Ad Bm 0)=some (.map (some b)))(bO:W.ownsMap prog 31 R b nn D0)(h0:J [] W):CallsIn Fence.wide n prog 205 #[.func (.yield l) #[] #[],.pointer (some (Ad Bm 0))] W λe W'=>(∃v,e=.returned v)/\((∃ss:LI,lu D0 ss/\J ss W')\/(∃pre,Jx pre W')):=by
 refine mG func205 rfl jR ?_ rfl;simp only[ntmps205,rB,Nat.reduceAdd,Nat.reduceSub]
 gi_wp2_with(first
  |(gi_at_range;refine wpListIn_range_own _ rfl _ 132 rfl 31 _ iO underlying132 _ b nn _ rfl bO ?_;intro w0 mP Ed Kz)
  |gi_in)
 go_frame
 gi_loopw [3] (λ_ wr=>∃(left:Lit->Bool)(jD:Nat)(ss:LI),wr.ranges prog 31 R b W.heap.size nn D0 left jD/\ss.length+jD<=Maps.size D0/\rI D0 left ss/\J ss wr)
  (λ_ wr=>wr.rangeLeft b W.heap.size)
 case atStart=>exact⟨_,_,[],mP,ai,rI.start D0,hJ [] W w0 none h0 Ed (λr e=>by cases e)⟩
 case round=>(
 obtain⟨left,jD,ss,jN,hcs,hC,hJs⟩:=hrel
 gi_wp2_with(first
  |(gi_at_next;refine wpListIn_next_ranges _ rfl _ rfl 31 iO R fy id (λkey kl hk=>by obtain⟨x,hx,_⟩:=Maps.keyOf_int_inv underlying31 hk;exact⟨x,hx⟩) (λv _ _=>⟨v,rfl⟩) b W.heap.size nn _ _ _ rfl jN ?_ ?_)
  |gi_in)
 {
 intro wF yb
 gi_wp2
 go_end0
 exact⟨⟨_,rfl⟩,.inl ⟨ss,hC.all yb ae,hJs⟩⟩};{
 intro x c kl yd yp w2 ar6 cQ hlk hv fT Hh aT gi Hf Ef;obtain⟨x',ex,rfl,_⟩:=Maps.keyOf_int_inv underlying31 cQ;obtain rfl:x=x':=by simpa[fy]using ex
 have hJ2:J ss w2:=hJ ss wr w2 (some W.heap.size) hJs gi (λr e=>by cases e;exact⟨iP _,jN.iter_walk⟩);obtain⟨fn,tmps,assign,body,hy,hR⟩:=hY ss x w2 hJ2 ae;clear Hf
 gi_wp2
 refine hR.mono ?_;rintro e W3(⟨rfl,SC,rM⟩|⟨rfl,Cm⟩);{
 gi_wp2
 have ua:=Hh.of_walks rM;go_roundw;exact⟨_,ar6,ss++[x],ua,aU,hC.step hlk fT,SC⟩
 case measure=>rw[ua.left_eq,jN.left_eq];exact aT}
 {
 gi_wp2
 refine dD (sS rfl _ _ _) rfl ?_;exact⟨⟨_,rfl⟩,.inr ⟨_,Cm⟩⟩}})
def Ua(n:Nat)(mb:Option Nat)(w:World):CallsIn Fence.wide n prog 148 #[.map mb] w λe w'=>e=.returned (.func (.func 205) #[] #[.pointer (some (Ad w.heap.size 0))])/\w'=w.alloc (.cells #[.map mb] 132):=by
 refine mG func148 rfl jR ?_ rfl;simp only[ntmps148,rB,Nat.reduceAdd,Nat.reduceSub]
 gi_wp2
 go_ret;exact⟨rfl,rfl⟩
def Lo{H:Type}(n:Nat)(hn:1<=n)(Bm b nn:Nat)(D0:DataW H){R:Value->Option (DataW H×List MemPlace)}(w:World)(hBm:Bm<w.heap.size)(hm:w.cell? (Ad Bm 0)=some (.map (some b)))(bO:w.ownsMap prog 31 R b nn D0):SeqStopsK Fence.wide n prog 205 #[.pointer (some (Ad Bm 0))] (λx:Int=>#[fy x]) KeepsWalks (lu D0) (λ_=>True) (Maps.size D0) w:=λl J Jx W hW hJ _ hY h0=>by
 have sy:W.ownsMap prog 31 R b nn D0:=by have Ej:=bO.lt;obtain⟨es,clock,hb,Ft,hs,hD⟩:=bO;exact⟨es,clock,(hW.block b Ej).trans hb,Ft,hs,hD⟩
 refine(Mz n hn l Bm b nn D0 J Jx hY W hJ ((hW.cell (p:=(Ad Bm 0)) hBm).trans hm) sy h0).mono ?_;rintro e W'⟨he,⟨ss,hs,hj⟩|⟨pre,hj⟩⟩;{exact⟨he,.inl ⟨ss,hs,hj⟩⟩};{exact⟨he,.inr ⟨pre,jR,hj⟩⟩}
theorem aD5{H:Type}{n:Nat}(hn:1<=n){l:Nat}{D0:DataW H}{R:Value->Option (DataW H×List MemPlace)}(J Jx:LI->World->Prop)(hY:∀pre x W,J pre W->pre.length<Maps.size D0->YieldAt Fence.wide (n-1) prog l #[fy x] W λe W'=>(e=.returned (.bool true)/\J (pre++[x]) W'/\KeepsWalks W W')\/(e=.returned (.bool false)/\Jx (pre++[x]) W'))(hJ:AbidesFrom W.heap.size J)(hm:W.cell? (Ad Bm 0)=some (.map (some b)))(bO:W.ownsMap prog 31 R b nn D0)(h0:J [] W):CallsIn Fence.wide n prog 231 #[.func (.yield l) #[] #[],.pointer (some (Ad Bm 0))] W λe W'=>(∃v,e=.returned v)/\((∃ss:LI,lu D0 ss/\J ss W')\/(∃pre,Jx pre W')):=by
 refine mG func231 rfl jR ?_ rfl;simp only[ntmps231,rB,Nat.reduceAdd,Nat.reduceSub]
 gi_wp2_with(first
  |(gi_at_range;refine wpListIn_range_own _ rfl _ 138 rfl 31 _ iO underlying138 _ b nn _ rfl bO ?_;intro w0 mP Ed Kz)
  |gi_in)
 go_frame
 gi_loopw [3] (λ_ wr=>∃(left:Lit->Bool)(jD:Nat)(ss:LI),wr.ranges prog 31 R b W.heap.size nn D0 left jD/\ss.length+jD<=Maps.size D0/\rI D0 left ss/\J ss wr)
  (λ_ wr=>wr.rangeLeft b W.heap.size)
 case atStart=>exact⟨_,_,[],mP,ai,rI.start D0,hJ [] W w0 none h0 Ed (λr e=>by cases e)⟩
 case round=>(
 obtain⟨left,jD,ss,jN,hcs,hC,hJs⟩:=hrel
 gi_wp2_with(first
  |(gi_at_next;refine wpListIn_next_ranges _ rfl _ rfl 31 iO R fy id (λkey kl hk=>by obtain⟨x,hx,_⟩:=Maps.keyOf_int_inv underlying31 hk;exact⟨x,hx⟩) (λv _ _=>⟨v,rfl⟩) b W.heap.size nn _ _ _ rfl jN ?_ ?_)
  |gi_in)
 {
 intro wF yb
 gi_wp2
 go_end0
 exact⟨⟨_,rfl⟩,.inl ⟨ss,hC.all yb ae,hJs⟩⟩};{
 intro x c kl yd yp w2 ar6 cQ hlk hv fT Hh aT gi Hf Ef;obtain⟨x',ex,rfl,_⟩:=Maps.keyOf_int_inv underlying31 cQ;obtain rfl:x=x':=by simpa[fy]using ex
 have hJ2:J ss w2:=hJ ss wr w2 (some W.heap.size) hJs gi (λr e=>by cases e;exact⟨iP _,jN.iter_walk⟩);obtain⟨fn,tmps,assign,body,hy,hR⟩:=hY ss x w2 hJ2 ae;clear Hf
 gi_wp2
 refine hR.mono ?_;rintro e W3(⟨rfl,SC,rM⟩|⟨rfl,Cm⟩);{
 gi_wp2
 have ua:=Hh.of_walks rM;go_roundw;exact⟨_,ar6,ss++[x],ua,aU,hC.step hlk fT,SC⟩
 case measure=>rw[ua.left_eq,jN.left_eq];exact aT}
 {
 gi_wp2
 refine dD (sS rfl _ _ _) rfl ?_;exact⟨⟨_,rfl⟩,.inr ⟨_,Cm⟩⟩}})
def aY5{n:Nat}{mb:Option Nat}{w:World}:CallsIn Fence.wide n prog 209 #[.map mb] w λe w'=>e=.returned (.func (.func 231) #[] #[.pointer (some (Ad w.heap.size 0))])/\w'=w.alloc (.cells #[.map mb] 138):=by
 refine mG func209 rfl jR ?_ rfl;simp only[ntmps209,rB,Nat.reduceAdd,Nat.reduceSub]
 gi_wp2
 go_ret;exact⟨rfl,rfl⟩
def az2{H:Type}{n:Nat}(hn:1<=n){D0:DataW H}{R:Value->Option (DataW H×List MemPlace)}{w:World}(hBm:Bm<w.heap.size)(hm:w.cell? (Ad Bm 0)=some (.map (some b)))(bO:w.ownsMap prog 31 R b nn D0):SeqStopsK Fence.wide n prog 231 #[.pointer (some (Ad Bm 0))] (λx:Int=>#[fy x]) KeepsWalks (lu D0) (λ_=>True) (Maps.size D0) w:=λl J Jx W hW hJ _ hY h0=>by
 have sy:W.ownsMap prog 31 R b nn D0:=by have Ej:=bO.lt;obtain⟨es,clock,hb,Ft,hs,hD⟩:=bO;exact⟨es,clock,(hW.block b Ej).trans hb,Ft,hs,hD⟩
 refine(aD5 hn J Jx hY hJ ((hW.cell (p:=(Ad Bm 0)) hBm).trans hm) sy h0).mono ?_;rintro e W'⟨he,⟨ss,hs,hj⟩|⟨pre,hj⟩⟩;{exact⟨he,.inl ⟨ss,hs,hj⟩⟩};{exact⟨he,.inr ⟨pre,jR,hj⟩⟩}
end Q
namespace Q
open Go.Maps
def Hid.xW{p:Prop}(h:p):Hid p:=h
def uw{p:Prop}(h:Hid p):p:=h
def lg(W:World)(l:Nat)(o:Obj):W.grownBy (W.putObj l o) (some l):=⟨rfl,rfl,rfl,by simp,λk _ hk=>World.putObj_heap_other (λe=>hk (by rw[e]))⟩
def vf(W:World)(b:Nat)(v:Value):W.grownBy (W.setCell (Ad b 0) v) (some b):=⟨rfl,rfl,rfl,by simp,λk _ hk=>Kd _ _ _ k (λe=>hk (by rw[e]))⟩
def rW{size:Nat}(h:W.ownsRow base e size v k xs){o:Obj}(hj:W.heap[j]?=some o)(ho:o.isCells=false):v.ownBlock=none\/v.ownBlock≠some j:=by
  rcases h.2 with⟨rfl,_⟩|⟨g,cap,cur,rfl,_,hgb,_⟩;{exact .inl rfl};{
 refine .inr λe'=>?_;have:g=j:=by simpa[Value.ownBlock]using e'
 subst this;rw[hgb]at hj;cases hj;cases ho}
theorem zl{size:Nat}(h:W.ownsRow base e size v k xs)(hg:W.grownBy W' row)(hr:∀r,row=some r->∃o:Obj,W.heap[r]?=some o/\o.isCells=false):W'.ownsRow base e size v k xs:=by
  refine h.kept hg ?_;cases hv:v.ownBlock with
  |none=>exact .inl rfl
  | some j=>
    refine .inr λe'=>?_;obtain⟨o,ho,hc⟩:=hr j e'.symm;rcases rW h ho hc with e1|e1;{rw[hv]at e1;cases e1};{exact e1 hv}
def xH{size:Nat}(h:W.ownsRow base e size v k xs)(hg:W.grownBy W' v.ownBlock):KeepsOthers W W':=
  ⟨hg.size,λj o hj ho=>(hg.block j (Gq.1 hj).1 (λe1=>by rcases rW h hj ho with e2|e2;{rw[e2]at e1;cases e1};{exact e2 e1.symm})).trans hj⟩
structure Got(w0:World)(Bs:Nat)(pre:LI)(v:Value)(W:World):Prop where
  cell:W.cell? (Ad Bs 0)=some v
  fr:W.frozen? (Ad Bs 0)=false
  row:W.ownsRow (Bs+1) 31 1 v pre.length (pre.map fy)
  nil:v=.S none 0 0↔pre=[]
theorem tB(n:Nat)(hn:2<=n)(g:Nat)(lb:Array Value)(eg:∀args w,(callFunc g args).run prog w=.ok (.enter g args) w)(S Sp:LI->Prop)(N:Nat)(hN:N<=1048576)(w:World)(uW:SeqStopsK Fence.wide (n-1) prog g lb (λx:Int=>#[fy x]) KeepsWalks S Sp N w):CallsIn Fence.wide n prog 226 #[.S none 0 0,.func (.func g) #[] lb] w λe w'=>∃(v:Value)(ss:LI),e=.returned v/\S ss/\w'.ownsRow (w.heap.size+1) 31 1 v ss.length (ss.map fy)/\(v=.S none 0 0↔ss=[])/\Bw w w':=by
  have h1:1<=n:=ae;obtain⟨i0,hi,qc,iU,jU⟩:=gh (P:=prog) (e:=31) (z:=.U 0) (size:=1) (bytes:=8) bg;refine callsIn_of_wp_marks func226 rfl jR ?_ rfl;simp only[ntmps226,rB,Nat.reduceAdd,Nat.reduceSub]
  gi_wp2
  obtain⟨W0,dP⟩:=az (w.alloc (.cells #[.S none 0 0] 117));have z0:W0.heap.size=w.heap.size+1:=by rw[dP];simp
  have k0:W0.cell? (Ad w.heap.size 0)=some (.S none 0 0):=by rw[dP];simp
  have f0:W0.frozen? (Ad w.heap.size 0)=false:=by rw[dP];simp
  have XS:=ew dP;rw[<-dP];clear dP;refine wpIn_rangeFunc_ownF (F:=Fence.wide) rfl h1 (gf:=g) (lb:=lb) rfl jR eg uW (λh k=>h.trans k) (λW l o o' _ hl _ hw=>KeepsWalks.putObj _ hl hw) XS (λ_=>rfl)
    (λpre W=>(∃v,Got w w.heap.size pre v W)/\Bw w W)
    (λ_ _ _=>False)
    (OwnFrom.and (Own.from (λs A B row hs hg hr=>by obtain⟨v,hv⟩:=hs;exact⟨v,cell_kept hv.cell hg hr,(frozen_kept hv.cell hg hr).trans hv.fr,zl hv.row hg hr,hv.nil⟩) _) (ownFrom_below ao ae))
    (λ_ _ _ _ _ hs _ _=>hs)
    ⟨⟨_,k0,f0,⟨rfl,.inl ⟨rfl,rfl⟩⟩,ai⟩,XS⟩
    (λx=>{tmps:=#[.S none 0 0,.func (.func g) #[] lb,.pointer (some (Ad w.heap.size 0)),undef,.S none 0 0,fy x,.func (.func g) #[] lb,fy x,undef,undef,undef,undef,undef],defers:=[]}) ?assign ?body ?done ?stop
  case assign=>(
 intro l x W K hK
 gi_wp2_with(rw[Qa _ _ _ (λc h=>by cases h)];go_simp;try go_bits)
 exact hK)
  case body=>(
 rintro L pre x W⟨⟨v,hv⟩,ox⟩rK;have hc:=hv.cell;have hf:=hv.fr;have du:=hv.row;have aT:w.heap.size<W.heap.size:=nY W _ hc;have QS:=du.alloc (.cells #[fy x] 31)
 gi_wp2_with(first
   | (gi_at_builtin;refine wpListIn_append_own _ rfl _ _ 117 rfl (w.heap.size+1) 31 i0 (.int .u64 0) 1 8 underlying117 hi qc iU jU rfl aZ _ _ _ rfl QS ⟨W.heap.size,0,none⟩ 1 1 [fy x] rfl rfl (cell_one_new _ _ _) (by simp[Value.oneCell',fy]) iF ae aU ?_;intro v' w3 sy wC aj9
      have MJ:(W.alloc (.cells #[fy x] 31)).grownBy w3 v.ownBlock:=wC;have aZ9:some w.heap.size≠v.ownBlock:=λe=>aG (du.lt _ e.symm).1;have XM:(W.alloc (.cells #[fy x] 31)).cell? (Ad w.heap.size 0)=some v:=(tJ (a:=(Ad w.heap.size 0)) (Mp _ _ _ aT)).trans hc;have hfA:(W.alloc (.cells #[fy x] 31)).frozen? (Ad w.heap.size 0)=false:=(sj (a:=(Ad w.heap.size 0)) (Mp _ _ _ aT)).trans hf;have aL:w3.heap[w.heap.size]?=(W.alloc (.cells #[fy x] 31)).heap[w.heap.size]?:=MJ.block _ aU aZ9;have Ho:w3.cell? (Ad w.heap.size 0)=some v:=(tJ (a:=(Ad w.heap.size 0)) aL).trans XM;have Ee:w3.frozen? (Ad w.heap.size 0)=false:=(sj (a:=(Ad w.heap.size 0)) aL).trans hfA;obtain⟨g',yC,rfl⟩:∃g' yC,v'=.T g' (pre.length+1) yC:=by rcases sy.2 with⟨_,h0⟩|⟨g',yC,_,h',_⟩;{exact absurd h0 ae};{exact⟨g',yC,h'⟩}
      have HO3:=Hid.xW ((KeepsOthers.alloc W (.cells #[fy x] 31)).trans (xH QS MJ));have vD:=Hid.xW (((ox.alloc ox.size (.cells #[fy x] 31)).grown MJ (by have:=ox.size;simp;omega) (λk e=>aG (du.lt k e).1)));have A9:=Hid.xW sy;clear sy aj9 wC MJ XM hfA aL
      go_frame)
   |(rw[Qa _ _ _ (λc h=>by cases h)];go_simp;try go_bits))
 refine⟨(uw HO3).trans (KeepsOthers.setCell _ _ _),((uw HO3).trans (KeepsOthers.setCell _ _ _)).walks,⟨_,Db _ _ _ Ho,by rw[BM];exact Ee,?_,ai⟩,(uw vD).setCell (p:=(Ad w.heap.size 0)) ao _⟩;have hr:=(uw A9).kept (vf w3 w.heap.size (.T g' (pre.length+1) yC)) (.inr (λe=>aG ((uw A9).lt _ e).1));simpa using hr)
  case done=>(
 rintro D ys W hD hS⟨⟨v,hv⟩,ox⟩hK;have hc:=hv.cell
 gi_wp2
 refine⟨ai,.inl ⟨_,_,rfl,run_takeDeferred hK,?_⟩⟩;exact⟨_,results_tmp rfl _ _ _,v,ys,rfl,hS,zl hv.row (lg _ _ _) (λr e=>by cases e;exact⟨_,hK,rfl⟩),hv.nil,ox.grown (lg _ _ _) ox.size (λk e=>by cases e;omega)⟩)
  case stop=>(
 rintro D c pre W _ _ h _;exact h.elim)
end Q
end Go.Proofs.YtkakbcaiplggiaaGreatDoor
