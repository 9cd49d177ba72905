import Derived.Test.YtnhnbpkfpaondaaGreatDoorK0
import Derived.Test.YtnhnbpkfpaondaaGreatDoorVPy
import Derived.Deep.DeepCutAuto
import Derived.Lib.EndianBits
import Derived.Laws.Closers25b
import Derived.Laws.BytesString
import Derived.Maps.RangeWalk
import Derived.Maps.Ext
import Derived.Sort.AssemblyPlain
import Derived.Sort.Row
namespace Go.Proofs.YtnhnbpkfpaondaaGreatDoor
set_option maxHeartbeats 4000000
set_option linter.all false
set_option maxRecDepth 100000
open Go.ChangeShapes Go.WideShapes Go.ChangeAt Go.RowKit
variable {p q:OA}{c n b k a base bytes:Nat}{l t ns ids m s:LI}{w w':World}{B:Bool}{v N S z:Value}{g x y:Int}{f:Nat->Bool}{ps:List MemPlace}{D:DataW Unit}{vs xs news:List Value}{e:TypeId}{P:Program}{o:Oper}{ops:Array Oper}{rest:List Oper}{K:Act->World->Prop}{E:Prop}{row:Option Nat}{d:Array Int}{R:Ending->World->Prop}{x1 x2:Operand}{Lw:Array TypeId}
def wR(en:Le l n)(h:Rd w (.S p n c) l)(hl:n<=2097152)(eB:Hid (kP l=B)):Calls Tryz.prog 233 #[.S p n c] w (Rb (.bool B) w):=by
 have HR:=ag h;clear h;by_cases h1:1<=n;{
 by_cases h16:n<=16;{
 have h1':¬(n:Int)<1:=af;have cJ9:¬(16:Int)<(n:Int):=af;obtain⟨b,o,rfl,-,hc⟩:=HR.at (by rw[ae en];omega);go_enter Tryz.func233,Tryz.ntmps233;have cT:∀(i:Nat)(w':World),i<n->Bw w w'->w'.cell? (Ad b (o+i))=some (.int .u8 (l.getD i 0)):=λi w' hi bN=>(bN.cell (p:=(Ad b (o+i))) (nZ w _ (hc i (ae en▸hi)))).trans (hc i (ae en▸hi));have HC:=ag cT;clear hc cT;go_wp2
 go_loopw[17](λi wr=>∃k:Nat,k<=n/\i=.I k/\Hid (∀j,j<k->uk (l.getD j 0)=true)/\Bw w wr) (λi _=>n-(intOf i).toNat)
 exact⟨0,gr _,rfl,(λj hj=>af),cQ _ _⟩;{
 obtain⟨k,hk,rfl,iI,aM⟩:=hrel;by_cases bf:k<n;{
 have bL:=aU k n;have Dz:=ae HC k wr bf aM
 let⟨z,ez⟩:=aL (l.getD k 0)
 rw[ez]at Dz;have EZ:=ag ez;clear ez;have uV:uk z=true->Hid (∀j,j<k+1->uk (l.getD j 0)=true):=λhz j hj=>by by_cases e:j=k;{rw[e,ae EZ];exact hz};{exact iI j af}
 have xu:uk z=false->B=false:=λhz=>by
  rw[<-ae eB,kP];have:l.all uk=false:=by rw[QN];refine⟨z,?_,by simp[hz]⟩;rw[<-ae EZ];have hk':k<l.length:=ae en▸bf;rw[show l.getD k 0=l[k] by simp[List.getD,hk']];exact zF hk'
  rw[this];simp
 rcases Qf z with⟨g1,g2,gb⟩|⟨g2,gb⟩|⟨g3,g4,gb⟩|⟨rfl,gb⟩|⟨g4,g1,g6,gb⟩|⟨rfl,gb⟩|⟨g3,g5,gb⟩;{have HN:=uV gb;clear uV xu;have g3:(48:Int)<=z:=af;have g4:¬z<=57:=af;go_wp2;go_roundw;exact⟨k+1,af,by go_num,HN,aM⟩;exact cg};{
 have eF:=xu gb;subst eF;clear uV xu;have g1:(97:Int)<=z:=af;have g2':¬z<=122:=af;have g3:(48:Int)<=z:=af;have g4:¬z<=57:=af;have g5:(z != 45)=true:=by simp;omega
 have g6:(z != 95)=true:=by simp;omega
 go_wp2;go_ret;exact⟨rfl,aM⟩};{have HN:=uV gb;clear uV xu;have g1:¬(97:Int)<=z:=af;go_wp2;go_roundw;exact⟨k+1,af,by go_num,HN,aM⟩;exact cg};{have HN:=uV gb;clear uV xu;go_wp2;go_roundw;exact⟨k+1,af,by go_num,HN,aM⟩;exact cg};{
 have eF:=xu gb;subst eF;clear uV xu;have g1':¬(97:Int)<=z:=af;have g3:(48:Int)<=z:=af;have g4':¬z<=57:=af;have g5:(z != 45)=true:=by simp;omega
 have g6':(z != 95)=true:=by simp[g6]
 go_wp2;go_ret;exact⟨rfl,aM⟩};{have HN:=uV gb;clear uV xu;go_wp2;go_roundw;exact⟨k+1,af,by go_num,HN,aM⟩;exact cg};{
 have eF:=xu gb;subst eF;clear uV xu;have g1:¬(97:Int)<=z:=af;have g3':¬(48:Int)<=z:=af;have g5':(z != 45)=true:=by simp[g5]
 have g6:(z != 95)=true:=by simp;omega
 go_wp2;go_ret;exact⟨rfl,aM⟩}};{
 have bL:=dB k n;have e:k=n:=af;have eT:B=true:=by
  rw[<-ae eB,kP,ae en];have:l.all uk=true:=by rw[jw];intro x hx;obtain⟨i,hi,rfl⟩:=Dm hx;have:=ae iI i (by rw[ae en]at hi;omega);rwa [show l.getD i 0=l[i] by simp[List.getD,hi]]at this
  simp[h1,h16,this]
 subst eT;go_wp2;go_ret;exact⟨rfl,aM⟩}}};{
 have h1':¬(n:Int)<1:=af;have cJ9:=mW 16 n;have eF:B=false:=by rw[<-ae eB,kP,ae en];simp[h16]
 subst eF;go_enter Tryz.func233,Tryz.ntmps233;go_wp2;go_ret;exact⟨rfl,cQ _ _⟩}};{
 have h1':(n:Int)<1:=af;have eF:B=false:=by rw[<-ae eB,kP,ae en];simp[h1]
 subst eF;go_enter Tryz.func233,Tryz.ntmps233;go_wp2;go_ret;exact⟨rfl,cQ _ _⟩}
def Yc{o:Nat}(en:t.length=n){g:Nat}(hc:∀i,i<n->w.cell? (Ad b (o+i))=some (.int .u8 (t.getD i 0)))(hg:w.cell? (Ad g 0)=some (.int .u8 47))(hB:aN t)(hn:n<=c)(cE4:c<=maxLen)(hl:n<=2097152)(hm:∃m,w.cell? (Ad 0 0)=some (.I m)){K:Nat}(eK:(dU 47 t).length=K):Calls Tryz.prog 232 #[.S (some (Ad b o)) n c,.T g 1 1] w λe w'=>e=.returned (.T w.heap.size K K)/\(∀j nm,(dU 47 t)[j]?=some nm->∃p' c',w'.cell? (Ad w.heap.size j)=some (.S p' nm.length c')/\Rd w' (.S p' nm.length c') nm)/\Bw w w':=by
 obtain⟨m,hm⟩:=hm;have bN0:∀(g o i:Nat),((Ad g o):Addr).add i=(Ad g (o+i)):=λg o i=>by
  unfold Addr.add;split;{next h=>subst h;rfl}
  {rfl}
 let⟨e1,e2⟩:=FM hB
 refine(Any.bytes_Split Tryz.layS7 (Ad b o) (Ad g 0) n c 1 1 t [47] m w en rfl hB (by intro y hy;simp at hy;subst hy;decide) (λi hi=>by rw[bN0];exact hc i hi) (λi hi=>by obtain rfl:i=0:=af;exact hg) hn af bj (by unfold maxLen at cE4;omega) bj hm).mono ?_
 rintro e w'⟨rfl,q,rfl⟩;have Rv:Bw w ((w.alloc (.cells (Lib.splitV (Lib.bytesOf [47]) 0 (Lib.count (Lib.bytesOf t) (Lib.bytesOf [47])) (Ad b o) c (Lib.bytesOf t)).toArray (Tryz.layS7_ren.t 22))).drewN q):=⟨rfl,rfl,rfl,al,λk hk=>Yv _ _ k hk⟩;rw[e2,eK];refine⟨rfl,λj nm hj=>?_,Rv⟩;have Al:j<(Lib.splitV (Lib.bytesOf [47]) 0 (Lib.count (Lib.bytesOf t) (Lib.bytesOf [47])) (Ad b o) c (Lib.bytesOf t)).length:=by rw[Lib.splitV_length,e1,fN];exact(aV.1 hj).1
 let⟨a',off,len,cp,ev,h1,h2,h3,h4⟩:=Lib.splitV_spec (Lib.bytesOf [47]) 0 bj (gr _) _ (Ad b o) c (Lib.bytesOf t) (by rw[Lib.bytesOf_length,en];exact hn) j _ (aY Al)
 rw[e1,nG,hj]at h3;rw[Lib.bytesOf_length]at h2;have enm:nm=(t.drop off).take len:=by refine DR (aP9 hB nm (aT hj)) (λz hz=>hB z (GS (GR hz))) ?_;rw[Lib.bytesOf_take,Lib.bytesOf_drop];simpa using h3
 have bn0:nm.length=len:=by rw[enm,pT,r9];omega
 refine⟨some a',cp,?_,?_⟩;{rw[World.cell?_drewN,World.cell?_alloc_new,xU,aY Al,ev,bn0]};{
 refine⟨some a',cp,rfl,?_⟩;by_cases h0:len=0;{
 left
 exact r8.1 (bn0▸h0)};{
 right
 have ea:=h4 0 af;rw[bN0,uP]at ea;refine⟨b,o+off,?_,λi hi=>?_⟩;{have:a'.add 0=a':=rfl;rw[<-this,ea]};{
 rw[bn0]at hi;have Fc:((w.alloc (.cells (Lib.splitV (Lib.bytesOf [47]) 0 (Lib.count (Lib.bytesOf t) (Lib.bytesOf [47])) (Ad b o) c (Lib.bytesOf t)).toArray (Tryz.layS7_ren.t 22))).drewN q).cell? (Ad b (o+(off+i)))=some (.int .u8 (t.getD (off+i) 0)):=
  (Rv.cell (p:=(Ad b (o+(off+i)))) (nZ w _ (hc (off+i) af))).trans (hc (off+i) af)
 rw[mL,Fc,enm];have:((t.drop off).take len).getD i 0=t.getD (off+i) 0:=by simp[List.getD,GP,hi,MG]
 rw[this]}}}
open Go.Proofs.Tryz
theorem aP8:∀n∈dU (47:Int) t,n.length<=t.length:=by
 induction t with
 |nil=>intro n hn;simp[dU]at hn;subst hn;simp
 |cons x l ih=>
  intro n hn;rw[dU]at hn;split at hn;{rcases jv.1 hn with rfl|hn;{simp};{have:=ih n hn;simp;omega}};{
 cases hc:dU 47 l with
 |nil=>
  rw[hc]at hn;simp at hn;subst hn;simp
 |cons m ms=>
  rw[hc]at hn ih;rcases jv.1 hn with rfl|hn;{have:=ih m al;simp;omega};{have:=ih n (by simp[hn]);simp;omega}}
theorem UR(en:Le l n)(h:Rd w (.S p n c) l)(hb:Hid (aN l))(hl:Mg n)(hcn:n<=c)(DA:c<=maxLen)(hm:∃m,w.cell? (Ad 0 0)=some (.I m))(eB:Hid (vp l=B)):Calls prog 197 #[.S p n c] w λe w'=>e=.returned (.bool B)/\Below w.heap.size w w':=by
 have HR:=ag h;have HM:=ag hm;by_cases MX:n=0;{
 subst MX;have eF:B=false:=by
  rw[<-ae eB,r8.1 (ae en)]
  rfl
 subst eF
 go_in
 go_wp2;go_ret;exact⟨rfl,cQ _ _⟩};have xw:((n:Int)==0)=false:=by simp[MX]
 obtain⟨b,o,rfl,-,hc⟩:=HR.at (by rw[ae en];omega);obtain⟨x,t,el⟩:∃x t,l=x::t:=by
  cases l with
  |nil=>have:=ae en;simp at this;omega
  |cons x t=>exact⟨x,t,rfl⟩
 have hx:w.cell? (Ad b o)=some (.int .u8 x):=by have:=hc 0 (by rw[ae en];omega);rw[el]at this;exact this
 by_cases qF:x=47;{
 subst qF;have ent:t.length=n-1:=by have:=ae en;rw[el]at this;simp at this;omega
 have hct:∀i,i<n-1->w.cell? (Ad b (o+1+i))=some (.int .u8 (t.getD i 0)):=λi hi=>by have:=hc (1+i) (by rw[ae en];omega);rw[el,<-mL]at this;rw[this];simp[List.getD,al8 1 i]
 have hbt:aN t:=λz hz=>ae hb z (by rw[el];simp[hz])
 let⟨K,eK⟩:=aL ((dU 47 t).length)
 have db:B=(decide (K<=8)&&(dU 47 t).all kP):=by rw[<-ae eB,el,vp,st,eK];simp
 have Xt:K<=n+1:=by have h1:=(FM hbt).2;have h2:=Lib.count_le (Lib.bytesOf t) (Lib.bytesOf [47]);rw[Lib.bytesOf_length,ent]at h2;omega
 let⟨N,eN⟩:=aL (n-1)
 let⟨C,eC⟩:=aL (c-1)
 have hsp:∀(o':Nat)(w':World),(N=0\/o'=o+1)->Below w.heap.size w w'->w'.cell? (Ad w.heap.size 0)=some (.int .u8 47)->Cp 232 #[.S (some (Ad b o')) N C,.T w.heap.size 1 1] w' λe w''=>e=.returned (.T w'.heap.size K K)/\(∀j nm,(dU 47 t)[j]?=some nm->∃p' c',w''.cell? (Ad w'.heap.size j)=some (.S p' nm.length c')/\Rd w'' (.S p' nm.length c') nm)/\Below w'.heap.size w' w'':=by
  intro o' w' Xn bN hg;refine Yc (by rw[ent,eN]) (λi hi=>?_) hg hbt af af af ?_ eK;{rcases Xn with h0|rfl;{omega};{exact(bN.cell (p:=(Ad b (o+1+i))) (nZ w _ (hct i af))).trans (hct i af)}};{
 let⟨m,hm⟩:=ae HM
 exact⟨m,(bN.cell (p:=(Ad 0 0)) (nZ w _ hm)).trans hm⟩}
 have HSP:=ag hsp;have qV:=ag db;have EK:=ag eK;have g1:=dC 1 n;have g2:=dC 1 c;have g3:=iC n c;have HN:=ag (ai eN eC);clear hsp db hct hbt ent eK hc eN eC;have bA:Below w.heap.size w (w.alloc (.cells #[.int .u8 47] 5)):=aA.alloc ay _;have tj:∀o',(N=0\/o'=o+1)->Cp 232 #[.S (some (Ad b o')) N C,.T w.heap.size 1 1] (w.alloc (.cells #[.int .u8 47] 5)) λe w''=>e=.returned (.T (w.heap.size+1) K K)/\(∀j nm,(dU 47 t)[j]?=some nm->∃p' c',w''.cell? (Ad (w.heap.size+1) j)=some (.S p' nm.length c')/\Rd w'' (.S p' nm.length c') nm)/\Below w.heap.size w w'':=by intro o' Xn;have e:(w.alloc (.cells #[.int .u8 47] 5)).heap.size=w.heap.size+1:=al;have:=ae HSP o' _ Xn bA al;rw[e]at this;refine this.mono ?_;rintro e1 w1⟨rfl,h1,h2⟩;refine⟨rfl,h1,?_⟩;rw[<-e]at h2;exact aj bA h2
 have HF:=ag tj;clear tj bA;have hlen:∀nm∈dU (47:Int) t,nm.length<=2097152:=λnm Aj=>by have h1:=aP8 nm Aj;have h2:=ae en;rw[el]at h2;simp at h2;omega
 have HL:=ag hlen;clear hlen el;by_cases jt:c=1;{
 subst jt;obtain rfl:n=1:=af
 go_in
 go_wp2_with fail;have Vo:(0:Nat)=N:=aI HN.1;have hC0:(0:Nat)=C:=aI HN.2;have hsp:=ae HF o (.inl Vo.symm);rw[<-Vo,<-hC0]at hsp;clear Vo hC0;refine hsp.mono ?_;rintro e w2⟨rfl,hpc,aK⟩;have HP:=ag hpc;by_cases hk8:K<=8;{
 have bi3:¬(8:Int)<(K:Int):=af;go_wp2
 go_loopw[24](λi wr=>∃k:Nat,k<=K/\i=.I k/\Hid (∀j nm,j<k->(dU 47 t)[j]?=some nm->kP nm=true)/\Below w2.heap.size w2 wr) (λi _=>K-(intOf i).toNat)
 exact⟨0,gr _,rfl,(λj nm hj=>af),cQ _ _⟩;{
 obtain⟨k,hk,rfl,iI,aM⟩:=hrel;have BB:=aj aK aM;by_cases bf:k<K;{
 have bL:=aU k K;obtain⟨nm,Aj⟩:∃nm,(dU 47 t)[k]?=some nm:=⟨_,aY (ae EK▸bf)⟩
 let⟨p',c',Ot,Rm⟩:=ae HP k nm Aj
 have bj9:=ah Ot aM;have ap5:=Rm.below aM;have hnl:=ae HL nm (aT Aj)
 let⟨nl,lK⟩:=aL nm.length
 rw[lK]at bj9 ap5 hnl;have ENL:=ag lK;have HNM:=ag Aj
 let⟨R,eR⟩:=aL (kP nm)
 have ER:=ag eR;go_wp2_with fail;refine(wR ENL ap5 hnl ER).mono ?_;rintro e w3⟨rfl,br⟩;have b3:=aj aM br;cases R with
 |true=>
  have tQ:Hid (∀j nm,j<k+1->(dU 47 t)[j]?=some nm->kP nm=true):=λj nm' hj hj2=>by by_cases e:j=k;{subst e;have e2:=HNM.symm.trans hj2;simp at e2;rw[<-e2];exact ae ER};{exact iI j nm' af hj2}
  go_wp2;go_roundw;exact⟨k+1,af,by go_num,tQ,b3⟩;exact cg
 | false=>
  have eF:B=false:=by
   rw[ae qV];have:(dU 47 t).all kP=false:=by rw[QN];exact⟨nm,aT (ae HNM),by simp[ae ER]⟩
   rw[this];simp
  subst eF;go_wp2;go_ret;exact⟨rfl,aj BB br⟩};{
 have bL:=dB k K;have eT:B=true:=by
  rw[ae qV];have:(dU 47 t).all kP=true:=by rw[jw];intro nm Aj;obtain⟨i,hi,rfl⟩:=Dm Aj;exact ae iI i _ (by rw[ae EK]at hi;omega) (aY hi)
  simp[this,hk8]
 subst eT;go_wp2;go_ret;exact⟨rfl,BB⟩}}};{
 have bi3:=mW 8 K;have eF:B=false:=by rw[ae qV];simp[hk8]
 subst eF;go_wp2;go_ret;exact⟨rfl,aK⟩}};{
 have cE6:¬(c:Int)=1:=af
 go_in
 go_wp2_with fail;have hsp:=ae HF (o+1) (.inr rfl);rw[<-HN.1,<-HN.2]at hsp;refine hsp.mono ?_;rintro e w2⟨rfl,hpc,aK⟩;have HP:=ag hpc;by_cases hk8:K<=8;{
 have bi3:¬(8:Int)<(K:Int):=af;go_wp2
 go_loopw[24](λi wr=>∃k:Nat,k<=K/\i=.I k/\Hid (∀j nm,j<k->(dU 47 t)[j]?=some nm->kP nm=true)/\Below w2.heap.size w2 wr) (λi _=>K-(intOf i).toNat)
 exact⟨0,gr _,rfl,(λj nm hj=>af),cQ _ _⟩;{
 obtain⟨k,hk,rfl,iI,aM⟩:=hrel;have BB:=aj aK aM;by_cases bf:k<K;{
 have bL:=aU k K;obtain⟨nm,Aj⟩:∃nm,(dU 47 t)[k]?=some nm:=⟨_,aY (ae EK▸bf)⟩
 let⟨p',c',Ot,Rm⟩:=ae HP k nm Aj
 have bj9:=ah Ot aM;have ap5:=Rm.below aM;have hnl:=ae HL nm (aT Aj)
 let⟨nl,lK⟩:=aL nm.length
 rw[lK]at bj9 ap5 hnl;have ENL:=ag lK;have HNM:=ag Aj
 let⟨R,eR⟩:=aL (kP nm)
 have ER:=ag eR;go_wp2_with fail;refine(wR ENL ap5 hnl ER).mono ?_;rintro e w3⟨rfl,br⟩;have b3:=aj aM br;cases R with
 |true=>
  have tQ:Hid (∀j nm,j<k+1->(dU 47 t)[j]?=some nm->kP nm=true):=λj nm' hj hj2=>by by_cases e:j=k;{subst e;have e2:=HNM.symm.trans hj2;simp at e2;rw[<-e2];exact ae ER};{exact iI j nm' af hj2}
  go_wp2;go_roundw;exact⟨k+1,af,by go_num,tQ,b3⟩;exact cg
 | false=>
  have eF:B=false:=by
   rw[ae qV];have:(dU 47 t).all kP=false:=by rw[QN];exact⟨nm,aT (ae HNM),by simp[ae ER]⟩
   rw[this];simp
  subst eF;go_wp2;go_ret;exact⟨rfl,aj BB br⟩};{
 have bL:=dB k K;have eT:B=true:=by
  rw[ae qV];have:(dU 47 t).all kP=true:=by rw[jw];intro nm Aj;obtain⟨i,hi,rfl⟩:=Dm Aj;exact ae iI i _ (by rw[ae EK]at hi;omega) (aY hi)
  simp[this,hk8]
 subst eT;go_wp2;go_ret;exact⟨rfl,BB⟩}}};{
 have bi3:=mW 8 K;have eF:B=false:=by rw[ae qV];simp[hk8]
 subst eF;go_wp2;go_ret;exact⟨rfl,aK⟩}}};{
 have hx1:(x==47)=false:=by simp[qF]
 have hx2:(x != 47)=true:=by simp[qF]
 have eF:B=false:=by rw[<-ae eB,el,vp];exact Po qF
 subst eF
 go_in
 go_wp2;go_ret;exact⟨rfl,cQ _ _⟩}
def FN(en:Le l n)(h:Rd w (.S p n c) l)(hb:Hid (aN l))(hl:Mg n)(eB:Hid (vp l=B)):Calls prog 131 #[.S p n c] w λe w'=>e=.returned (.bool B)/\Below w.heap.size w w':=by
 go_in
 go_wp2_with fail;refine(Q7 en h hb hl eB).mono ?_;rintro e w1⟨⟨v,rfl⟩,aG⟩;go_wp2;go_ret;exact⟨rfl,aG⟩
abbrev Ev:=Int×LI
abbrev aQ:=Int×Int×List Ev
structure aD where
 path:LI
 value:LI
 owner:Int
 mode:Int
 holders:LI
 aE:Int
 gen:Int
 watchers:LI
def oK(w:World)(v:Value)(ns:LI):Prop:=
 ∃(p:OA)(c:Nat),v=.S p ns.length c/\(ns=[]\/∃b o,p=some (Ad b o)/\∀i,i<ns.length->w.cell? (Ad b (o+i))=some (.U (ns.getD i 0)))
def DS(w:World)(v:Value)(es:List Ev):Prop:=
 ∃(p:OA)(c:Nat),v=.S p es.length c/\(es=[]\/∃b o,p=some (Ad b o)/\∀i e,es[i]?=some e->w.cell? (Ad b (o+i*2))=some (.I e.1)/\∃u,w.cell? (Ad b (o+i*2+1))=some u/\Rd w u e.2)
def vk(w:World)(v:Value)(ss:List aQ):Prop:=
 ∃(p:OA)(c:Nat),v=.S p ss.length c/\(ss=[]\/∃b o,p=some (Ad b o)/\∀i s,ss[i]?=some s->w.cell? (Ad b (o+i*3))=some (.U s.1)/\w.cell? (Ad b (o+i*3+1))=some (.I s.2.1)/\∃u,w.cell? (Ad b (o+i*3+2))=some u/\DS w u s.2.2)
def oK.below(h:oK w v ns)(hb:Bw w w'):oK w' v ns:=by
 obtain⟨p,c,rfl,h⟩:=h;refine⟨p,c,rfl,?_⟩;rcases h with h|⟨b,o,rfl,h⟩;{exact .inl h};{exact .inr ⟨b,o,rfl,λi hi=>ah (h i hi) hb⟩}
def DS.below{es:List Ev}(h:DS w v es)(hb:Bw w w'):DS w' v es:=by
 obtain⟨p,c,rfl,h⟩:=h;refine⟨p,c,rfl,?_⟩;rcases h with h|⟨b,o,rfl,h⟩;{exact .inl h};{
 refine .inr ⟨b,o,rfl,λi e he=>?_⟩
 let⟨h1,u,h2,h3⟩:=h i e he
 exact⟨ah h1 hb,u,ah h2 hb,h3.below hb⟩}
def vk.below{ss:List aQ}(h:vk w v ss)(hb:Bw w w'):vk w' v ss:=by
 obtain⟨p,c,rfl,h⟩:=h;refine⟨p,c,rfl,?_⟩;rcases h with h|⟨b,o,rfl,h⟩;{exact .inl h};{
 refine .inr ⟨b,o,rfl,λi e he=>?_⟩
 let⟨h1,h2,u,h3,h4⟩:=h i e he
 exact⟨ah h1 hb,ah h2 hb,u,ah h3 hb,h4.below hb⟩}
abbrev dZ(e g x n:Int)(S N:Value):Value:=.agg #[.U e,.U g,.U x,.I n,S,N]
variable {t:Int}
def qc{e:Int}{ss:List aQ}(en:Le ss n)(h:vk w (.S p n c) ss)(hn:Mg n){id:Int}(eB:Hid ((ss.any λs=>s.1==id)=B)):Calls prog 134 #[dZ e g x t (.S p n c) N,.U id] w (Rb (.bool B) w):=by
 have HR:=ag λ(w':World)(hb:Bw w w')=>h.below hb;clear h
 go_in
 go_wp2_with fail
 let⟨W,hW⟩:=aB (w.alloc (.cells #[.U e,.U g,.U x,.I t,.S p n c,N] 41))
 have bW:=dX hW;have Ou:W.cell? (Ad w.heap.size 4)=some (.S p n c):=by rw[hW];simp
 rw[<-hW];clear hW;have hS:=ae HR _ bW;have HS:=ag hS;have BW:=ag bW;clear hS bW HR
 go_loopw[5](λiv wr=>∃k:Nat,k<=n/\iv=.I k/\Hid (((ss.take k).any λs=>s.1==id)=false)/\wr=W) (λiv _=>n-(intOf iv).toNat)
 exact⟨0,gr _,rfl,(by show _=_;simp),rfl⟩;{
 obtain⟨k,hk,rfl,me,rfl⟩:=hrel;by_cases bf:k<n;{
 have bL:=aU k n;have dT:k<ss.length:=by rw[ae en];exact bf
 obtain⟨y,hy⟩:∃y,ss[k]?=some y:=⟨_,aY dT⟩
 let⟨p',c',ev,hd⟩:=ae HS
 simp only[pW]at ev;obtain⟨rfl,-,-⟩:=ev;obtain⟨b,o,rfl,cT⟩:∃b o,p=some (Ad b o)/\∀i s,ss[i]?=some s->wr.cell? (Ad b (o+i*3))=some (.U s.1):=by rcases hd with h0|⟨b,o,h1,h2⟩;{rw[h0]at dT;simp at dT};{exact⟨b,o,h1,λi s hi=>(h2 i s hi).1⟩}
 have Dz:=cT k y hy;have HY:=ag hy;clear cT hd hy dT;by_cases hid:y.1=id;{
 have eT:B=true:=by rw[<-ae eB,Kt];exact⟨y,aT (ae HY),by simp[hid]⟩
 subst eT;have bK5:(y.1==id)=true:=by simp[hid]
 go_wp2;go_ret;exact⟨rfl,BW⟩};{
 have bK5:(y.1==id)=false:=by simp[hid]
 have ap8:Hid (((ss.take (k+1)).any λs=>s.1==id)=false):=by show _=_;rw[od,ae HY,List.any_append,ae me];simp[bK5]
 go_wp2;go_roundw;exact⟨k+1,af,by go_num,ap8,by first|rfl|trivial⟩;exact cg}};{
 have bL:=dB k n;have eF:B=false:=by rw[<-ae eB];have:=ae me;rwa [lD (by rw[ae en];omega)]at this
 subst eF;go_wp2;go_ret;exact⟨rfl,BW⟩}}
def live(ss:List aQ)(id:Int):Bool:=ss.any λs=>s.1==id
def Jo(ss:List aQ)(ids:LI)(i:Nat):Bool:=live ss (ids.getD i 0)&&(i==0||decide (ids.getD (i-1) 0<ids.getD i 0))
def iK(ss:List aQ)(ids:LI):Bool:=(List.range ids.length).all (Jo ss ids)
def dz(h:(List.range k).all f=true)(hk:f k=true):(List.range (k+1)).all f=true:=by
 rw[al5,List.all_append,h];simp[hk]
def ft(hk:k<n)(h:f k=false):(List.range n).all f=false:=by
 rw[QN];exact⟨k,Cc.2 hk,by simp[h]⟩
abbrev jD(w:World)(b:Nat)(e g x t:Int)(S N:Value):Prop:=w.cell? (Ad b 0)=some (.U e)/\w.cell? (Ad b 1)=some (.U g)/\w.cell? (Ad b 2)=some (.U x)/\w.cell? (Ad b 3)=some (.I t)/\w.cell? (Ad b 4)=some S/\w.cell? (Ad b 5)=some N
def jD.below{e:Int}(h:jD w b e g x t S N)(hb:Bw w w'):jD w' b e g x t S N:=
 ⟨ah h.1 hb,ah h.2.1 hb,ah h.2.2.1 hb,ah h.2.2.2.1 hb,ah h.2.2.2.2.1 hb,ah h.2.2.2.2.2 hb⟩
theorem qP{e:Int}{d m:Nat}{ss:List aQ}(en:Le ss n)(em:Le ids m)(h:vk w (.S p n c) ss)(hi:oK w (.S q m d) ids)(hn:Mg n)(hm:Mg m)(eB:Hid (iK ss ids=B)):Calls prog 135 #[dZ e g x t (.S p n c) N,.S q m d] w (Rb (.bool B) w):=by
 have HR:=ag λ(w':World)(hb:Bw w w')=>ai (h.below hb) (hi.below hb)
 go_in
 go_wp2_with fail
 let⟨W,hW⟩:=aB (w.alloc (.cells #[.U e,.U g,.U x,.I t,.S p n c,N] 41))
 have bW:=dX hW;have yF:jD W w.heap.size e g x t (.S p n c) N:=by rw[hW];simp[jD]
 rw[<-hW];have BW:=ag bW;have HC6:=ag yF
 go_loopw[5](λiv wr=>∃k:Nat,k<=m/\iv=.I k/\Hid ((List.range k).all (Jo ss ids)=true)/\Bw W wr) (λiv _=>m-(intOf iv).toNat)
 exact⟨0,gr _,rfl,bD,cQ _ _⟩;{
 obtain⟨k,hk,rfl,iI,aM⟩:=hrel;have BB:=aj BW aM;by_cases bf:k<m;{
 have bL:=aU k m;have dT:k<ids.length:=ae em▸bf
 let⟨hS,hU⟩:=ae HR _ BB
 obtain⟨b,o,rfl,cT⟩:∃b o,q=some (Ad b o)/\∀i,i<m->wr.cell? (Ad b (o+i))=some (.U (ids.getD i 0)):=by obtain⟨p',c',ev,hd⟩:=hU;obtain⟨rfl,-,-⟩:=ir ev;rcases hd with h0|⟨b,o,h1,h2⟩;{rw[h0]at dT;simp at dT};{exact⟨b,o,h1,λi hi=>h2 i (ae em▸hi)⟩}
 have i6:=HC6.below aM;have Dz:=cT k bf
 let⟨y,ey⟩:=aL (ids.getD k 0)
 rw[ey]at Dz;have XQ:=ag hS
 let⟨L,eL⟩:=aL (live ss y)
 have EL:Hid ((ss.any λs=>s.1==y)=L):=eL;have iM:Jo ss ids k=(L&&(k==0||decide (ids.getD (k-1) 0<y))):=by rw[Jo,ey,eL]
 have hF:Jo ss ids k=false->B=false:=λh=>by rw[<-ae eB,iK,ae em];exact ft bf h
 cases L with
 |false=>
  have eF:=hF (by rw[iM];rfl);subst eF;have K0:=ag (ai i6 Dz);go_wp2_with fail;refine du (λw'=>jD w' w.heap.size e g x t (.S p n c) N/\w'.cell? (Ad b (o+k))=some (.U y)) (by exact K0) λhS=>?_;refine lG 0 1 2 3 hS ?_;refine tn 4 hS ?_;refine ry [5] ?_;refine cn (λKK hK=>?_) ?_;{refine vU (qc en (XQ.below aA.drew) hn EL) ?_;rintro r w2⟨rfl,aK⟩;refine⟨_,rfl,?_⟩;have bN:Bw wr w2:=aj (cQ wr.heap.size wr).drew aK;refine fh hK ⟨K0.1.below bN,ah K0.2 bN⟩ λhS=>?_;refine jR 6 7 hS ?_;refine oQ 8 9 10 11 hS ?_;refine oQ 12 13 14 15 hS ?_;refine oQ 16 17 18 19 hS ?_;refine sn 20 hS ?_;refine sn 21 hS ?_;refine tn 22 hS ?_;refine cY ?_;have b2:=aj BB bN;go_wp2;go_ret;exact⟨rfl,b2⟩};exact eh
 |true=>
  by_cases Tn:k=0;{have tQ:Hid ((List.range (k+1)).all (Jo ss ids)=true):=dz (ae iI) (by rw[iM,Tn];rfl);have HK0:=ag Tn;have hp:¬0<k:=af;have hp':¬(0:Int)<(k:Int):=af;have K0:=ag (ai i6 Dz);clear iM hF eL cT ey Tn i6 Dz;go_wp2_with fail;refine du (λw'=>jD w' w.heap.size e g x t (.S p n c) N/\w'.cell? (Ad b (o+k))=some (.U y)) (by exact K0) λhS=>?_;refine lG 0 1 2 3 hS ?_;refine tn 4 hS ?_;refine cX 5 λKK hK=>?_;refine vU (qc en (XQ.below aA.drew) hn EL) ?_;rintro r w2⟨rfl,aK⟩;refine⟨_,rfl,?_⟩;have bN:Bw wr w2:=aj (cQ wr.heap.size wr).drew aK;refine fh hK ⟨K0.1.below bN,ah K0.2 bN⟩ λhS=>?_;clear hK KK;refine lG 6 7 8 9 hS ?_;refine tn 10 hS ?_;refine oQ 11 12 13 14 hS ?_;refine oQ 15 16 17 18 hS ?_;refine sn 19 hS ?_;refine sn 20 hS ?_;refine jR 21 22 hS ?_;refine cY ?_;have b2:=aj aM bN;go_wp2;go_roundw;exact⟨k+1,af,by go_num,tQ,b2⟩;exact cg};{
 obtain⟨j,ej⟩:∃j:Nat,(k:Int)-1=(j:Int):=⟨k-1,af⟩;have Y8:k-1=j:=af;have hcz:=cT j af
 let⟨z,ez⟩:=aL (ids.getD j 0)
 rw[ez]at hcz;rw[Y8,ez]at iM;have hp:0<k:=af;have hp':=mW 0 k;have hjm:=aU j m;have hj0:=dC 0 j;have wj:=e8 j;by_cases hzy:z<y;{
 have hle:¬y<=z:=af;have bi1:decide (y<=z)=false:=by simp;omega
 have tQ:Hid ((List.range (k+1)).all (Jo ss ids)=true):=dz (ae iI) (by rw[iM];simp[hzy]);have K0:=ag (ai i6 (ai Dz hcz));go_wp2_with fail;refine du (λw'=>jD w' w.heap.size e g x t (.S p n c) N/\w'.cell? (Ad b (o+k))=some (.U y)/\w'.cell? (Ad b (o+j))=some (.U z)) (by exact K0) λhS=>?_;refine lG 0 1 2 3 hS ?_;refine tn 4 hS ?_;refine cX 5 λKK hK=>?_;refine vU (qc en (XQ.below aA.drew) hn EL) ?_;rintro r w2⟨rfl,aK⟩;refine⟨_,rfl,?_⟩;have bN:Bw wr w2:=aj (cQ wr.heap.size wr).drew aK;refine fh hK ⟨K0.1.below bN,ah K0.2.1 bN,ah K0.2.2 bN⟩ λhS=>?_;refine mj 6 7 8 9 10 11 12 13 hS ?_;refine mj 14 15 16 17 18 19 20 21 hS ?_;refine tn 22 hS ?_;refine cY ?_;have b2:=aj aM bN;go_wp2;go_roundw;exact⟨k+1,af,by go_num,tQ,b2⟩;exact cg};{
 have hle:y<=z:=af;have bi1:decide (y<=z)=true:=by simp;omega
 have eF:=hF (by rw[iM];simp[hzy,Tn]);subst eF;have K0:=ag (ai i6 (ai Dz hcz));go_wp2_with fail;refine du (λw'=>jD w' w.heap.size e g x t (.S p n c) N/\w'.cell? (Ad b (o+k))=some (.U y)/\w'.cell? (Ad b (o+j))=some (.U z)) (by exact K0) λhS=>?_;refine lG 0 1 2 3 hS ?_;refine tn 4 hS ?_;refine cX 5 λKK hK=>?_;refine vU (qc en (XQ.below aA.drew) hn EL) ?_;rintro r w2⟨rfl,aK⟩;refine⟨_,rfl,?_⟩;have bN:Bw wr w2:=aj (cQ wr.heap.size wr).drew aK;refine fh hK ⟨K0.1.below bN,ah K0.2.1 bN,ah K0.2.2 bN⟩ λhS=>?_;refine mj 6 7 8 9 10 11 12 13 hS ?_;refine mj 14 15 16 17 18 19 20 21 hS ?_;refine tn 22 hS ?_;refine cY ?_;have b2:=aj BB bN;go_wp2;go_ret;exact⟨rfl,b2⟩}}};{
 have bL:=dB k m;have eT:B=true:=by
  rw[<-ae eB,iK,ae em];have:k=m:=by omega
  rw[<-this];exact iI
 subst eT;go_wp2;go_ret;exact⟨rfl,BB⟩}}
def DW:Nat->Nat->LI
 |0,n=>[(n:Int)]
 |f+1,n=>if n<128 then[(n:Int)]else((n % 128+128:Nat):Int)::DW f (n / 128)
def vi(n:Nat):LI:=DW 9 n
variable {f:Nat}
theorem Bg(h:n<128):DW f n=[(n:Int)]:=by
 cases f with
 |zero=>rfl
 |succ f=>rw[DW,bO h]
def Lq(h:¬n<128):DW (f+1) n=((n % 128+128:Nat):Int)::DW f (n / 128):=by rw[DW,bH h]
theorem Wl(f:Nat):∀n,1<=(DW f n).length/\(DW f n).length<=f+1:=by
 induction f with
 |zero=>intro n;simp[DW]
 |succ f ih=>
  intro n;rw[DW];split;{simp};{have:=ih (n / 128);simp;omega}
theorem aF5(f:Nat):∀n,n<128 ^ (f+1)->aN (DW f n):=by
 induction f with
 |zero=>intro n hn z hz;simp[DW]at hz;subst hz;simp at hn;omega
 |succ f ih=>
  intro n hn;rw[DW];split;{intro z hz;simp at hz;subst hz;omega};{intro z hz;rcases jv.1 hz with rfl|hz;{omega};{exact ih (n / 128) (by rw[al4 af];rw[QM]at hn;exact hn) z hz}}
def ky(h:n<2^64):aN (vi n):=aF5 9 n (by omega)
def fg(n:Nat):1<=(vi n).length/\(vi n).length<=10:=Wl 9 n
def aN.app(h:aN l)(k:aN m):aN (l++m):=λz hz=>by
 rcases gu.1 hz with hz|hz;{exact h z hz};{exact k z hz}
def be6:((List.range 256).all λy=>bits .or .u8 (y:Int) 128==((y % 128+128:Nat):Int))=true:=by decide +kernel
def bD9{x:Nat}:bits .or .u8 ((x:Int) % 256) 128=((x % 128+128:Nat):Int):=by
 have h:=jw.1 be6 (x % 256) (Cc.2 (Nat.mod_lt _ af));have h2:=MF.1 h;rw[show((x:Int) % 256)=((x % 256:Nat):Int) by omega,h2]
 congr 1
 omega
theorem Cf(f:Nat):∀(v:Nat)(w:World),v<128 ^ (f+1)->v<2^64->f<=9->∀(N:Nat),Hid ((DW f v).length=N)→
  Calls prog 77 #[.U v] w λe w'=>∃p' c',e=.returned (.S p' N c')/\Own w.heap.size w' (.S p' N c') (DW f v)/\Bw w w':=by
 induction f with
 |zero=>
  intro v w hv h64 hf N hN;have h:v<128:=by simpa using hv
  have Ow:N=1:=by rw[<-ae hN];rfl
  subst Ow;have h':(v:Int)<128:=af;have wv:IntKind.u8.wrap (v:Int)=(v:Int):=by rw[zJ];omega
  go_in
  go_wp2;go_ret;exact⟨_,_,rfl,(by have:=Own.one w (v:Int);exact this),aA.alloc ay _⟩
 |succ f ih=>
  intro v w hv h64 hf N hN;by_cases h:v<128;{
 have e:DW (f+1) v=[(v:Int)]:=Bg h;have Ow:N=1:=by rw[<-ae hN,e];rfl
 subst Ow;rw[e];have h':(v:Int)<128:=af;have wv:IntKind.u8.wrap (v:Int)=(v:Int):=by rw[zJ];omega
 clear e hN ih
 go_in
 go_wp2;go_ret;exact⟨_,_,rfl,(by have:=Own.one w (v:Int);exact this),aA.alloc ay _⟩};{
 have h':¬(v:Int)<128:=af
 let⟨V,eV⟩:=aL (v / 128)
 have hd:(v:Int) / 128=(V:Int):=af;have hV1:V<128 ^ (f+1):=by rw[<-eV,al4 af];rw[QM]at hv;exact hv
 let⟨M,eM⟩:=aL ((DW f V).length)
 have hM:=Wl f V;have hih:∀w:World,_:=λw=>ih V w hV1 af af M eM;have e:DW (f+1) v=[((v % 128+128:Nat):Int)]++DW f V:=by rw[Lq h,eV];rfl
 obtain⟨y,ey⟩:∃y:Int,(v:Int) % 128+128=y:=⟨_,rfl⟩;have ey2:(((v % 128+128:Nat)):Int)=y:=by rw[<-ey];omega
 rw[ey2]at e;have hNM:N=1+M:=by rw[<-ae hN,e,gU,eM];rfl
 have HIH:=ag hih;have EE:=ag e;have EM:=ag eM;rw[eM]at hM;clear hih e eV ih hN eM
 go_in
 go_wp2_with fail
 try rw[hd]
 try rw[ey]
 refine(ae HIH _).mono ?_;rintro e w1⟨p1,c1,rfl,o1,aG⟩;have oo:Own w.heap.size (w.alloc (.cells #[.int .u8 y] 5)) (.T w.heap.size 1 1) [y]:=Own.one w y;have oo1:=Own.below oo aG;have bA:Bw w (w.alloc (.cells #[.int .u8 y] 5)):=aA.alloc ay _;have b1:=aj bA aG;have z1:=b1.size;have r1:=o1.rd;clear oo aG bA o1;go_wp2_with(at_builtin;refine bQ rfl rfl (.T w.heap.size 1 1) EE p1 c1 M EM rfl rfl oo1 r1 (by rw[ae EM];simp;omega) af ?_);intro p2 c2 w2 o2 gI;have b2:=dA b1 gI oo1 ay af;have eL:(DW (f+1) v).length=N:=by rw[ae EE,gU,ae EM,hNM];rfl
 rw[eL]at o2⊢;clear gI oo1 r1 b1;go_wp2;go_ret;exact⟨p2,c2,rfl,o2,b2⟩}
theorem lQ{v:Nat}(h64:v<2^64):Calls prog 99 #[.U v] w λe w'=>∃p' c',e=.returned (.S p' (vi v).length c')/\Own w.heap.size w' (.S p' (vi v).length c') (vi v)/\Bw w w':=by
 go_in
 go_wp2
 go_loopw[0,3](λnv ov wr=>∃(x f N:Nat)(pre:LI)(pv:OA)(cv:Nat),nv=.U x/\x<2^64/\Hid (x<128 ^ (f+1))/\N+f<=9/\ov=.S pv N cv/\Le pre N/\Hid (vi v=pre++DW f x)/\Own w.heap.size wr (.S pv N cv) pre/\Bw w wr) (λnv _ _=>(intOf nv).toNat)
 exact⟨v,9,0,[],none,0,rfl,h64,(by show _<_;omega),af,rfl,rfl,rfl,gm _ _ _ _,cQ _ _⟩;{
 obtain⟨x,f,N,pre,pv,cv,rfl,hx,hxf,hNf,rfl,eN,eV,ho,aM⟩:=hrel;have zr:=aM.size;by_cases h:x<128;{
 have h':¬(128:Int)<=(x:Int):=af;have wx:IntKind.u8.wrap (x:Int)=(x:Int):=by rw[zJ];omega
 have eE:Hid (vi v=pre++[(x:Int)]):=by show _=_;rw[ae eV,Bg h]
 go_wp2_with(at_builtin;refine fe rfl rfl (.S pv N cv) eE wr.heap.size rfl rfl (Own.below ho (aA.alloc ay _)) al (by rw[ae eN];omega) bq ?_);intro p2 c2 w2 o2 gI;have b2:Bw w w2:=(aM.alloc aM.size _).grown gI bq (λk hk=>(ho.lt k hk).1);clear gI;go_wp2;go_ret;exact⟨p2,c2,rfl,o2,b2⟩};{
 have h':=dC 128 x;obtain⟨f',rfl⟩:∃f',f=f'+1:=by
  cases f with
  |zero=>have:=ae hxf;simp at this;omega
  |succ f'=>exact⟨f',rfl⟩
 let⟨X,eX⟩:=aL (x / 128)
 have hX:Hid (X<128 ^ (f'+1)):=by show _<_;have:=ae hxf;rw[<-eX,al4 af];rw[QM]at this;exact this
 obtain⟨y,ey⟩:∃y:Int,((x % 128+128:Nat):Int)=y:=⟨_,rfl⟩;have hor:=bD9 (x:=x);rw[ey]at hor;have hd:(x:Int) / 128=(X:Int):=af;have eV2:Hid (vi v=(pre++[y])++DW f' X):=by show _=_;rw[ae eV,Lq h,eX,ey];simp
 have hXx:X<x:=af;have hy:ey=ey:=rfl
 let⟨bD4,ep0⟩:=aB (pre++[y])
 have eP:=ag ep0;have eN2:Hid (bD4.length=N+1):=by show _=_;rw[ep0,gU,ae eN];rfl
 rw[<-ep0]at eV2;clear ep0 eX ey hy;go_wp2_with(at_builtin;refine fe rfl rfl (.S pv N cv) eP wr.heap.size rfl rfl (Own.below ho (aA.alloc ay _)) al (by rw[ae eN];omega) bq ?_);intro p2 c2 w2 o2 gI;have b2:Bw w w2:=(aM.alloc aM.size _).grown gI bq (λk hk=>(ho.lt k hk).1);rw[ae eN2]at o2⊢;clear gI;go_wp2;go_roundw;exact⟨X,f',N+1,bD4,p2,c2,by go_num,af,hX,af,rfl,eN2,eV2,o2,b2⟩
 case measure=>simp[intOf];omega}}
def uh(k:Nat)(v x:Int):Int:=bits .or .u64 v (IntKind.u64.wrap (x % 128*2 ^ (7*k)))
def tI{v:Int}:0<=uh k v x/\uh k v x<2^64:=by
 have h1:=bits_lo_u64 .or v (IntKind.u64.wrap (x % 128*2 ^ (7*k)));have h2:=bits_hi_u64 .or v (IntKind.u64.wrap (x % 128*2 ^ (7*k)));unfold uh;omega
def tm(x:Nat):(x:Int) % 128=((x % 128:Nat):Int):=by omega
def Iw{x:Nat}{c:Int}(hc:c % 128=(x:Int))(hx:x<128)(ha:a<2 ^ (7*k))(hs:a+x*2 ^ (7*k)<2^64):uh k a c=((a+x*2 ^ (7*k):Nat):Int):=by
 unfold uh;rw[hc];have e2:IntKind.u64.wrap ((x:Int)*2 ^ (7*k))=((x*2 ^ (7*k):Nat):Int):=by
  rw[mK];have:((x:Int)*2 ^ (7*k))=((x*2 ^ (7*k):Nat):Int):=by push_cast;rfl
  rw[this];omega
 rw[e2];have hj:=bits_join_low .u64 64 bj wraps_u64 (7*k) (a:Int) ((x*2 ^ (7*k):Nat):Int) af (by exact_mod_cast ha) af af (by
  have:((x*2 ^ (7*k):Nat):Int) % 2 ^ (7*k)=((x*2 ^ (7*k) % 2 ^ (7*k):Nat):Int):=by push_cast;rfl
  rw[this,Nat.mul_mod_left]
  rfl) af
 rw[hj]
 push_cast
 rfl
def Me:Nat->Nat->Int->LI->Option (Int×LI)
 |0,_,_,_=>none
 |_+1,_,_,[]=>none
 |f+1,k,a,c::t=>if c<128 then some (uh k a c,t)else Me f (k+1) (uh k a c) t
def rv(m:LI):Option (Int×LI):=Me 10 0 0 m
def P9(k:Nat):2 ^ (7*(k+1))=128*2 ^ (7*k):=by
 rw[Nat.mul_add,Nat.pow_add,QL]
theorem be0(f:Nat):∀(k a x:Nat)(rest:LI),x<128 ^ (f+1)->a<2 ^ (7*k)->a+x*2 ^ (7*k)<2^64->Me (f+1) k a (DW f x++rest)=some (((a+x*2 ^ (7*k):Nat):Int),rest):=by
 induction f with
 |zero=>
  intro k a x rest hx ha hs;have YI:x<128:=by simpa using hx
  rw[DW];simp only[Ed,D9,Me];rw[bO af,Iw (by rw[tm];omega) YI ha hs]
 |succ f ih=>
  intro k a x rest hx ha hs;by_cases h:x<128;{rw[Bg h];simp only[Ed,D9,Me];rw[bO af,Iw (by rw[tm];omega) h ha hs]};{
 rw[Lq h];simp only[Ed,Me];have hdm:=Nat.div_add_mod x 128;have hml:=Nat.mod_lt x (show 0<128 by omega);generalize x / 128=q at*;generalize x % 128=r at*;subst hdm;have bh1:(128*q+r)*2 ^ (7*k)=q*2 ^ (7*(k+1))+r*2 ^ (7*k):=by rw[P9,Nat.add_mul,QL 128 q,Nat.mul_assoc]
 rw[bH af,Iw (by rw[tm];omega) hml ha (by rw[bh1]at hs;omega),ih (k+1) (a+r*2 ^ (7*k)) q rest ?_ ?_ ?_];{
 rw[bh1]
 congr 2
 simp;omega};{rw[QM]at hx;omega};{rw[P9];have:r*2 ^ (7*k)<=127*2 ^ (7*k):=GC _ af;omega};{rw[bh1]at hs;omega}}
def Wx{s:Nat}(rest:LI)(hs:s<2^64):rv (vi s++rest)=some ((s:Int),rest):=by
 have:=be0 9 0 0 s rest af bj af;simpa[rv,vi]using this
theorem vE(f:Nat):∀(k:Nat)(a:Int)(m:LI)(v:Int)(t:LI),Me f k a m=some (v,t)->0<=v/\v<2^64/\t.length<m.length/\t=m.drop (m.length-t.length):=by
 induction f with
 |zero=>intro k a m v t h;simp[Me]at h
 | succ f ih=>
  intro k a m v t h;cases m with
  |nil=>simp[Me]at h
  |cons c m=>
   rw[Me]at h;split at h;{
 simp at h;obtain⟨rfl,rfl⟩:=h;have:=tI (k:=k) (v:=a) (x:=c);refine⟨this.1,this.2,al,?_⟩;rw[iS,show m.length+1-m.length=1 by omega]
 rfl}
   {
 let⟨h1,h2,h3,h4⟩:=ih _ _ _ _ _ h
 refine⟨h1,h2,bq,?_⟩;rw[iS,show m.length+1-t.length=(m.length-t.length)+1 by omega,vW];exact h4}
def vOf:Option (Int×LI)->Int
 |some x=>x.1
 |none=>0
def aOf(n:Nat):Option (Int×LI)->Int
 |some x=>(n:Int)-x.2.length
 |none=>-1
def Mm:Calls prog 139 #[.S p n c,.I (-1)] w λe w'=>e=.returned (.tuple #[.I 0,.I (-1)])/\w'=w:=by
 go_in
 go_wp2
 go_ret2
 exact⟨rfl,rfl⟩
def Mn(hl:Mg n):Calls prog 139 #[.S p n c,.I n] w λe w'=>e=.returned (.tuple #[.I 0,.I (-1)])/\w'=w:=by
 have h0:¬(n:Int)<0:=af;have h1:=iC n n
 go_in
 go_wp2
 go_ret2
 exact⟨rfl,rfl⟩
def PR(en:Le l n)(h:Rd w (.S p n c) l)(hb:aN l)(hl:Mg n)(ha:a<n):Calls prog 139 #[.S p n c,.I a] w λe w'=>e=.returned (.tuple #[.I (l.getD a 0),.I ((a+1:Nat):Int)])/\w'=w:=by
 obtain⟨b,o,rfl,-,hc⟩:=h.at (by rw[ae en];omega);have Dz:=hc a (ae en▸ha);have hx:0<=l.getD a 0/\l.getD a 0<256:=by have Vm:a<l.length:=ae en▸ha;rw[show l.getD a 0=l[a] by simp[List.getD,Vm]];exact hb _ (zF Vm)
 let⟨x,ex⟩:=aL (l.getD a 0)
 rw[ex]at Dz hx⊢;have h0:¬(a:Int)<0:=af;have h1:¬(n:Int)<=(a:Int):=af;have h2:=aU a n;have wx:IntKind.i64.wrap x=x:=kU _ af;clear hc ex
 go_in
 go_wp2
 go_ret2
 exact⟨al,rfl⟩
def CU:Calls prog 137 #[.S p n c,.I (-1)] w λe w'=>e=.returned (.tuple #[.U 0,.I (-1)])/\w'=w:=by
 go_in
 go_wp2_with fail
 go_loopw[6,7](λnv iv wr=>nv=.U 0/\iv=.I 0/\wr=w) (λ_ iv _=>10-(intOf iv).toNat)
 exact⟨rfl,rfl,rfl⟩;{
 obtain⟨rfl,rfl,rfl⟩:=hrel;go_wp2
 go_ret2
 exact⟨rfl,rfl⟩}
def VA(h:a<l.length):l.drop a=l.getD a 0::l.drop (a+1):=by
 rw[MH h];simp[List.getD,h]
def Gg(en:Le l n)(h:Rd w (.S p n c) l)(hb:aN l)(hl:Mg n)(ha:a<=n){r:Option (Int×LI)}(er:Hid (rv (l.drop a)=r)):Calls prog 137 #[.S p n c,.I a] w λe w'=>e=.returned (.tuple #[.U (vOf r),.I (aOf n r)])/\w'=w:=by
 have HR:=ag h;have HB:=ag hb;have ha0:¬(a:Int)<0:=af;clear h hb
 go_in
 go_wp2_with fail
 go_loopw[6,7](λnv iv wr=>∃(v:Int)(k:Nat),nv=.U v/\k<=10/\iv=.I k/\Hid (r=Me (10-k) k v (l.drop (a+k)))/\wr=w) (λ_ iv _=>10-(intOf iv).toNat)
 exact⟨0,0,rfl,af,rfl,(by show _=_;rw[<-ae er];rfl),rfl⟩;{
 obtain⟨v,k,rfl,hk,rfl,hr,rfl⟩:=hrel;by_cases h10:k<10;{
 have bm1:(k:Int)<10:=af;obtain⟨A,eA⟩:∃A:Nat,(a:Int)+(k:Int)=(A:Int):=⟨a+k,af⟩;have eA2:a+k=A:=af;have nO:=ae hr;rw[eA2,show 10-k=(9-k)+1 by omega]at nO;by_cases jq:A<n;{
 have hA:=aU A n;have Rz:¬(n:Int)<=(A:Int):=af;obtain⟨b,o,rfl,-,hc⟩:=HR.at (by rw[ae en];omega);have Dz:=hc A (ae en▸jq);have hx:0<=l.getD A 0/\l.getD A 0<256:=by have Vm:A<l.length:=ae en▸jq;rw[show l.getD A 0=l[A] by simp[List.getD,Vm]];exact HB _ (zF Vm)
 rw[VA (ae en▸jq)]at nO
 let⟨x,ex⟩:=aL (l.getD A 0)
 rw[ex]at Dz hx nO;have w7:IntKind.i64.wrap (7*(k:Int))=7*(k:Int):=kU _ af;rw[Me]at nO;clear hc ex hr;by_cases ao8:x<128;{
 rw[bO ao8]at nO;have e1:vOf r=uh k v x:=by rw[nO];rfl
 have e2:aOf n r=(A:Int)+1:=by rw[nO];show(n:Int)-((l.drop (A+1)).length:Nat)=_;rw[r9,ae en];omega
 have E:=ag (ai e1 e2);clear e1 e2 nO;go_wp2
 go_ret2
 rw[E.1,E.2];exact⟨rfl,rfl⟩};{
 have cw0:¬x<128:=ao8;rw[bH ao8]at nO;have KJ:Hid (r=Me (10-(k+1)) (k+1) (uh k v x) (l.drop (a+(k+1)))):=by show _=_;rw[nO,show 10-(k+1)=9-k by omega,show a+(k+1)=A+1 by omega]
 clear nO;go_wp2;go_roundw;exact⟨uh k v x,k+1,rfl,af,by go_num,KJ,by first|rfl|trivial⟩;exact cg}};{
 have Rz:=iC n A;rw[Ku (by rw[ae en];omega),Me]at nO;subst nO;clear hr;go_wp2
 go_ret2
 exact⟨rfl,rfl⟩}};{
 have bm1:¬(k:Int)<10:=af;have nO:=ae hr;rw[show 10-k=0 by omega,Me]at nO;subst nO;clear hr;go_wp2
 go_ret2
 exact⟨rfl,rfl⟩}}
def aP(l:LI):ByteArray:=l.foldl (λr n=>r.push (UInt8.ofNat n.toNat)) ByteArray.empty
theorem Lh(l:LI)(s:ByteArray):(l.foldl (λr n=>r.push (UInt8.ofNat n.toNat)) s).data.toList=s.data.toList++l.map (λn=>UInt8.ofNat n.toNat):=by
 induction l generalizing s with
 |nil=>simp
 |cons b l ih=>rw[ME,ih];simp[ByteArray.push]
theorem map_inj(hl:aN l)(hm:aN m)(h:l.map (λn=>UInt8.ofNat n.toNat)=m.map (λn=>UInt8.ofNat n.toNat)):l=m:=by
 induction l generalizing m with
 |nil=>cases m with
  |nil=>rfl
  |cons b m=>simp at h
 | cons a l ih=>cases m with
  |nil=>simp at h
  |cons b m=>
   simp only[iH,List.cons.injEq]at h
   let⟨a0,a1⟩:=hl a al
   let⟨b0,b1⟩:=hm b al
   have e:=tX UInt8.toNat h.1;simp at e;have e2:a=b:=af;rw[e2,ih (λz hz=>hl z (by simp[hz])) (λz hz=>hm z (by simp[hz])) h.2]
def fE(l:LI):(aP l).toList=l.map (λn=>UInt8.ofNat n.toNat):=by
 rw[ByteArray.toList_eq,aP,Lh];rfl
def qU(hl:aN l)(hm:aN m):((aP l).toList==(aP m).toList)=decide (l=m):=by
 rw[fE,fE];by_cases h:l=m;{simp[h]};{simp only[h,WX,WW];exactλe=>h (map_inj hl hm e)}
theorem dQ(en:l.length=n)(h:Rd w (.S p n c) l):(convert 22 9 (.S p n c)).run prog w=.ok (.string (aP l)) w:=by
 subst en;rw[run_convert_bytes_string w 22 9 5 p l.length c underlying22 underlying5 underlying9];cases p with
 |none=>
  have e:=h.rY;subst e;simp[Conv.bytesToString,aP,Qy]
 |some a=>
  let⟨n1,n2,n3⟩:=h.news
  have hl:=run_loadCells_list (P:=prog) w a (U l) (λj v hj=>n2 j v hj);simp only[fN]at hl;exact run_bytesToString w a l.length c l hl
def gP{d:Nat}(el:Le l n)(em:Le m k)(h1:Rd w (.S p n c) l)(h2:Rd w (.S q k d) m)(b1:aN l)(b2:aN m):Calls prog 47 #[.S p n c,.S q k d] w (Rb (.bool (decide (l=m))) w):=by
 have e1:=dQ el h1;have e2:=dQ em h2;have HE:=ag (qU b1 b2);clear h1 h2 b1 b2
 go_in
 go_wp2;go_ret;exact⟨by rw[ae HE];rfl,cQ _ _⟩
def Rd.cut{o:Nat}(h:Rd w (.S (some (Ad b o)) n c) l)(i j:Nat)(hi:i<=j)(hj:j<=l.length)(q:OA)(hq:j=i\/q=some (Ad b (o+i)))(d:Nat)(m:LI)(em:m=(l.take j).drop i):Rd w (.S q (j-i) d) m:=by
 have hm:m.length=j-i:=by rw[em];simp;omega
 refine⟨q,d,by rw[hm],?_⟩;rcases hq with rfl|rfl;{left;exact D8 af}
 {
 obtain⟨p',c',e,h⟩:=h;obtain⟨e1,-,-⟩:=ir e;rcases h with rfl|⟨b',o',e2,hc⟩;{left;exact D8 (by simp at hj;omega)}
 {
 right
 rw[e2]at e1;simp only[kV,bF1]at e1;obtain⟨rfl,rfl,-⟩:=e1;refine⟨b,o+i,rfl,λk hk=>?_⟩;have:=hc (i+k) af;rw[mL,this,em];simp[List.getD,GP,show i+k<j by omega]}}
def jS{d:Nat}(el:Le l n)(em:Le m k)(h1:Rd w (.S p n c) l)(h2:Rd w (.S q k d) m)(b1:aN l)(b2:aN m):Calls prog 35 #[.S p n c,.S q k d] w (Rb (.bool (decide (l=m))) w):=by
 have e1:=dQ el h1;have e2:=dQ em h2;have HE:=ag (qU b1 b2);clear h1 h2 b1 b2
 go_in
 go_wp2;go_ret;exact⟨by rw[ae HE];rfl,cQ _ _⟩
def iT(en:Le l n)(h:Rd w (.S p n c) l)(hl:n<=2097152):Cp 70 #[.S p n c] w λe w'=>∃p' c',e=.returned (.S p' n c')/\Own w.heap.size w' (.S p' n c') l/\Bw w w':=by
 have e:=ae en;subst e;exact xZ h hl
def rt(m:LI):Option (LI×LI):=
 match rv m with
 |none=>none
 |some x=>if(x.2.length:Int)<x.1 then none else some (x.2.take x.1.toNat,x.2.drop x.1.toNat)
def tOf:Option (LI×LI)->LI
 |some x=>x.1
 |none=>[]
def bOf(n:Nat):Option (LI×LI)->Int
 |some x=>(n:Int)-x.2.length
 |none=>-1
def Ml:Calls prog 138 #[.S p n c,.I (-1)] w λe w'=>e=.returned (.tuple #[aq,.I (-1)])/\w'=w:=by
 go_in
 go_wp2_with fail;refine(CU).mono ?_;rintro e w'⟨rfl,rfl⟩;go_wp2
 go_ret2
 exact⟨rfl,rfl⟩
theorem PQ(en:Le l n)(h:Rd w (.S p n c) l)(hb:aN l)(hl:Mg n)(xv:n<=c)(ha:a<=n){r:Option (LI×LI)}(er:Hid (rt (l.drop a)=r)){N:Nat}(eN:Hid ((tOf r).length=N)):Calls prog 138 #[.S p n c,.I a] w λe w'=>∃p' c',e=.returned (.tuple #[.S p' N c',.I (bOf n r)])/\Own w.heap.size w' (.S p' N c') (tOf r)/\Bw w w':=by
 let⟨x,ex⟩:=aL (rv (l.drop a))
 have Nq:=ae er;rw[rt,ex]at Nq
 go_in
 go_wp2_with fail;refine(Gg en h hb hl ha ex).mono ?_;rintro e w'⟨rfl,rfl⟩;cases x with
 |none=>
  subst Nq;have Vo:N=0:=by rw[<-ae eN];rfl
  subst Vo;dsimp only[vOf,aOf];go_wp2
  go_ret2
  exact⟨none,0,rfl,gm _ _ _ _,cQ _ _⟩
 | some x=>
  obtain⟨v,t⟩:=x;have mZ:=vE 10 0 0 _ v t ex;rw[r9,ae en]at mZ;obtain⟨v0,v1,htl,aL9⟩:=mZ
  let⟨T,eT⟩:=aL t.length
  dsimp only at Nq;rw[eT]at Nq htl aL9
  let⟨A,eA⟩:=aL (n-T)
  have hte:t=l.drop A:=by
   rw[aL9,Gv]
   congr 1
   omega
  have ea:aOf n (some (v,t))=(A:Int):=by show(n:Int)-(t.length:Nat)=_;rw[eT];omega
  have ev:vOf (some (v,t))=v:=rfl;rw[ea,ev];have hA0:¬(A:Int)<0:=af;have hAn:(n:Int)-(A:Int)=(T:Int):=af;have wT:IntKind.u64.wrap (T:Int)=(T:Int):=by rw[mK];omega
  by_cases hv:(T:Int)<v;{
 rw[bO hv]at Nq;subst Nq;have Vo:N=0:=by rw[<-ae eN];rfl
 subst Vo;clear er ea ev ex aL9 hte;go_wp2
 go_ret2
 exact⟨none,0,rfl,gm _ _ _ _,cQ _ _⟩};{
 rw[bH hv]at Nq;obtain⟨V,rfl⟩:∃V:Nat,v=(V:Int):=⟨v.toNat,af⟩;have eV:((V:Int)).toNat=V:=af;rw[eV]at Nq;have Ow:N=V:=by rw[<-ae eN,<-Nq];show(t.take V).length=V;rw[pT,eT];omega
 subst Ow;have YP:bOf n r=((A+N:Nat):Int):=by rw[<-Nq];show(n:Int)-((t.drop N).length:Nat)=_;rw[r9,eT];omega
 have Tj:tOf r=(l.take (A+N)).drop A:=by rw[<-Nq];show t.take N=_;rw[hte,List.drop_take,aV8]
 obtain⟨b,o,rfl,-,-⟩:=h.at (by rw[ae en];omega);have hcut:∀(q:OA)(d:Nat),(A+N=A\/q=some (Ad b (o+A)))->Rd w' (.S q N d) (tOf r):=λq d hq=>by have:=h.cut A (A+N) af (by rw[ae en];omega) q hq d (tOf r) Tj;rwa [aV8]at this
 let⟨E,eE⟩:=aL (A+N)
 rw[eE]at hcut;have wN:=e8 N;have hAE:(A:Int)+(N:Int)=(E:Int):=af;have hE1:=iC A E;have hE2:=iC E c;have hE4:E-A=N:=af;have hvv:¬(T:Int)<(N:Int):=hv;have HC:=ag hcut;have HS:=ag (ai YP (ai Tj (ai eE (ai eT eA))));clear er Nq ea ev ex aL9 hte hcut YP Tj eE eT eA hv eV h hb;by_cases hcA:c=A;{
 have hEA:A=E:=af;have Vo:N=0:=af;subst hcA;subst hEA;subst Vo;go_wp2_with fail;refine(iT eN (ae HC _ _ (.inl (by first|rfl|trivial))) af).mono ?_;rintro e w2⟨p2,c2,rfl,o2,b2⟩;go_wp2
 go_ret2
 exact⟨p2,c2,by rw[HS.1,HS.2.2.1];rfl,o2,b2⟩};{
 have cE3:¬(c:Int)=(A:Int):=af;have dV3:c≠A:=hcA;have wE:=e8 E;have hNb:N<=2097152:=af;have HE4:=ag hE4;clear htl hcA hE4 cE3 v0 v1;go_wp2_with fail;rw[ae HE4];refine(iT eN (ae HC _ _ (.inr rfl)) af).mono ?_;rintro e w2⟨p2,c2,rfl,o2,b2⟩;go_wp2
 go_ret2
 exact⟨p2,c2,by rw[HS.1,HS.2.2.1];rfl,o2,b2⟩}}
def nI(i:Nat)(e:Ev):Bool:=if i=7 then e.1==4&&e.2.length==0 else decide (1<=e.1)&&(decide (e.1<=3)&&vp e.2)
def kK(es:List Ev):Bool:=decide (es.length<=8)&&(List.range es.length).all λi=>nI i (es.getD i (0,[]))
theorem xo{es:List Ev}(en:Le es n)(h:DS w (.S p n c) es)(hn:Mg n)(gh:Hid (∀e∈es,aN e.2/\e.2.length<=1048576))(eB:Hid (kK es=B)):Calls prog 130 #[.S p n c] w (Rb (.bool B) w):=by
 have HR:=ag λ(w':World)(hb:Bw w w')=>h.below hb;by_cases h8:n<=8;{
 have h8':¬(8:Int)<(n:Int):=af
 go_in
 go_wp2_with fail
 go_loopw[3](λiv wr=>∃k:Nat,k<=n/\iv=.I k/\Hid ((List.range k).all (λi=>nI i (es.getD i (0,[])))=true)/\Bw w wr) (λiv _=>n-(intOf iv).toNat)
 exact⟨0,gr _,rfl,bD,cQ _ _⟩;{
 obtain⟨k,hk,rfl,iI,aM⟩:=hrel;by_cases bf:k<n;{
 have bL:=aU k n;have dT:k<es.length:=ae en▸bf
 let⟨⟨K,P⟩,hy⟩:=lE dT
 have Ri:es.getD k (0,[])=(K,P):=by rw[gj,hy];rfl
 obtain⟨b,o,rfl,hcK,u,hcP,YJ⟩:∃b o,p=some (Ad b o)/\wr.cell? (Ad b (o+k*2))=some (.I K)/\∃u,wr.cell? (Ad b (o+k*2+1))=some u/\Rd wr u P:=by
  let⟨p',c',ev,hd⟩:=ae HR _ aM
  obtain⟨rfl,-,-⟩:=ir ev;rcases hd with h0|⟨b,o,h1,h2⟩;{rw[h0]at dT;simp at dT};{exact⟨b,o,h1,h2 k _ hy⟩}
 let⟨hBP,hPl⟩:=ae gh _ (aT hy)
 obtain⟨pp,pc,rfl,-⟩:=id YJ
 let⟨m,em⟩:=aL P.length
 rw[em]at YJ hcP;have hm:m<=1048576:=em▸hPl;have EM:=ag em;have HBP:=ag hBP;have HRP:=ag YJ;have hF:nI k (K,P)=false->B=false:=λh=>by rw[<-ae eB,kK,ae en,ft bf (Ri▸h),Bool.and_false]
 have hT:nI k (K,P)=true->Hid ((List.range (k+1)).all (λi=>nI i (es.getD i (0,[])))=true):=λh=>dz (ae iI) (Ri▸h);by_cases h7:k=7;{
 subst h7;have hcK:wr.cell? (Ad b (o+14))=some (.I K):=hcK;have hcP:wr.cell? (Ad b (o+14+1))=some (.S pp m pc):=hcP;have dV0:wr.cell? (Ad b (o+15))=some (.S pp m pc):=hcP;by_cases h4:K=4;{
 have h4d:(K==4)=true:=by simp[h4]
 by_cases MY:m=0;{
 have bJ0:((m:Int)==0)=true:=by simp;omega
 have tQ:=hT (by rw[nI,bO rfl];simp[h4,ae EM,MY]);go_wp2;go_roundw;exact⟨7+1,af,by go_num,tQ,aM⟩;exact cg};{
 have bJ0:((m:Int)==0)=false:=by simp;omega
 have eF:=hF (by rw[nI,bO rfl];simp[h4,ae EM,MY]);subst eF;go_wp2;go_ret;exact⟨rfl,aM⟩}};{
 have h4d:(K==4)=false:=by simp[h4]
 have eF:=hF (by rw[nI,bO rfl];simp[h4]);subst eF;go_wp2;go_ret;exact⟨rfl,aM⟩}};{
 have h7':¬(k:Int)=7:=af;have h7d:((k:Int)==7)=false:=by simp;omega
 by_cases h4:K=4;{
 have h4d:(K==4)=true:=by simp[h4]
 have eF:=hF (by rw[nI,bH h7];simp[h4]);subst eF;go_wp2;go_ret;exact⟨rfl,aM⟩};{
 have h4d:(K==4)=false:=by simp[h4]
 by_cases h1:K<1;{have h1':¬1<=K:=af;have eF:=hF (by rw[nI,bH h7];simp;omega);subst eF;go_wp2;go_ret;exact⟨rfl,aM⟩};{
 by_cases h3:3<K;{have h3':¬K<=3:=af;have eF:=hF (by rw[nI,bH h7];simp;omega);subst eF;go_wp2;go_ret;exact⟨rfl,aM⟩};{
 have h1':¬K<1:=h1;have g1:1<=K:=af;have g3:K<=3:=af
 let⟨V,eV⟩:=aL (vp P)
 have EV:=ag eV;have iM:nI k (K,P)=V:=by rw[nI,bH h7,eV];simp[g1,g3]
 go_wp2_with fail;refine(FN EM HRP HBP hm EV).mono ?_;rintro r w2⟨rfl,aK⟩;have b2:=aj aM aK;cases V with
 |false=>
  have eF:=hF (by exact iM);subst eF;go_wp2;go_ret;exact⟨rfl,b2⟩
 |true=>
  have tQ:=hT (by exact iM);go_wp2;go_roundw;exact⟨k+1,af,by go_num,tQ,b2⟩;exact cg}}}}};{
 have bL:=dB k n;have eT:B=true:=by
  rw[<-ae eB,kK,ae en];have:k=n:=by omega
  rw[<-this,ae iI];simp;omega
 subst eT;go_wp2;go_ret;exact⟨rfl,aM⟩}}};{
 have h8':=mW 8 n;have eF:B=false:=by rw[<-ae eB,kK,ae en];simp[h8]
 subst eF
 go_in
 go_wp2;go_ret;exact⟨rfl,cQ _ _⟩}
def mF(nx:Int)(ss:List aQ)(i:Nat):Bool:=
 decide (1<=(ss.getD i (0,0,[])).1)&&(decide ((ss.getD i (0,0,[])).1<=nx)&&((i==0||decide ((ss.getD (i-1) (0,0,[])).1<(ss.getD i (0,0,[])).1))&&
  (decide (0<=(ss.getD i (0,0,[])).2.1)&&(decide ((ss.getD i (0,0,[])).2.1<=1000015)&&kK (ss.getD i (0,0,[])).2.2))))
def Eh{e:Int}{ss:List aQ}(en:Le ss n)(h:vk w (.S p n c) ss)(hn:Mg n)(hk:k<n)(gh:Hid (∀s∈ss,s.2.2.length<=1048576/\∀e∈s.2.2,aN e.2/\e.2.length<=1048576))(eB:Hid (mF x ss k=B)):Calls prog 67 #[dZ e g x t (.S p n c) N,.I k] w (Rb (.bool B) w):=by
 have HR:=ag λ(w':World)(hb:Bw w w')=>h.below hb;have dT:k<ss.length:=ae en▸hk
 let⟨⟨I,D,Q⟩,hy⟩:=lE dT
 have Ri:ss.getD k (0,0,[])=(I,D,Q):=by rw[gj,hy];rfl
 obtain⟨b,o,rfl,hcA⟩:∃b o,p=some (Ad b o)/\∀i s,ss[i]?=some s->w.cell? (Ad b (o+i*3))=some (.U s.1)/\w.cell? (Ad b (o+i*3+1))=some (.I s.2.1)/\∃u,w.cell? (Ad b (o+i*3+2))=some u/\DS w u s.2.2:=by obtain⟨p',c',ev,hd⟩:=h;obtain⟨rfl,-,-⟩:=ir ev;rcases hd with h0|⟨b,o,h1,h2⟩;{rw[h0]at dT;simp at dT};{exact⟨b,o,h1,h2⟩}
 let⟨hI,hD,u,hU,hQ⟩:=hcA k _ hy
 let⟨hQl,hQb⟩:=ae gh _ (aT hy)
 obtain⟨pq,cq,rfl,-⟩:=id hQ
 let⟨m,em⟩:=aL Q.length
 rw[em]at hQ hU;have hm:m<=1048576:=em▸hQl;have EM:=ag em;have HBQ:Hid (∀e∈Q,aN e.2/\e.2.length<=1048576):=hQb;have HRQ:=ag hQ
 let⟨T,eT⟩:=aL (kK Q)
 have ET:Hid (kK Q=T):=eT;have iM:mF x ss k=(decide (1<=I)&&(decide (I<=x)&&((k==0||decide ((ss.getD (k-1) (0,0,[])).1<I))&&(decide (0<=D)&&(decide (D<=1000015)&&T))))):=by rw[mF,Ri,eT]
 rw[show(mF x ss k)=B from ae eB]at iM;have HAT:Hid (B=(decide (1<=I)&&(decide (I<=x)&&((k==0||decide ((ss.getD (k-1) (0,0,[])).1<I))&&(decide (0<=D)&&(decide (D<=1000015)&&T)))))):=iM;clear iM;have hk':=aU k n;have cA9:=dC 0 k;have HL:=ag dT;clear hy Ri hQl hQb hQ em eT h eB dT;have HCA:=ag hcA;clear hcA
 go_in
 have b1:Bw w (w.alloc (.cells #[.U e,.U g,.U x,.I t,.S (some (Ad b o)) n c,N] 41)):=aA.alloc ay _;have i1:=ah hI b1;have i2:=ah hD b1;have i3:=ah hU b1;go_wp2_with fail
 let⟨X,hX⟩:=aB ((w.alloc (.cells #[.U e,.U g,.U x,.I t,.S (some (Ad b o)) n c,N] 41)).alloc (.cells #[.U I,.I D,.S pq m cq] 132))
 have BX:Hid (Bw w X):=by show Below _ _ _;rw[hX];exact b1.alloc al _
 have kA:X.cell? (Ad (w.heap.size+1) 0)=some (.U I):=by rw[hX];simp
 have kD:X.cell? (Ad (w.heap.size+1) 1)=some (.I D):=by rw[hX];simp
 have kQ:X.cell? (Ad (w.heap.size+1) 2)=some (.S pq m cq):=by rw[hX];simp
 have kB:X.cell? (Ad w.heap.size 2)=some (.U x):=by rw[hX];simp
 have kC:X.cell? (Ad w.heap.size 4)=some (.S (some (Ad b o)) n c):=by rw[hX];simp
 rw[<-hX];have KA:=ag kA;have KB:=ag kB;have KC:=ag kC;clear hX b1 i1 i2 i3 kA kB kC hI hD hU;by_cases h1:I<1;{
 have eF:B=false:=by rw[ae HAT];simp;omega
 subst eF;have h1d:decide (I<1)=true:=by simp;omega
 refine du (λw'=>w'.cell? (Ad (w.heap.size+1) 0)=some (.U I)/\w'.cell? (Ad w.heap.size 2)=some (.U x)/\w'.cell? (Ad w.heap.size 4)=some (.S (some (Ad b o)) n c)) (by exact⟨KA,KB,KC⟩) λhS=>?_;refine lG 0 1 2 3 hS ?_;refine oQ 4 5 6 7 hS ?_;refine sn 8 hS ?_;refine jR 9 10 hS ?_;refine oQ 11 12 13 14 hS ?_;refine oQ 15 16 17 18 hS ?_;refine oQ 19 20 21 22 hS ?_;refine sn 23 hS ?_;refine sn 24 hS ?_;refine tn 25 hS ?_;refine cY ?_;clear hS;go_wp2;go_ret;exact⟨rfl,BX.drew⟩};{
 have h1d:decide (I<1)=false:=by simp;omega
 by_cases h2:x<I;{
 have eF:B=false:=by rw[ae HAT];simp;omega
 subst eF;have h2d:decide (x<I)=true:=by simp;omega
 refine du (λw'=>w'.cell? (Ad (w.heap.size+1) 0)=some (.U I)/\w'.cell? (Ad w.heap.size 2)=some (.U x)/\w'.cell? (Ad w.heap.size 4)=some (.S (some (Ad b o)) n c)) (by exact⟨KA,KB,KC⟩) λhS=>?_;refine mj 0 1 2 3 4 5 6 7 hS ?_;refine jR 8 9 hS ?_;refine tn 10 hS ?_;refine oQ 11 12 13 14 hS ?_;refine oQ 15 16 17 18 hS ?_;refine oQ 19 20 21 22 hS ?_;refine sn 23 hS ?_;refine sn 24 hS ?_;refine tn 25 hS ?_;refine cY ?_;go_wp2;go_ret;exact⟨rfl,BX.drew⟩};{
 have h2d:decide (x<I)=false:=by simp;omega
 by_cases Tn:k=0;{
 have hp:¬0<k:=af;have hp':¬(0:Int)<(k:Int):=af;have HK0:=ag Tn;refine du (λw'=>w'.cell? (Ad (w.heap.size+1) 0)=some (.U I)/\w'.cell? (Ad w.heap.size 2)=some (.U x)/\w'.cell? (Ad w.heap.size 4)=some (.S (some (Ad b o)) n c)) (by exact⟨KA,KB,KC⟩) λhS=>?_;refine mj 0 1 2 3 4 5 6 7 hS ?_;refine lG 8 9 10 11 hS ?_;refine jR 12 13 hS ?_;refine oQ 14 15 16 17 hS ?_;refine oQ 18 19 20 21 hS ?_;refine sn 22 hS ?_;refine sn 23 hS ?_;refine jR 24 25 hS ?_;refine cY ?_;have iM:=ae HAT;rw[show(k==0)=true by simp[ae HK0]]at iM;by_cases h5:D<0;{
 have eF:B=false:=by rw[iM];simp;omega
 subst eF;have h5':D<0:=h5;go_wp2;go_ret;exact⟨rfl,BX.drew⟩};{
 by_cases h6:1000015<D;{
 have eF:B=false:=by rw[iM];simp;omega
 subst eF;go_wp2;go_ret;exact⟨rfl,BX.drew⟩};{
 have eQ:B=T:=by rw[iM];simp[show 1<=I by omega,show I<=x by omega,show 0<=D by omega,show D<=1000015 by omega]
 subst eQ;clear iM;go_wp2_with fail;refine(xo EM (by exact HRQ.below BX.drew) hm HBQ ET).mono ?_;rintro r w2⟨rfl,aK⟩;have b2:=aj BX.drew aK;clear aK;go_wp2;go_ret;exact⟨rfl,b2⟩}}};{
 obtain⟨j,ej⟩:∃j:Nat,(k:Int)-1=(j:Int):=⟨k-1,af⟩;have Y8:k-1=j:=af;have Al:j<ss.length:=aI (ae HL)
 let⟨⟨z,zz⟩,hz⟩:=lE Al
 have hzD:(ss.getD j (0,0,[])).1=z:=by rw[gj,hz];rfl
 have iM:=ae HAT;rw[Y8,hzD]at iM;have kZ:=ah (ae HCA j _ hz).1 BX;have KZ:Hid (X.cell? (Ad b (o+j*3))=some (.U z)):=kZ;have hp:0<k:=af;have hp':=mW 0 k;have hjm:=aU j n;have hj0:=dC 0 j;have wj:=e8 j;rw[show(k==0)=false by simp[Tn],Ks]at iM;have aS9:Hid (B=(decide (1<=I)&&(decide (I<=x)&&(decide (z<I)&&(decide (0<=D)&&(decide (D<=1000015)&&T)))))):=iM;clear iM;clear hz hzD Al kZ Y8 Tn;by_cases hzI:z<I;{
 have hle:¬I<=z:=af;have bi1:decide (I<=z)=false:=by simp;omega
 refine du (λw'=>w'.cell? (Ad (w.heap.size+1) 0)=some (.U I)/\w'.cell? (Ad w.heap.size 2)=some (.U x)/\w'.cell? (Ad w.heap.size 4)=some (.S (some (Ad b o)) n c)/\w'.cell? (Ad b (o+j*3))=some (.U z)) (by exact⟨KA,KB,KC,KZ⟩) λhS=>?_;refine mj 0 1 2 3 4 5 6 7 hS ?_;refine mj 8 9 10 11 12 13 14 15 hS ?_;refine mj 16 17 18 19 20 21 22 23 hS ?_;refine jR 24 25 hS ?_;refine cY ?_;clear hS;by_cases h5:D<0;{
 have eF:B=false:=by rw[ae aS9];simp;omega
 subst eF;have h5':D<0:=h5;go_wp2;go_ret;exact⟨rfl,BX.drew⟩};{
 by_cases h6:1000015<D;{
 have eF:B=false:=by rw[ae aS9];simp;omega
 subst eF;go_wp2;go_ret;exact⟨rfl,BX.drew⟩};{
 have eQ:B=T:=by rw[ae aS9];simp only[show decide (1<=I)=true by(rw[pO];omega),show decide (I<=x)=true by(rw[pO];omega),show decide (z<I)=true by(rw[pO];omega),show decide (0<=D)=true by(rw[pO];omega),show decide (D<=1000015)=true by(rw[pO];omega),pQ]
 subst eQ;go_wp2_with fail;refine(xo EM (by exact HRQ.below BX.drew) hm HBQ ET).mono ?_;rintro r w2⟨rfl,aK⟩;have b2:=aj BX.drew aK;go_wp2;go_ret;exact⟨rfl,b2⟩}}};{
 have hle:I<=z:=af;have bi1:decide (I<=z)=true:=by simp;omega
 have eF:B=false:=by rw[ae aS9];simp;omega
 subst eF;refine du (λw'=>w'.cell? (Ad (w.heap.size+1) 0)=some (.U I)/\w'.cell? (Ad w.heap.size 2)=some (.U x)/\w'.cell? (Ad w.heap.size 4)=some (.S (some (Ad b o)) n c)/\w'.cell? (Ad b (o+j*3))=some (.U z)) (by exact⟨KA,KB,KC,KZ⟩) λhS=>?_;refine mj 0 1 2 3 4 5 6 7 hS ?_;refine mj 8 9 10 11 12 13 14 15 hS ?_;refine mj 16 17 18 19 20 21 22 23 hS ?_;refine jR 24 25 hS ?_;refine cY ?_;go_wp2;go_ret;exact⟨rfl,BX.drew⟩}}}}
def ay2(w:World)(C:Array Value)(e:TypeId)(fr:Nat×Nat)(i:Nat):(w.alloc (.cells C e fr)).cell? (Ad w.heap.size i)=C[i]?:=by
 have h:(w.alloc (.cells C e fr)).heap[w.heap.size]?=some (.cells C e fr):=by show(w.heap.push (.cells C e fr))[w.heap.size]?=_;simp
 unfold World.cell?;rw[h]
 rfl
def Oi(l:LI)(k:Nat):Nat:=(List.range k).foldl (λa i=>if l.getD i 0=47 then i else a) 0
def uQ(l:LI)(k:Nat):Oi l (k+1)=if l.getD k 0=47 then k else Oi l k:=by
 rw[Oi,al5,QK];rfl
def eG(l:LI):LI:=if Oi l l.length=0 then[47]else l.take (Oi l l.length)
theorem kY(en:Le l n)(h:Rd w (.S p n c) l)(hn:Mg n)(hc:n<=c)(DA:c<=maxLen):Calls prog 133 #[.S p n c] w λr w'=>∃q m d,r=.returned (.S q m d)/\(eG l).length=m/\m<=n+1/\Rd w' (.S q m d) (eG l)/\Bw w w':=by
 have HR:=ag h;clear h
 go_in
 go_wp2_with fail
 go_loopw[3,4](λav iv wr=>∃k a:Nat,k<=n/\iv=.I k/\av=.I a/\a<=k/\Hid (Oi l k=a)/\wr=w) (λ_ iv _=>n-(intOf iv).toNat)
 exact⟨0,0,gr _,rfl,rfl,iD _,bD,rfl⟩;{
 obtain⟨k,a,hk,rfl,rfl,hak,hls,rfl⟩:=hrel;by_cases bf:k<n;{
 have bL:=aU k n;have dT:k<l.length:=ae en▸bf;obtain⟨b,o,rfl,-,cT⟩:=HR.at af;have Dz:=cT k dT;have db:=uQ l k
 let⟨y,ey⟩:=aL (l.getD k 0)
 rw[ey]at Dz db;clear cT dT ey;by_cases qF:y=47;{subst qF;rw[bO rfl]at db;have qV:=ag db;clear db;go_wp2;go_roundw;exact⟨k+1,k,af,by go_num,rfl,af,qV,by first|rfl|trivial⟩;exact cg};{
 have dZ4:(y==47)=false:=by simp[qF]
 rw[bH qF,ae hls]at db;have qV:=ag db;clear db;go_wp2;go_roundw;exact⟨k+1,a,af,by go_num,rfl,af,qV,by first|rfl|trivial⟩;exact cg}};{
 have bL:=dB k n;have Cu:k=n:=af;subst Cu;clear hk bf;by_cases ha:a=0;{
 subst ha;have rz:Hid (eG l=[47]):=by show _=_;rw[eG,ae en,ae hls,bO rfl]
 have hcv:=Lib.run_convert_bytes_const (P:=prog) wr 22 5 #[.int .u8 47] 1 1 underlying22 underlying5;go_wp2;go_ret;refine⟨_,_,_,rfl,by rw[ae rz];rfl,af,?_,aA.alloc ay _⟩;rw[ae rz];refine⟨_,_,rfl,.inr ⟨wr.heap.size,0,rfl,λi hi=>?_⟩⟩
 match i,hi with
 |0,_=>(rw[ly,ay2];rfl)}
 {
 have Tr:((a:Int)==0)=false:=by simp[ha]
 have rz:Hid (eG l=l.take a):=by show _=_;rw[eG,ae en,ae hls,bH ha]
 obtain⟨b,o,rfl,-,-⟩:=HR.at (by rw[ae en];omega);have g1:=iC a k;have g2:=iC a c;have HRC:=HR.cut 0 a (gr _) (by rw[ae en];omega) (some (Ad b o)) (.inr rfl) c (l.take a) al;have HRD:=ag HRC;clear HRC;go_wp2;go_ret;exact⟨_,_,_,rfl,by rw[ae rz,pT,ae en];omega,af,by rw[ae rz];exact ae HRD,cQ _ _⟩}}}
def nR(v:Value):Prop:=∃p n c,v=.S p n c/\n<=c/\c<=maxLen
structure rG(w:World)(b a:Nat)(nd:aD)(P V H U:Value):Prop where
 c0:w.cell? (Ad b a)=some P
 c1:w.cell? (Ad b (a+1))=some V
 c2:w.cell? (Ad b (a+2))=some (.U nd.owner)
 c3:w.cell? (Ad b (a+3))=some (.I nd.mode)
 c4:w.cell? (Ad b (a+4))=some H
 c5:w.cell? (Ad b (a+5))=some (.U nd.aE)
 c6:w.cell? (Ad b (a+6))=some (.U nd.gen)
 c7:w.cell? (Ad b (a+7))=some U
 r0:Rd w P nd.path
 r1:Rd w V nd.value
 r4:oK w H nd.holders
 r7:oK w U nd.watchers
 k0:nR P
def rG.below{nd:aD}{P V H U:Value}(h:rG w b a nd P V H U)(hb:Bw w w'):rG w' b a nd P V H U:=
 ⟨ah h.c0 hb,ah h.c1 hb,ah h.c2 hb,ah h.c3 hb,ah h.c4 hb,ah h.c5 hb,ah h.c6 hb,ah h.c7 hb,h.r0.below hb,h.r1.below hb,h.r4.below hb,h.r7.below hb,h.k0⟩
def lM(w:World)(v:Value)(ns:List aD):Prop:=
 ∃(p:OA)(c:Nat),v=.S p ns.length c/\(ns=[]\/∃b o,p=some (Ad b o)/\∀i nd,ns[i]?=some nd->∃P V H U,rG w b (o+i*8) nd P V H U)
def lM.below{ns:List aD}(h:lM w v ns)(hb:Bw w w'):lM w' v ns:=by
 obtain⟨p,c,rfl,h⟩:=h;refine⟨p,c,rfl,?_⟩;rcases h with h|⟨b,o,rfl,h⟩;{exact .inl h};{
 refine .inr ⟨b,o,rfl,λi e he=>?_⟩
 let⟨P,V,H,U,h1⟩:=h i e he
 exact⟨P,V,H,U,h1.below hb⟩}
abbrev Yt(P V:Value)(ow mo:Int)(H:Value)(ep ge:Int)(U:Value):Value:=.agg #[P,V,.U ow,.I mo,H,.U ep,.U ge,U]
def ew(e g mo:Int)(nh:Nat)(ep ge:Int):Bool:=
 if mo=1 then nh==1&&(decide (1<=ge)&&(decide (ge<=g)&&decide (ep<=e)))else ep==0&&(ge==0&&(if mo=0 then nh==0 else mo==2&&decide (1<=nh)))
def Af{e ow mo ep ge:Int}{S N P V U:Value}(hn:Mg n)(eB:Hid (ew e g mo n ep ge=B)):Calls prog 136 #[dZ e g x t S N,Yt P V ow mo (.S p n c) ep ge U] w (Rb (.bool B) w):=by
 go_in
 go_wp2_with fail
 all_goals(
  go_ret;refine⟨?_,(aA.alloc ay _).alloc al _⟩;rw[<-ae eB];simp only[ew,ai9,al3])
 all_goals first|(simp_all;done)|(simp_all;omega)|skip
 all_goals(
  show Value.bool ((n:Int)==0)=Value.bool _
  congr 1
  have e0:mo=0:=(by simpa using ‹(mo==0)=true›);have e1:ge=0:=(by simpa using ‹(ge != 0)=false›);subst e0 e1;rw[GO]
  simp_all)
def lM.at{ns:List aD}(h:lM w (.S p n c) ns)(hl:0<ns.length):∃b o,p=some (Ad b o)/\∀i nd,ns[i]?=some nd->∃P V H U,rG w b (o+i*8) nd P V H U:=by
 obtain⟨p',c',ev,hd⟩:=h;obtain⟨rfl,-,-⟩:=ir ev;rcases hd with h0|⟨b,o,h1,h2⟩;{rw[h0]at hl;simp at hl};{exact⟨b,o,h1,h2⟩}
def Rd.gF(h:Rd w v l):∃p c n,v=.S p n c/\Le l n:=by
 obtain⟨p,c,rfl,-⟩:=h;exact⟨p,c,_,rfl,bD⟩
def List.jK{α:Type}{ns:List α}{y:α}(h:ns[k]?=some y):y::ns.drop (k+1)=ns.drop k:=by
 obtain⟨hk,rfl⟩:=aV.1 h;exact(MH hk).symm
def gS(ns:List aD)(l:LI):Option aD:=ns.find? λnd=>decide (nd.path=l)
variable {m:Nat}
def xX{e:Int}{d:Nat}{ns:List aD}(en:Le ns n)(em:Le l m)(h:lM w (.S p n c) ns)(hl:Rd w (.S q m d) l)(hn:Mg n)(hm:m<=2097152)(gh:Hid (aN l/\∀nd∈ns,aN nd.path)):Calls prog 184 #[dZ e g x t S (.S p n c),.S q m d] w λr w'=>((∃(k:Nat)(nd:aD),r=.returned (.I k)/\k<n/\ns[k]?=some nd/\gS ns l=some nd)\/(r=.returned (.I (-1))/\gS ns l=none))/\Bw w w':=by
 have HR:=ag λ(w':World)(hb:Bw w w')=>ai (h.below hb) (hl.below hb)
 go_in
 go_wp2_with fail
 let⟨W,hW⟩:=aB (w.alloc (.cells #[.U e,.U g,.U x,.I t,S,.S p n c] 41))
 have bW:=dX hW;have DC:W.cell? (Ad w.heap.size 5)=some (.S p n c):=by rw[hW];simp
 rw[<-hW];have BW:=ag bW;have HC5:=ag DC
 go_loopw[5](λiv wr=>∃k:Nat,k<=n/\iv=.I k/\Hid (gS (ns.take k) l=none)/\Bw W wr) (λiv _=>n-(intOf iv).toNat)
 exact⟨0,gr _,rfl,bD,cQ _ _⟩;{
 obtain⟨k,hk,rfl,me,aM⟩:=hrel;have BB:=aj BW aM;have i5:=ah HC5 aM;by_cases bf:k<n;{
 have bL:=aU k n;have dT:k<ns.length:=ae en▸bf
 let⟨hN,hL⟩:=ae HR _ BB
 obtain⟨b,o,rfl,hA⟩:=hN.at af
 let⟨nd,hy⟩:=lE dT
 let⟨P,V,H,U,bu⟩:=hA k nd hy
 have hP:=bu.c0;have YJ:=bu.r0;obtain⟨pp,pc,pn,rfl,Nu⟩:=YJ.gF;have hBP:=gh.2 nd (aT hy);have HY:=ag hy;have HRP:=ag YJ;have HBP:=ag hBP;have HLL:=ag hL;go_wp2_with fail;refine(jS Nu em HRP HLL HBP gh.1).mono ?_;rintro r w2⟨rfl,aK⟩;by_cases rz:nd.path=l;{
 rw[show decide (nd.path=l)=true by simp[rz]];have hF:Hid (gS ns l=some nd):=by
  show _=_;have e1:ns=ns.take k++nd::ns.drop (k+1):=by rw[List.jK (ae HY),Dn]
  rw[e1,gS,List.find?_append,show(ns.take k).find? (λnd=>decide (nd.path=l))=none from ae me];simp[rz]
 have b2:=aj BB aK;go_wp2;go_ret;exact⟨.inl ⟨k,nd,rfl,bf,HY,hF⟩,b2⟩};{
 rw[show decide (nd.path=l)=false by simp[rz]];have ap8:Hid (gS (ns.take (k+1)) l=none):=by show _=_;rw[od,ae HY,gS,List.find?_append,show(ns.take k).find? (λnd=>decide (nd.path=l))=none from ae me];simp[rz]
 have b2:=aj aM aK;go_wp2;go_roundw;exact⟨k+1,af,by go_num,ap8,b2⟩;exact cg}};{
 have bL:=dB k n;have hF:Hid (gS ns l=none):=by show _=_;have:=ae me;rwa [lD (by rw[ae en];omega)]at this
 go_wp2;go_ret;exact⟨.inr ⟨rfl,hF⟩,BB⟩}}
def dV(ns:List aD)(l:LI):Bool:=if l=[47]then true else match gS ns l with|some nd=>nd.owner==0|none=>false
theorem jN{e:Int}{d:Nat}{ns:List aD}(en:Le ns n)(em:Le l m)(h:lM w (.S p n c) ns)(hl:Rd w (.S q m d) l)(hn:Mg n)(hm:m<=2097152)(gh:Hid (aN l/\∀nd∈ns,aN nd.path))(eB:Hid (dV ns l=B)):Calls prog 132 #[dZ e g x t S (.S p n c),.S q m d] w (Rb (.bool B) w):=by
 have HR:=ag λ(w':World)(hb:Bw w w')=>ai (h.below hb) (hl.below hb);clear h hl
 let⟨W,hW⟩:=aB (w.alloc (.cells #[.U e,.U g,.U x,.I t,S,.S p n c] 41))
 have bW:=dX hW;have sW:W.heap.size=w.heap.size+1:=by rw[hW];simp
 have DC:jD W w.heap.size e g x t S (.S p n c):=by rw[hW];simp[jD]
 have hcv:=Lib.run_convert_bytes_const (P:=prog) W 22 5 #[.int .u8 47] 1 1 underlying22 underlying5;simp only[show(#[Value.int .u8 47]:Array Value).size=1 from rfl]at hcv
 let⟨X,hX⟩:=aB (W.alloc (.cells #[.int .u8 47] 5 (1,1+1)))
 have rX:Rd X (.T (w.heap.size+1) 1 1) [47]:=by
  rw[hX,<-sW];refine⟨_,_,rfl,.inr ⟨W.heap.size,0,rfl,λi hi=>?_⟩⟩
  match i,hi with
  |0,_=>(rw[ly,ay2];rfl)
 have bX:Bw w X:=hX▸bW.alloc af _;have iX:jD X w.heap.size e g x t S (.S p n c):=DC.below (hX▸aA.alloc ay _);rw[<-hX,sW,hW]at hcv;clear sW DC bW hX hW;have RX:=ag rX;have BX:=ag bX;have IX:=ag iX;clear rX bX iX
 go_in
 go_wp2_with fail;refine(jS em bD (ae HR _ (ae BX)).2 (ae RX) gh.1 (by intro x hx;simp at hx;omega)).mono ?_;rintro r w2⟨rfl,aK⟩;have b2:=aj BX aK
 let⟨j0,j1,j2,j3,j4,j5⟩:=IX.below aK
 clear hcv aK;by_cases qF:l=[47];{
 rw[show decide (l=[47])=true by simp[qF]];have eT:B=true:=by rw[<-ae eB,dV,bO qF]
 subst eT;clear qF;go_wp2;go_ret;exact⟨rfl,b2⟩};{
 rw[show decide (l=[47])=false by simp[qF]];have hB:(match gS ns l with|some nd=>nd.owner==0|none=>false)=B:=by rw[<-ae eB,dV,bH qF]
 have HB:=ag hB;clear hB qF;go_wp2_with fail;refine(xX en em (ae HR _ b2).1 (ae HR _ b2).2 hn hm gh).mono ?_;rintro r w3⟨hr,br⟩;have b3:=aj b2 br;have k5:=ah j5 br;clear j0 j1 j2 j3 j4 j5 br;rcases hr with⟨k,nd,rfl,hk,hy,hF⟩|⟨rfl,hF⟩;{
 rw[hF]at HB;have dT:k<ns.length:=ae en▸hk;obtain⟨b,o,rfl,hA⟩:=(ae HR _ b3).1.at af
 let⟨P,V,H,U,bu⟩:=hA k nd hy
 have hO:=bu.c2;have hk':=aU k n;have Tn:=dC 0 k;clear hA bu dT hy hF;cases B with
 |true=>
  have ho:nd.owner=0:=by have:=ae HB;simpa using this
  rw[ho]at hO;clear ho;go_wp2;go_ret;exact⟨rfl,b3⟩
 |false=>
  have ho:(nd.owner==0)=false:=ae HB;go_wp2;go_ret;exact⟨rfl,b3⟩};{rw[hF]at HB;have eF:B=false:=HB.symm;subst eF;clear hF;go_wp2;go_ret;exact⟨rfl,b3⟩}}
def leB(l m:LI):Bool:=Op.bytesLess (aP l).toList (aP m).toList||(aP l).toList==(aP m).toList
def fU:aD:=⟨[],[],0,0,[],0,0,[]⟩
def lI(e g:Int)(ss:List aQ)(ns:List aD)(k:Nat):Bool:=
 let nd:=ns.getD k fU
 (vp nd.path&&(k==0||!leB nd.path (ns.getD (k-1) fU).path))&&(dV ns (eG nd.path)&&(decide (nd.value.length<=40)&&((nd.owner==0||live ss nd.owner)&&(iK ss nd.holders&&(iK ss nd.watchers&&ew e g nd.mode nd.holders.length nd.aE nd.gen)))))
def rW(h:aN l):aN (eG l):=by
 unfold eG;split;{intro x hx;simp at hx;omega};{exactλx hx=>h x (GR hx)}
def oK.gF(h:oK w v l):∃p c n,v=.S p n c/\Le l n:=by
 obtain⟨p,c,rfl,-⟩:=h;exact⟨p,c,_,rfl,bD⟩
theorem MR{e:Int}{d:Nat}{ss:List aQ}{ns:List aD}(en:Le ss n)(em:Le ns m)(h:vk w (.S p n c) ss)(hN:lM w (.S q m d) ns)(hn:Mg n)(hm:Mg m)(hk:k<m)(gh:Hid (∀nd∈ns,aN nd.path/\nd.path.length<=1048576/\nd.value.length<=1048576/\nd.holders.length<=1048576/\nd.watchers.length<=1048576))(eB:Hid (lI e g ss ns k=B)):Calls prog 68 #[dZ e g x t (.S p n c) (.S q m d),.I k] w (Rb (.bool B) w):=by
 have HR:=ag λ(w':World)(hb:Bw w w')=>ai (h.below hb) (hN.below hb);have dT:k<ns.length:=ae em▸hk
 let⟨nd,hy⟩:=lE dT
 have Ri:ns.getD k fU=nd:=by rw[gj,hy];rfl
 obtain⟨b,o,rfl,hA⟩:=hN.at af
 let⟨P,V,H,U,bu⟩:=hA k nd hy
 let⟨Cl,jg,hB3,hB4,hB5⟩:=ae gh _ (aT hy)
 obtain⟨pp,pc,pn,rfl,Nu⟩:=bu.r0.gF;obtain⟨vp',vc,vn,rfl,eVn⟩:=bu.r1.gF;obtain⟨hp,hc,hh,rfl,Vz⟩:=bu.r4.gF;obtain⟨up,uc,un,rfl,Y9⟩:=bu.r7.gF;have YK:pn<=1048576:=ae Nu▸jg;have hvn:vn<=1048576:=ae eVn▸hB3;have ZS:hh<=1048576:=ae Vz▸hB4;have ZN:un<=1048576:=ae Y9▸hB5;have hk':=aU k m;have cA9:=dC 0 k;have b1:Bw w (w.alloc (.cells #[.U e,.U g,.U x,.I t,.S p n c,.S (some (Ad b o)) m d] 41)):=aA.alloc ay _;have cz1:=bu.below b1;obtain⟨c0,c1,c2,c3,c4,c5,c6,c7,-,-,-,-,-⟩:=cz1;have HYD:=ag Ri;have HND:=ag bu;have HBP:=ag Cl;have HA:=ag hA
 go_in
 go_wp2_with fail
 let⟨X,hX⟩:=aB ((w.alloc (.cells #[.U e,.U g,.U x,.I t,.S p n c,.S (some (Ad b o)) m d] 41)).alloc (.cells #[.S pp pn pc,.S vp' vn vc,.U nd.owner,.I nd.mode,.S hp hh hc,.U nd.aE,.U nd.gen,.S up un uc] 133))
 have bX:Bw w X:=hX▸b1.alloc al _;have iX:jD X w.heap.size e g x t (.S p n c) (.S (some (Ad b o)) m d):=by rw[hX];simp[jD]
 have nX:rG X (w.heap.size+1) 0 nd (.S pp pn pc) (.S vp' vn vc) (.S hp hh hc) (.S up un uc):=
  ⟨by rw[hX];simp,by rw[hX];simp,by rw[hX];simp,by rw[hX];simp,by rw[hX];simp,by rw[hX];simp,by rw[hX];simp,by rw[hX];simp,HND.r0.below bX,HND.r1.below bX,HND.r4.below bX,HND.r7.below bX,HND.k0⟩
 rw[<-hX];have BX:=ag bX;have IX:=ag iX;have NX:=ag nX
 let⟨V1,eV⟩:=aL (vp nd.path)
 have EV:=ag eV;obtain⟨C,eC⟩:∃C,(!(V1&&(k==0||!leB nd.path (ns.getD (k-1) fU).path)))=C:=⟨_,rfl⟩;have hB:B=(!C&&(dV ns (eG nd.path)&&(decide (nd.value.length<=40)&&((nd.owner==0||live ss nd.owner)&&(iK ss nd.holders&&(iK ss nd.watchers&&ew e g nd.mode nd.holders.length nd.aE nd.gen)))))):=by rw[<-ae eB,lI,ae HYD,<-eC,al2,show vp nd.path=V1 from ae EV]
 go_cut[32](λrv wc=>rv=.bool C/\Bw w wc/\jD wc w.heap.size e g x t (.S p n c) (.S (some (Ad b o)) m d)/\rG wc (w.heap.size+1) 0 nd (.S pp pn pc) (.S vp' vn vc) (.S hp hh hc) (.S up un uc))
 case first=>(
 cases V1 with
 |false=>
  have Zb:C=true:=by rw[<-eC];rfl
  subst Zb;refine du (λw'=>w'.cell? (Ad (w.heap.size+1) 0)=some (.S pp pn pc)/\w'.cell? (Ad w.heap.size 5)=some (.S (some (Ad b o)) m d)/\Rd w' (.S pp pn pc) nd.path) (by exact⟨NX.c0,IX.2.2.2.2.2,NX.r0⟩) λhS=>?_;refine jR 0 1 hS ?_;refine ry [2] ?_;refine cn (λKK hK=>?_) ?_;{refine iw (FN Nu (by exact NX.r0) HBP YK EV) ?_;rintro r w2⟨rfl,aK⟩;refine⟨_,rfl,?_⟩;have bN:Bw X w2:=aj (cQ X.heap.size X).drew aK;refine fh hK (by exact⟨ah NX.c0 bN,ah IX.2.2.2.2.2 bN,NX.r0.below bN⟩) λhS=>?_;refine jR 3 4 hS ?_;refine oQ 5 6 7 8 hS ?_;refine oQ 9 10 11 12 hS ?_;refine oQ 13 14 15 16 hS ?_;refine oQ 17 18 19 20 hS ?_;refine tn 21 hS ?_;refine cY ?_;go_wp2_with fail;go_meet;exact⟨rfl,aj BX bN,IX.below bN,NX.below bN⟩};exact eh
 |true=>
  by_cases Tn:k=0;{
 have Zb:C=false:=by rw[<-eC,Tn];rfl
 subst Zb;have hp':¬0<k:=af;have dP4:¬(0:Int)<(k:Int):=af;clear eC Tn;refine du (λw'=>w'.cell? (Ad (w.heap.size+1) 0)=some (.S pp pn pc)/\w'.cell? (Ad w.heap.size 5)=some (.S (some (Ad b o)) m d)/\Rd w' (.S pp pn pc) nd.path) (by exact⟨NX.c0,IX.2.2.2.2.2,NX.r0⟩) λhS=>?_;refine jR 0 1 hS ?_;refine cX 2 λKK hK=>?_;refine iw (FN Nu (by exact NX.r0) HBP YK EV) ?_;rintro r w2⟨rfl,aK⟩;refine⟨_,rfl,?_⟩;have bN:Bw X w2:=aj (cQ X.heap.size X).drew aK;refine fh hK (by exact⟨ah NX.c0 bN,ah IX.2.2.2.2.2 bN,NX.r0.below bN⟩) λhS=>?_;clear hK KK;refine lG 3 4 5 6 hS ?_;refine tn 7 hS ?_;refine oQ 8 9 10 11 hS ?_;refine oQ 12 13 14 15 hS ?_;refine oQ 16 17 18 19 hS ?_;refine jR 20 21 hS ?_;refine cY ?_;clear hS;go_wp2_with fail;go_meet;exact⟨rfl,aj BX bN,IX.below bN,NX.below bN⟩};{
 obtain⟨j,ej⟩:∃j:Nat,(k:Int)-1=(j:Int):=⟨k-1,af⟩;have Y8:k-1=j:=af;have Al:j<ns.length:=af
 let⟨zd,hz⟩:=lE Al
 have hzD:ns.getD j fU=zd:=by rw[gj,hz];rfl
 let⟨Z,Z1,Z2,Z3,hzn⟩:=ae HA j zd hz
 obtain⟨zp,zc,zn,rfl,eZn⟩:=hzn.r0.gF;have KZ:=ag (ah hzn.c0 BX);have RZ:=ag (hzn.r0.below BX);have hpk:0<k:=af;have dP2:=mW 0 k;have hjm:=aU j m;have hj0:=dC 0 j;have wj:=e8 j;rw[Y8,hzD,show(k==0)=false by simp[Tn],pQ,Ks,al2]at eC;have HLE:Hid ((Op.bytesLess (aP nd.path).toList (aP zd.path).toList||(aP nd.path).toList==(aP zd.path).toList)=C):=eC;clear hz hzD Al hzn Y8 Tn eC;refine du (λw'=>w'.cell? (Ad (w.heap.size+1) 0)=some (.S pp pn pc)/\w'.cell? (Ad w.heap.size 5)=some (.S (some (Ad b o)) m d)/\Rd w' (.S pp pn pc) nd.path/\w'.cell? (Ad b (o+j*8))=some (.S zp zn zc)/\Rd w' (.S zp zn zc) zd.path) (by exact⟨NX.c0,IX.2.2.2.2.2,NX.r0,KZ,RZ⟩) λhS=>?_;refine jR 0 1 hS ?_;refine ry [2] ?_;refine cn (λKK hK=>?_) ?_;{
 refine iw (FN Nu (by exact NX.r0) HBP YK EV) ?_;rintro r w2⟨rfl,aK⟩;refine⟨_,rfl,?_⟩;have bN:Bw X w2:=aj (cQ X.heap.size X).drew aK;refine fh hK (by exact⟨ah NX.c0 bN,ah IX.2.2.2.2.2 bN,NX.r0.below bN,ah KZ bN,RZ.below bN⟩) λhS=>?_;clear hK KK;refine lG 3 4 5 6 hS ?_;refine jR 7 8 hS ?_;refine tn 9 hS ?_;refine xh (i:=10) (oi:=_) (v:=?_) (by simp only[xU,BM,BK];rfl) bg bg bg (λ_ _ _ h=>h) (Or.inl ⟨aJ,?_⟩) hS ?_;rotate_left;{(intro w' xx;(try dsimp only at xx);have hcv:=dQ (ae Nu) xx.2.2.1;go_simp;try with_reducible rfl)}
 simp only[Act.put,xa,xb,xc];refine lG 11 12 13 14 hS ?_;refine jR 15 16 hS ?_;refine tn 17 hS ?_;refine xh (i:=18) (oi:=_) (v:=?_) (by simp only[xU,BM,BK];rfl) bg bg bg (λ_ _ _ h=>h) (Or.inl ⟨aJ,?_⟩) hS ?_;rotate_left;{(intro w' xx;(try dsimp only at xx);have hcv:=dQ (ae eZn) xx.2.2.2.2;go_simp;try with_reducible rfl)}
 simp only[Act.put,xa,xb,xc];refine xh (i:=19) (oi:=_) (v:=?_) (by simp only[xU,BM,BK];rfl) bg bg bg (λ_ _ _ h=>h) (Or.inl ⟨aJ,?_⟩) hS ?_;rotate_left;{(intro w' xx;(try dsimp only at xx);have hle:=ae HLE;go_simp;try with_reducible rfl)}
 simp only[Act.put,xa,xb,xc];refine jR 20 21 hS ?_;refine cY ?_;clear hS;go_wp2_with fail;go_meet;exact⟨rfl,aj BX bN,IX.below bN,NX.below bN⟩};exact eh})
 obtain⟨rfl,En,⟨i0,i1,i2,i3,i4,i5⟩,xv⟩:=hcut;have AL:=ag xv;obtain⟨c0,c1,c2,c3,c4,c5,c6,c7,-,-,-,-,-⟩:=xv;clear EV HA HND NX IX BX;cases C with
 |true=>
  have eF:B=false:=by rw[hB];rfl
  subst eF;clear hB eC;go_wp2;go_ret;exact⟨rfl,En⟩
 |false=>
  rw[al1,pQ]at hB;have HB:=ag hB;clear hB eC;go_wp2_with fail
  let⟨pa,pb,pd,epp,hpc,hpm⟩:=AL.k0
  obtain⟨rfl,rfl,rfl⟩:=ir epp;have I6:Hid (jD wc w.heap.size e g x t (.S p n c) (.S (some (Ad b o)) m d)):=⟨i0,i1,i2,i3,i4,i5⟩;have hcp:∀(vs:Array Value)(w:World),(callFunc 133 vs).run prog w=.ok (.enter 133 vs) w:=λvs w=>bg;have HCP:=ag hcp;have Fc:∀(vs:Array Value)(w:World),(callFunc 132 vs).run prog w=.ok (.enter 132 vs) w:=λvs w=>bg;have uq:=ag Fc;have HBN:Hid (aN (eG nd.path)/\∀nd∈ns,aN nd.path):=⟨rW HBP,λnd h=>(ae gh nd h).1⟩;clear i0 i1 i2 i3 i4 i5 c0 c1 c2 c3 c4 c5 c6 c7 hcp Fc
  let⟨C2,eC2⟩:=aL (dV ns (eG nd.path))
  have EC2:=ag eC2;obtain⟨C3,eC3⟩:∃C3,(!(C2&&decide (nd.value.length<=40)))=C3:=⟨_,rfl⟩;have jg:B=(!C3&&((nd.owner==0||live ss nd.owner)&&(iK ss nd.holders&&(iK ss nd.watchers&&ew e g nd.mode nd.holders.length nd.aE nd.gen)))):=by rw[ae HB,eC2,<-eC3,al2,Bool.and_assoc]
  rw[ae eVn]at eC3;clear eC2 HB
  go_cut[44](λrv w'=>rv=.bool C3/\Bw w w'/\jD w' w.heap.size e g x t (.S p n c) (.S (some (Ad b o)) m d)/\rG w' (w.heap.size+1) 0 nd (.S pp pn pc) (.S vp' vn vc) (.S hp hh hc) (.S up un uc))
  case first=>(
 clear jg;cases C2 with
 |false=>
  have Zb:C3=true:=by rw[<-eC3];rfl
  subst Zb;clear eC3;refine du (λw'=>jD w' w.heap.size e g x t (.S p n c) (.S (some (Ad b o)) m d)/\w'.cell? (Ad (w.heap.size+1) 0)=some (.S pp pn pc)/\w'.cell? (Ad (w.heap.size+1) 1)=some (.S vp' vn vc)) (by exact⟨I6,AL.c0,AL.c1⟩) λhS=>?_;refine jR 0 1 hS ?_;refine tn 2 hS ?_;refine ry [3] ?_;refine cn (λKK hK=>?_) ?_;{refine im aJ aJ aJ (λ_=>ae HCP _ _) (kY Nu (by exact AL.r0) YK hpc hpm) ?_;rintro r w2⟨q',m',d',rfl,em',hm',hr',aK⟩;refine⟨_,rfl,?_⟩;have bN:Bw wc w2:=aj (cQ wc.heap.size wc).drew aK;refine fh hK (by exact⟨I6.below bN,ah AL.c0 bN,ah AL.c1 bN⟩) λhS=>?_;clear hK KK;refine cX 4 λKK hK=>?_;refine lT aJ aJ aJ aJ (λ_=>ae uq _ _) (jN em em' (ae HR _ (aj En bN)).2 hr' hm af HBN EC2) ?_;rintro r w3⟨rfl,br⟩;refine⟨_,rfl,?_⟩;have fy:Bw wc w3:=aj bN br;refine fh hK (by exact⟨I6.below fy,ah AL.c0 fy,ah AL.c1 fy⟩) λhS=>?_;clear hK KK;refine jR 5 6 hS ?_;refine oQ 7 8 9 10 hS ?_;refine tn 11 hS ?_;refine cY ?_;clear hS;go_wp2_with fail;go_meet;exact⟨rfl,aj En fy,I6.below fy,AL.below fy⟩};exact eh
 |true=>
  by_cases h40:vn<=40;{
 have Zb:C3=false:=by rw[<-eC3];simp[h40]
 subst Zb;have cJ6:¬(40:Int)<(vn:Int):=af;clear eC3;refine du (λw'=>jD w' w.heap.size e g x t (.S p n c) (.S (some (Ad b o)) m d)/\w'.cell? (Ad (w.heap.size+1) 0)=some (.S pp pn pc)/\w'.cell? (Ad (w.heap.size+1) 1)=some (.S vp' vn vc)) (by exact⟨I6,AL.c0,AL.c1⟩) λhS=>?_;refine jR 0 1 hS ?_;refine tn 2 hS ?_;refine cX 3 λKK hK=>?_;refine im aJ aJ aJ (λ_=>ae HCP _ _) (kY Nu (by exact AL.r0) YK hpc hpm) ?_;rintro r w2⟨q',m',d',rfl,em',hm',hr',aK⟩;refine⟨_,rfl,?_⟩;have bN:Bw wc w2:=aj (cQ wc.heap.size wc).drew aK;refine fh hK (by exact⟨I6.below bN,ah AL.c0 bN,ah AL.c1 bN⟩) λhS=>?_;clear hK KK;refine cX 4 λKK hK=>?_;refine lT aJ aJ aJ aJ (λ_=>ae uq _ _) (jN em em' (ae HR _ (aj En bN)).2 hr' hm af HBN EC2) ?_;rintro r w3⟨rfl,br⟩;refine⟨_,rfl,?_⟩;have fy:Bw wc w3:=aj bN br;refine fh hK (by exact⟨I6.below fy,ah AL.c0 fy,ah AL.c1 fy⟩) λhS=>?_;clear hK KK;refine lG 5 6 7 8 hS ?_;refine jR 9 10 hS ?_;refine tn 11 hS ?_;refine cY ?_;clear hS;go_wp2_with fail;go_meet;exact⟨rfl,aj En fy,I6.below fy,AL.below fy⟩};{
 have Zb:C3=true:=by rw[<-eC3];simp[h40]
 subst Zb;have cJ6:=mW 40 vn;clear eC3;refine du (λw'=>jD w' w.heap.size e g x t (.S p n c) (.S (some (Ad b o)) m d)/\w'.cell? (Ad (w.heap.size+1) 0)=some (.S pp pn pc)/\w'.cell? (Ad (w.heap.size+1) 1)=some (.S vp' vn vc)) (by exact⟨I6,AL.c0,AL.c1⟩) λhS=>?_;refine jR 0 1 hS ?_;refine tn 2 hS ?_;refine ry [3] ?_;refine cn (λKK hK=>?_) ?_;{refine im aJ aJ aJ (λ_=>ae HCP _ _) (kY Nu (by exact AL.r0) YK hpc hpm) ?_;rintro r w2⟨q',m',d',rfl,em',hm',hr',aK⟩;refine⟨_,rfl,?_⟩;have bN:Bw wc w2:=aj (cQ wc.heap.size wc).drew aK;refine fh hK (by exact⟨I6.below bN,ah AL.c0 bN,ah AL.c1 bN⟩) λhS=>?_;clear hK KK;refine cX 4 λKK hK=>?_;refine lT aJ aJ aJ aJ (λ_=>ae uq _ _) (jN em em' (ae HR _ (aj En bN)).2 hr' hm af HBN EC2) ?_;rintro r w3⟨rfl,br⟩;refine⟨_,rfl,?_⟩;have fy:Bw wc w3:=aj bN br;refine fh hK (by exact⟨I6.below fy,ah AL.c0 fy,ah AL.c1 fy⟩) λhS=>?_;clear hK KK;refine lG 5 6 7 8 hS ?_;refine jR 9 10 hS ?_;refine tn 11 hS ?_;refine cY ?_;clear hS;go_wp2_with fail;go_meet;exact⟨rfl,aj En fy,I6.below fy,AL.below fy⟩};exact eh})
  obtain⟨rfl,hbd,⟨i0,i1,i2,i3,i4,i5⟩,bI7⟩:=hcut;have AZ:=ag bI7;obtain⟨c0,c1,c2,c3,c4,c5,c6,c7,-,-,-,-,-⟩:=bI7;clear I6 AL HCP uq HBN EC2 eC3;cases C3 with
  |true=>
   have eF:B=false:=by rw[jg];rfl
   subst eF;clear jg;go_wp2;go_ret;exact⟨rfl,hbd⟩
  |false=>
   rw[al1,pQ]at jg
   let⟨ow,eo⟩:=aL nd.owner
   rw[eo]at jg c2;clear eo;by_cases ho:ow=0;{
 subst ho;have AM:Hid (B=(iK ss nd.holders&&(iK ss nd.watchers&&ew e g nd.mode nd.holders.length nd.aE nd.gen))):=jg;clear jg
 let⟨T1,eT1⟩:=aL (iK ss nd.holders)
 let⟨T2,eT2⟩:=aL (iK ss nd.watchers)
 let⟨T3,eT3⟩:=aL (ew e g nd.mode hh nd.aE nd.gen)
 have ET1:=ag eT1;have ET2:=ag eT2;have ET3:=ag eT3;have Tb:Hid (B=(T1&&(T2&&T3))):=by show _=_;rw[ae AM,eT1,eT2,ae Vz,eT3]
 clear eT1 eT2 eT3 AM;go_wp2_with fail;refine(qP en Vz (ae HR _ hbd).1 AZ.r4 hn ZS ET1).mono ?_;rintro r wa⟨rfl,uZ⟩;have Ba:=aj hbd uZ;have HNa:=ag (AZ.below uZ);cases T1 with
 |false=>
  have eF:B=false:=by rw[ae Tb];rfl
  subst eF;clear Tb;go_wp2;go_ret;exact⟨rfl,Ba⟩
 | true=>
  have a0:=ah i0 uZ;have a1:=ah i1 uZ;have a2:=ah i2 uZ;have a3:=ah i3 uZ;have a4:=ah i4 uZ;have a5:=ah i5 uZ;have d0:=ah c0 uZ;have d1:=ah c1 uZ;have d2:=ah c2 uZ;have d3:=ah c3 uZ;have d4:=ah c4 uZ;have d5:=ah c5 uZ;have d6:=ah c6 uZ;have d7:=ah c7 uZ;clear i0 i1 i2 i3 i4 i5 c0 c1 c2 c3 c4 c5 c6 c7 uZ;go_wp2_with fail;refine(qP en Y9 (ae HR _ Ba).1 HNa.r7 hn ZN ET2).mono ?_;rintro r wb⟨rfl,oF⟩;have Bb:=aj Ba oF;cases T2 with
  |false=>
   have eF:B=false:=by rw[ae Tb];rfl
   subst eF;clear Tb;go_wp2;go_ret;exact⟨rfl,Bb⟩
  |true=>
   have eT:B=T3:=by rw[ae Tb];rfl
   subst eT;have f0:=ah a0 oF;have f1:=ah a1 oF;have f2:=ah a2 oF;have f3:=ah a3 oF;have f4:=ah a4 oF;have f5:=ah a5 oF;have g0:=ah d0 oF;have g1:=ah d1 oF;have g2:=ah d2 oF;have g3:=ah d3 oF;have g4:=ah d4 oF;have g5:=ah d5 oF;have g6:=ah d6 oF;have g7:=ah d7 oF;clear a0 a1 a2 a3 a4 a5 d0 d1 d2 d3 d4 d5 d6 d7 oF Tb;go_wp2_with fail;refine(Af ZS ET3).mono ?_;rintro r wd⟨rfl,as4⟩;have Bd:=aj Bb as4;clear as4 f0 f1 f2 f3 f4 f5 g0 g1 g2 g3 g4 g5 g6 g7;go_wp2;go_ret;exact⟨rfl,Bd⟩};{
 have hod:(ow==0)=false:=by simp[ho]
 have dP6:(ow != 0)=true:=by simp[ho]
 rw[hod,Ks]at jg
 let⟨L,eL⟩:=aL (live ss ow)
 have EL:Hid ((ss.any λs=>s.1==ow)=L):=eL;rw[eL]at jg;have AM:=ag jg;clear jg eL;go_wp2_with fail;refine(qc en (ae HR _ hbd).1 hn EL).mono ?_;rintro r w2⟨rfl,aK⟩;have b2:=aj hbd aK;cases L with
 |false=>
  have eF:B=false:=by rw[ae AM];rfl
  subst eF;clear AM;go_wp2;go_ret;exact⟨rfl,b2⟩
 | true=>
  have AM:Hid (B=(iK ss nd.holders&&(iK ss nd.watchers&&ew e g nd.mode nd.holders.length nd.aE nd.gen))):=ae AM;have HN3:=ag (AZ.below aK);replace i0:=ah i0 aK;replace i1:=ah i1 aK;replace i2:=ah i2 aK;replace i3:=ah i3 aK;replace i4:=ah i4 aK;replace i5:=ah i5 aK;replace c0:=ah c0 aK;replace c1:=ah c1 aK;replace c2:=ah c2 aK;replace c3:=ah c3 aK;replace c4:=ah c4 aK;replace c5:=ah c5 aK;replace c6:=ah c6 aK;replace c7:=ah c7 aK;clear aK
  let⟨T1,eT1⟩:=aL (iK ss nd.holders)
  let⟨T2,eT2⟩:=aL (iK ss nd.watchers)
  let⟨T3,eT3⟩:=aL (ew e g nd.mode hh nd.aE nd.gen)
  have ET1:=ag eT1;have ET2:=ag eT2;have ET3:=ag eT3;have Tb:Hid (B=(T1&&(T2&&T3))):=by show _=_;rw[ae AM,eT1,eT2,ae Vz,eT3]
  clear eT1 eT2 eT3 AM;go_wp2_with fail;refine(qP en Vz (ae HR _ b2).1 HN3.r4 hn ZS ET1).mono ?_;rintro r wa⟨rfl,uZ⟩;have Ba:=aj b2 uZ;have HNa:=ag (HN3.below uZ);cases T1 with
  |false=>
   have eF:B=false:=by rw[ae Tb];rfl
   subst eF;clear Tb;go_wp2;go_ret;exact⟨rfl,Ba⟩
  | true=>
   have a0:=ah i0 uZ;have a1:=ah i1 uZ;have a2:=ah i2 uZ;have a3:=ah i3 uZ;have a4:=ah i4 uZ;have a5:=ah i5 uZ;have d0:=ah c0 uZ;have d1:=ah c1 uZ;have d2:=ah c2 uZ;have d3:=ah c3 uZ;have d4:=ah c4 uZ;have d5:=ah c5 uZ;have d6:=ah c6 uZ;have d7:=ah c7 uZ;clear i0 i1 i2 i3 i4 i5 c0 c1 c2 c3 c4 c5 c6 c7 uZ;go_wp2_with fail;refine(qP en Y9 (ae HR _ Ba).1 HNa.r7 hn ZN ET2).mono ?_;rintro r wb⟨rfl,oF⟩;have Bb:=aj Ba oF;cases T2 with
   |false=>
    have eF:B=false:=by rw[ae Tb];rfl
    subst eF;clear Tb;go_wp2;go_ret;exact⟨rfl,Bb⟩
   |true=>
    have eT:B=T3:=by rw[ae Tb];rfl
    subst eT;have f0:=ah a0 oF;have f1:=ah a1 oF;have f2:=ah a2 oF;have f3:=ah a3 oF;have f4:=ah a4 oF;have f5:=ah a5 oF;have g0:=ah d0 oF;have g1:=ah d1 oF;have g2:=ah d2 oF;have g3:=ah d3 oF;have g4:=ah d4 oF;have g5:=ah d5 oF;have g6:=ah d6 oF;have g7:=ah d7 oF;clear a0 a1 a2 a3 a4 a5 d0 d1 d2 d3 d4 d5 d6 d7 oF Tb;go_wp2_with fail;refine(Af ZS ET3).mono ?_;rintro r wd⟨rfl,as4⟩;have Bd:=aj Bb as4;clear as4 f0 f1 f2 f3 f4 f5 g0 g1 g2 g3 g4 g5 g6 g7;go_wp2;go_ret;exact⟨rfl,Bd⟩}
open Go.Maps (Keyed IsMap)
def aZ:Value->Option (DataW Unit×List MemPlace)
 | .pointer (some ⟨b,0,none⟩)=>some (.lit (.int .i64 b),[])
 | .pointer none=>some (.nil,[])
 |_=>none
def lX(b:Nat):aZ (.pointer (some (Ad b 0)))=some (.lit (.I b),[]):=rfl
def jY(h:aZ v=some (.lit (.I b),ps)):v=.pointer (some (Ad b 0)):=by
 unfold aZ at h;split at h;{simp only[kV,gy,DataW.lit.injEq,Db,MC,Int.natCast_inj]at h;rw[h.1]};{simp at h};{simp at h}
def uF(h:aZ v=some (.nil,ps)):v=.pointer none:=by
 unfold aZ at h;split at h;{simp at h};{rfl}
 {simp at h}
structure gK(D:DataW Unit)(l:List (Lit×Nat)):Prop where
 hs:∀k,Maps.has D k=true↔∃p∈l,p.1=k
 at':∀p∈l,∀z,D.atKey p.1 z=.lit (.I p.2)
def gK.nil:gK (.map []) []:=⟨λk=>by simp[Maps.has],λp hp=>by simp at hp⟩
def gK.put{l:List (Lit×Nat)}(h:gK D l)(hD:IsMap D){k:Lit}(hk:WideAt.IsKeyLit k)(hn:∀p∈l,p.1≠k)(g:Nat):gK (D.put k (.lit (.I g))) (l++[(k,g)]):=by
 refine⟨λk'=>?_,λp hp z=>?_⟩;{by_cases e:k'=k;{subst e;simp[Maps.has_put_same hD hk]};{rw[Maps.has_put_other e,h.hs k'];constructor;{rintro⟨p,hp,rfl⟩;exact⟨p,by simp[hp],rfl⟩};{rintro⟨p,hp,rfl⟩;rcases gu.1 hp with hp|hp;{exact⟨p,hp,rfl⟩};{simp at hp;subst hp;exact absurd rfl e}}}};{rcases gu.1 hp with hp|hp;{rw[Maps.atKey_put_other (hn p hp)];exact h.at' p hp z};{simp at hp;subst hp;exact Maps.atKey_put_same hD hk _ _}}
def dL(D:DataW Unit)(s:LI):Prop:=∀k,Maps.has D k=true↔∃i∈s,k=.U i
def dL.nil:dL (.map []) []:=λk=>by simp[Maps.has]
def dL.put(h:dL D s)(hD:IsMap D)(i:Int)(d:DataW Unit):dL (D.put (.U i) d) (s++[i]):=by
 intro k';by_cases e:k'=.U i;{subst e;rw[Maps.has_put_same hD (by trivial)];simp};{rw[Maps.has_put_other e,h k'];constructor;{rintro⟨j,hj,rfl⟩;exact⟨j,by simp[hj],rfl⟩};{rintro⟨j,hj,rfl⟩;rcases gu.1 hj with hj|hj;{exact⟨j,hj,rfl⟩};{simp at hj;subst hj;exact absurd rfl e}}}
theorem dL.bC6(h:dL D s)(hD:IsMap D)(hk:∀es,D=.map es->∀p∈es,WideAt.IsKeyLit p.1):Maps.size D=0↔s=[]:=by
 obtain⟨es,rfl⟩:=hD;constructor;{
 intro h0;have e0:es=[]:=r8.1 h0;subst e0;cases s with
 |nil=>rfl
 |cons i s=>
  have:=(h (.U i)).2 ⟨i,al,rfl⟩;simp[Maps.has]at this};{
 rintro rfl;cases es with
 |nil=>rfl
 |cons p es=>
  have:=(h p.1).1 (by rw[Maps.has_eq];simp[WL (hk _ rfl p al)]);simp at this}
section
variable {P:Program}(w:World){ops:Array Oper}{rest:List Oper}{o:Oper}{a:Act}{Q:Exit->Act->World->Prop}
def gv{α:Type}(hg:o.guard=none)(it:Operand)(Jp:o.op=Op.next it false)(k:TypeId)(K:Keyed P k)(mkK:α->Value)(cv0:∀key kl,keyOf P k key=some kl->∃x,key=mkK x)(b r n:Nat)(D:DataW Unit)(l:List (Lit×Nat))(hM:gK D l)(left:Lit->Bool)(kx:Nat)(hit:a.eval it=.pointer (some (Ad r 0)))(h:w.ranges P k aZ b r n D left kx)(at6:kx=0->(∀kl,left kl=false)->wpList P ops Q rest (a.put o.dst (.tuple #[.bool false])) w)(at3:∀(x:α)(p:Lit×Nat)(w':World)(NF:Nat),keyOf P k (mkK x)=some p.1->p∈l->left p.1=true->w'.ranges P k aZ b r n D (λz=>left z&&!z.sameKey p.1) NF->NF<kx→
   w.grownBy w' (some r)->w'.heap.size=w.heap.size->(Instr.entry (.pointer (some (Ad r 0)))).run P w'=.ok (.tuple #[mkK x,.pointer (some (Ad p.2 0))]) w'->wpList P ops Q rest (a.put o.dst (.tuple #[.bool true,mkK x,.pointer (some (Ad p.2 0))])) w'):wpList P ops Q (o::rest) a w:=by
 refine wpList_plain hg λK' hK'=>?_;unfold Oper.wp;rcases h.next K o.type with⟨h0,hl,dK⟩|⟨key,v,kl,y,w',NF,cW,hlk,hv,iM,dK,mZ,bf,Am,jl,Jt⟩;{simp[execOp,Jp,hit,dK,Result.andThen];exact hK' _ _ (at6 h0 hl)};{
 obtain⟨x,rfl⟩:=cv0 key kl cW;obtain⟨p,hp,rfl⟩:=(hM.hs kl).1 (Maps.has_true_of_atKey iM);have e1:y.1=.lit (.I p.2):=by rw[<-iM .nil];exact hM.at' p hp _
 obtain⟨y1,y2⟩:=y;simp only at e1;subst e1;obtain rfl:=jY hv;simp[execOp,Jp,hit,dK,Result.andThen];exact hK' _ _ (at3 x p w' NF cW hp hlk mZ bf Am jl Jt)}
def DV(hg:o.guard=none)(it:Operand)(Jp:o.op=Op.next it false)(k:TypeId)(K:Keyed P k)(hk:P.underlying k=some (.int .u64))(b r n:Nat)(D:DataW Unit)(s:LI)(hM:dL D s)(left:Lit->Bool)(kx:Nat)(hit:a.eval it=.pointer (some (Ad r 0)))(h:w.ranges P k unitElem b r n D left kx)(at6:kx=0->(∀kl,left kl=false)->wpList P ops Q rest (a.put o.dst (.tuple #[.bool false])) w)(at3:∀(x:Int)(w':World)(NF:Nat),(Lit.U x).wf=true->x∈s->left (.U x)=true->w'.ranges P k unitElem b r n D (λz=>left z&&!z.sameKey (.U x)) NF->NF<kx→
   w.grownBy w' (some r)->w'.heap.size=w.heap.size->(Instr.entry (.pointer (some (Ad r 0)))).run P w'=.ok (.tuple #[.U x,.agg #[]]) w'->wpList P ops Q rest (a.put o.dst (.tuple #[.bool true,.U x,.agg #[]])) w'):wpList P ops Q (o::rest) a w:=by
 refine wpList_plain hg λK' hK'=>?_;unfold Oper.wp;rcases h.next K o.type with⟨h0,hl,dK⟩|⟨key,v,kl,y,w',NF,cW,hlk,hv,iM,dK,mZ,bf,Am,jl,Jt⟩;{simp[execOp,Jp,hit,dK,Result.andThen];exact hK' _ _ (at6 h0 hl)};{
 obtain⟨x,rfl,rfl,hwx⟩:=Maps.keyOf_int_inv hk cW
 let⟨i,hi,ei⟩:=(hM _).1 (Maps.has_true_of_atKey iM)
 simp only[Db,MC]at ei;subst ei;obtain⟨rfl,_⟩:=unitElem_inv hv;simp[execOp,Jp,hit,dK,Result.andThen];exact hK' _ _ (at3 x w' NF hwx hi hlk mZ bf Am jl Jt)}
end
def cL(l:LI):Lit:=.string (l.map λn=>UInt8.ofNat n.toNat)
def mO{m:LI}(hl:aN l)(hm:aN m)(h:cL l=cL m):l=m:=by
 simp only[cL,ai8]at h;exact map_inj hl hm h
def oW(l:LI):Lit.string (aP l).data.toList=cL l:=by rw[<-ByteArray.toList_eq,fE];rfl
def am8{s:ByteArray}(h:Lit.string s.data.toList=cL l):s=aP l:=by
 rw[<-oW]at h;simp only[ai8]at h;cases s with|mk d=>cases hb:aP l with|mk d'=>(rw[hb]at h;simp only at h;congr;exact WV.1 h)
def aF(h:w'.heap[b]?=w.heap[b]?)(o:Nat):w'.cell? (Ad b o)=w.cell? (Ad b o):=by
 unfold World.cell?;rw[h]
def ar(w:World)(b:Nat)(vs:List Value):Prop:=(∀i v,vs[i]?=some v->w.cell? (Ad b i)=some v)/\∀o,w.frozen? (Ad b o)=false
def ar.alloc(w:World)(cs:Array Value)(t:TypeId):ar (w.alloc (.cells cs t)) w.heap.size cs.toList:=by
 refine⟨λi v h=>?_,λo=>?_⟩;{rw[am0]at h;simp[h]};{simp[go_sem]}
def ar.below(h:ar w b vs)(hb:b<w.heap.size)(Ru:Bw w w'):ar w' b vs:=
 ⟨λi v hi=>(Ru.cell (p:=(Ad b i)) hb).trans (h.1 i v hi),λo=>(Ru.frozen (p:=(Ad b o)) hb).trans (h.2 o)⟩
def ar.yv(h:ar w b vs){a:Addr}(ha:b≠a.block)(u:Value):ar (w.setCell a u) b vs:=by
 have hh:(w.setCell a u).heap[b]?=w.heap[b]?:=ga _ _ _ _ ha;refine⟨λi v hi=>(aF hh _).trans (h.1 i v hi),λo=>?_⟩;have:(w.setCell a u).frozen? (Ad b o)=w.frozen? (Ad b o):=tM hh;rw[this];exact h.2 o
def ar.dH(h:ar w b vs)(j:Nat)(hj:j<vs.length)(u:Value):ar (w.setCell (Ad b j) u) b (vs.set j u):=by
 have hc:=h.1 j _ (aY hj);refine⟨λi v hi=>?_,λo=>by simp[h.2 o]⟩;by_cases e:j=i;{subst e;rw[ak7 hj]at hi;cases hi;exact GX _ _ _ hc};{rw[cQ5 e]at hi;have:=h.1 i v hi;simp[go_sem,e,this]}
def wX{t:TypeId}(ty:TypeId)(i:TypeInfo){size:Nat}(ht:P.underlying t=some (.slice e))(hi:P.info? e=some i)(hz:i.zero=some z)(Ah:i.size=size)(gh:i.bytes=bytes)(hzs:z.cells.size=size)(jl:0<size)(bR:w.ownsRow base e size v n xs){a:Addr}(c:Nat)(hl:news.length=m*size)(iU:∀j u,news[j]?=some u->w.cell? (a.add j)=some u)(h1:∀u∈news,u.oneCell'=true)(h63:n+m<=maxLen)(rB:(n+m)*bytes<=140737488355328)(DD:base<=w.heap.size):∃v' w',(Builtin.append_ #[t,t] ty #[v,.S (some a) m c]).run P w=.ok v' w'/\w'.ownsRow base e size v' (n+m) (xs++news)/\w.grownBy w' v.ownBlock/\∀g,v'.ownBlock=some g->v.ownBlock=some g\/w.heap.size<=g:=by
 obtain⟨v',w',hr,h2,h3,-⟩:=ai6 (P:=P) w base t ty e i z size bytes ht hi hz Ah gh hzs jl v n xs bR a m c news hl iU h1 h63 rB DD;refine⟨v',w',hr,h2,h3,λg' Cj=>?_⟩;rcases id bR.2 with⟨rfl,rfl⟩|⟨g,cap,cur,rfl,hbg,hg,xv,DA,hcs,bH3⟩;{have hx:xs=[]:=D8 (by simpa using bR.1);subst hx;obtain⟨v2,w2,nO,k2,-,-⟩:=ai6 (P:=P) w w.heap.size t ty e i z size bytes ht hi hz Ah gh hzs jl aq 0 [] (gm w _ e size) a m c news hl iU h1 h63 rB ay;rw[hr]at nO;simp only[Kj]at nO;obtain⟨rfl,rfl⟩:=nO;exact .inr (k2.lt g' Cj).1};{
 subst Ah;subst gh;by_cases Xl:n+m<=cap;{
 have bj5:n*i.size+news.length<=cur.size:=by rw[hl,hcs,<-Nat.add_mul];exact GC _ Xl
 rw[run_append_room (P:=P) w t ty e i ht hi g n cap cur hg a m c news hl iU h1 Xl bj5]at hr;simp only[Kj]at hr;obtain⟨rfl,-⟩:=hr;exact .inl Cj};{have holds:∀j u,xs[j]?=some u->w.cell? (((Ad g 0):Addr).add j)=some u:=bR.cells (g:=g) rfl;rw[run_append_grow (P:=P) w t ty e i z ht hi hz (Ad g 0) n cap xs bR.1 holds a m c news hl iU af (by simp only[maxLen]at h63;omega) (growslice_fits af rB)]at hr;simp only[Kj]at hr;obtain⟨rfl,-⟩:=hr;simp only[Value.ownBlock,kV]at Cj;exact .inr af}}
def cR{a:Act}{Q:Exit->Act->World->Prop}(ng:o.guard=none){s x:Operand}(t:TypeId)(ho:o.op=.call {callee:=.builtin .append,args:=#[s,x],argTypes:=#[t,t]})(i:TypeInfo)(size:Nat)(ht:P.underlying t=some (.slice e))(hi:P.info? e=some i)(hz:i.zero=some z)(Ah:i.size=size)(gh:i.bytes=bytes)(hzs:z.cells.size=size)(jl:0<size)(v:Value)(hs:a.eval s=v)(bR:w.ownsRow base e size v n xs)(g m c:Nat)(news:List Value)(hx:a.eval x=.T g m c)(hl:news.length=m*size)(iU:∀j u,news[j]?=some u->w.cell? (Ad g j)=some u)(h1:∀u∈news,u.oneCell'=true)(h63:n+m<=maxLen)(rB:(n+m)*bytes<=140737488355328)(DD:base<=w.heap.size)(h:∀v' w',w'.ownsRow base e size v' (n+m) (xs++news)->w.grownBy w' v.ownBlock->(∀g,v'.ownBlock=some g->v.ownBlock=some g\/w.heap.size<=g)->wpList P ops Q rest (a.put o.dst v') w'):wpList P ops Q (o::rest) a w:=by
 let⟨v',w',hr,h2,h3,h4⟩:=wX (P:=P) o.type i ht hi hz Ah gh hzs jl bR (a:=Ad g 0) c hl (λj u hu=>by rw[zI,ly];exact iU j u hu) h1 h63 rB DD
 exact Lib.wpList_append_run w ng s x t t ho _ _ hs hx _ _ hr (h v' w' h2 h3 h4)
def kF{a:Act}{Q:Exit->Act->World->Prop}(ng:o.guard=none){s x:Operand}{t:TypeId}(ho:o.op=.call {callee:=.builtin .append,args:=#[s,x],argTypes:=#[t,t]})(i:TypeInfo)(size:Nat)(ht:P.underlying t=some (.slice e))(hi:P.info? e=some i)(hz:i.zero=some z)(Ah:i.size=size)(gh:i.bytes=bytes)(hzs:z.cells.size=size)(jl:0<size)(hs:a.eval s=v)(bR:w.ownsRow base e size v n xs){g:Nat}(m c:Nat)(news:List Value)(hx:a.eval x=.T g m c)(hl:news.length=m*size)(iU:∀j u,news[j]?=some u->w.cell? (Ad g j)=some u)(h1:∀u∈news,u.oneCell'=true)(h63:n+m<=maxLen)(rB:(n+m)*bytes<=140737488355328)(DD:base<=w.heap.size)(h:∀v' w',w'.ownsRow base e size v' (n+m) (xs++news)->w.grownBy w' v.ownBlock->(∀g,v'.ownBlock=some g->v.ownBlock=some g\/w.heap.size<=g)->K (a.put o.dst v') w'):if Region.wanted o (yielded ops a.tmps)=true then Oper.wp P o a w K Q else E:=by
 have hw:Region.wanted o (yielded ops a.tmps)=true:=by simp[Region.wanted,ng]
 rw[bO hw]
 let⟨v',w',hr,h2,h3,h4⟩:=wX (P:=P) o.type i ht hi hz Ah gh hzs jl bR (a:=Ad g 0) c hl (λj u hu=>by rw[zI,ly];exact iU j u hu) h1 h63 rB DD
 exact Lib.wp_append_run w s x t t ho _ _ hs hx _ _ hr (h v' w' h2 h3 h4)
namespace Q
open Go.Sort
def ag{p:Prop}(h:p):Hid p:=h
def ae{p:Prop}(h:Hid p):p:=h
abbrev Le{α:Type}(l:List α)(n:Nat):Prop:=Hid (l.length=n)
def bG{α:Sort _}(x:α):∃y,Hid (x=y):=⟨x,ag rfl⟩
abbrev HU(w:World)(blk off:Nat)(d:Array Int):Prop:=Holds (λx:Int=>Value.U x) w blk off d
def qQ:w.grownBy w row:=⟨rfl,rfl,rfl,iD _,λ_ _ _=>rfl⟩
def aX{w1 w2:World}(h:w.grownBy w1 row)(k:w1.grownBy w2 row):w.grownBy w2 row:=
 ⟨k.os.trans h.os,k.tape.trans h.tape,k.output.trans h.output,fu h.size k.size,λi hi bS=>(k.block i (iq hi h.size) bS).trans (h.block i hi bS)⟩
def aH(w:World)(b o:Nat)(v:Value):w.grownBy (w.setCell (Ad b o) v) (some b):=
 ⟨rfl,rfl,rfl,al,λi _ bS=>ga _ _ _ _ (λe=>bS (by rw[e]))⟩
def az(h:w.grownBy w' row):w.grownBy w'.drew row:=⟨h.os,h.tape,h.output,h.size,h.block⟩
def HU.swap{blk off:Nat}(h:HU w blk off d){i j:Nat}(hi:i<d.size)(hj:j<d.size)(hx:x=d[j]!)(hy:y=d[i]!):HU ((w.setCell (Ad blk (off+i)) (.U x)).setCell (Ad blk (off+j)) (.U y)) blk off (swp d i j):=by
 subst hx hy;have e:=putRow_self (λx:Int=>Value.U x) w blk off d h;have e2:=putRow_swp (λx:Int=>Value.U x) w blk off d i j hi hj;rw[e]at e2;show Holds _ _ _ _ _;rw[e2];exact holds_putRow _ w blk off d _ h (by rw[size_swp])
def jF{p q:Addr}{t u:Value}(h:w.cell? p=some t):∃s,(w.setCell q u).cell? p=some s:=by
 by_cases e:q=p;{subst e;exact⟨u,GX _ _ _ h⟩};{exact⟨t,(De _ _ _ _ e).trans h⟩}
def HU.drew{blk off:Nat}(h:HU w blk off d):HU w.drew blk off d:=h
def HU.kept{blk off:Nat}(h:HU w blk off d)(hb:w'.heap[blk]?=w.heap[blk]?):HU w' blk off d:=λj hj=>
 ⟨(xi (a:=(Ad blk (off+j))) hb).trans (h j hj).1,(tM (a:=(Ad blk (off+j))) hb).trans (h j hj).2⟩
def aJ1:Calls prog 196 #[.U x] w λe w'=>e=.returned (.bool false)/\w'=w:=by
 go_in
 go_wp2;go_ret;exact⟨al,rfl⟩
def fO:Calls prog 260 #[.U x,.U y] w λe w'=>e=.returned (.bool (ltInt x y))/\w'=w:=by
 go_in
 go_wp2_with fail;refine(aJ1).mono ?_;rintro e w'⟨rfl,rfl⟩;go_wp2;go_ret;exact⟨rfl,rfl⟩
def fQ{vs:Array Value}:(callFunc 260 vs).run prog w=.ok (.enter 260 vs) w:=by kernel_rfl
def dh{a:Act}{Q:Exit->Act->World->Prop}(hw:Region.wanted o (yielded ops a.tmps)=true){f:FuncId} (ho:o.op=.call {callee:=.value (.func f),args:=#[x1,x2],argTypes:=Lw}){v1 v2:Value}(h1:a.eval x1=v1)(h2:a.eval x2=v2)(ua:∀vs,(callFunc f vs).run P w=.ok (.enter f vs) w)(hc:Calls P f #[v1,v2] w R)(hR:∀e w',R e w'->∃v,e=.returned v/\K (a.put o.dst v) w'):if Region.wanted o (yielded ops a.tmps)=true then Oper.wp P o a w K Q else E:=by
 rw[bO hw];have dK:(execOp a.eval o).run P w=.ok (.enter f #[v1,v2]) w:=by subst h1 h2;unfold execOp;simp[go_sem,ho,resolve,invoke,ua]
 show o.upon P a K Q _;rw[dK,Ki];refine hc.mono ?_;intro e w' h;obtain⟨v,rfl,hk⟩:=hR e w' h;exact hk
def aH5{blk off cap N a b:Nat}(hN:Hid (d.size=N))(h:HU w blk off d)(Tq:a<=b)(hb:b<=N)(jl:N<=1048576):Calls prog 258 #[.S (some (Ad blk off)) N cap,.I a,.I b] w λe w'=>e=.returned (.tuple #[])/\HU w' blk off (reverseRange d a b)/\w.grownBy w' (some blk):=by
 let⟨D,eD⟩:=aL (reverseRange d a b)
 rw[eD];have ED:Hid (reverseLoop a (b-1) d=D):=eD;clear eD;have H0:=ag h;clear h
 go_in
 go_wp2_with fail
 go_loopw[6,7](λs6 s7 wr=>∃(i jn:Nat)(jz:Int)(dk:Array Int),s6=.I i/\s7=.I jz/\jz<=1048576/\-1<=jz/\i<=1048577/\Hid ((i:Int)<jz->jz=jn/\jn<N)/\Hid (¬(i:Int)<jz->¬i<jn)/\Hid (dk.size=N)/\Hid (HU wr blk off dk)/\Hid (reverseLoop i jn dk=D)/\Hid (w.grownBy wr (some blk))) (λs6 s7 _=>(intOf s7-intOf s6).toNat)
 exact⟨a,b-1,(b:Int)-1,d,rfl,by first|rfl|go_num,af,af,af,λh=>⟨af,af⟩,(λh=>af),hN,H0,ED,qQ⟩;{
 obtain⟨i,jn,jz,dk,rfl,rfl,q1,q2,q3,h1,h2,Ao,Hx,heq,hg⟩:=hrel;by_cases bf:(i:Int)<jz;{
 let⟨ej,hjn⟩:=ae h1 bf
 subst ej;have ld:i<jn:=af;have Nd:=ae Ao
 let⟨ci,fi⟩:=ae Hx i af
 let⟨cj,fj⟩:=ae Hx jn af
 let⟨y,ey⟩:=aL dk[i]!
 let⟨z,ez⟩:=aL dk[jn]!
 have UY:=ag (Hx.swap (i:=i) (j:=jn) af af ez.symm ey.symm);rw[ey]at ci;rw[ez]at cj;have hq:=ae heq;rw[reverseLoop,bO ld]at hq;have HQ:=ag hq;have tJ:Hid ((swp dk i jn).size=N):=by show _=_;rw[size_swp];exact Nd
 have HG:=ag (aX (aX hg (aH wr blk (off+i) (.U z))) (aH _ blk (off+jn) (.U y)));have i1:=aU jn N;have i2:=aU i N;have i3:=dC 0 jn;clear h1 h2 Hx heq hg ey ez hq Nd;go_wp2_with fail
 go_region
 go_wp2;go_roundw;exact⟨i+1,jn-1,(jn:Int)-1,swp dk i jn,by go_num,by first|rfl|go_num,af,af,af,λh=>⟨af,af⟩,(λh=>af),tJ,UY.drew,HQ,az HG⟩;exact cg};{
 have cx9:=ae h2 bf;have hq:=ae heq;rw[reverseLoop,bH cx9]at hq;subst hq;go_wp2
 go_end0
 exact⟨rfl,Hx,hg⟩}}
end Q
end Go.Proofs.YtnhnbpkfpaondaaGreatDoor
