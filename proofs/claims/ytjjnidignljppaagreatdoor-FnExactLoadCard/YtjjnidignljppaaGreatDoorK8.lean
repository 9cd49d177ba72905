import Derived.Test.YtjjnidignljppaaGreatDoorK6
import Derived.Test.YtjjnidignljppaaGreatDoorK7
import Derived.Lib.BytesEntry
import Derived.Laws.Externs
namespace Go.Proofs.YtjjnidignljppaaGreatDoor
set_option maxHeartbeats 1600000
set_option linter.all false
set_option maxRecDepth 100000
open Go.ChangeShapes Go.WideShapes Go.ChangeAt Go.RowKit Go.Proofs.Tryz
variable {B:Bool}{a b c o sz:Nat}{e g k t x:Int}{es:List Ev}{l m:LI}{ns:List aB}{p:OA}{ss:List aR}{v:Value}
def jV(i:Nat)(e:Ev):Bool:=if i=7 then e.1==4&&e.2.length==0 else decide (1<=e.1)&&(decide (e.1<=3)&&vp e.2)
def gO(es:List Ev):Bool:=decide (es.length<=8)&&(List.range es.length).all fun i=>jV i (es.getD i (0,[]))
theorem vz{c n:Nat}(en:Hid (es.length=n)){w:World}(h:Io w (.S p n c) es)(hn:n<=1048576)(fS:Hid (∀e∈es,aM e.2/\e.2.length<=1048576))(eB:Hid (gO es=B)):Cp 120 #[.S p n c] w fun r w'=>r=.returned (.bool B)/\Bw w w':=by
 have HR:=af fun(w':World)(hb:Bw w w')=>h.below hb;by_cases h8:n<=8;{
 have h8':¬(8:Int)<(n:Int):=ae;go_enter func120,ntmps120;go_wp2_with fail
 go_loopw[3](fun iv wr=>∃k:Nat,k<=n/\iv=.I k/\Hid ((List.range k).all (fun i=>jV i (es.getD i (0,[])))=true)/\Bw w wr) (fun iv _=>n-(intOf iv).toNat)
 exact⟨0,gq _,rfl,bq,cW _ _⟩;{
 obtain⟨k,hk,rfl,iC,aG⟩:=hrel;by_cases aX:k<n;{
 have bu:=aP k n;have dA:k<es.length:=by rw[aa en];exact aX
 obtain⟨⟨K,P⟩,hy⟩:∃y,es[k]?=some y:=⟨_,aO dA⟩;have Mj:es.getD k (0,[])=(K,P):=by rw[gj,hy];rfl
 obtain⟨b,o,rfl,hcK,u,hcP,Ux⟩:∃b o,p=some ⟨b,o,none⟩/\wr.cell? ⟨b,o+k*2,none⟩=some (.I K)/\∃u,wr.cell? ⟨b,o+k*2+1,none⟩=some u/\Rd wr u P:=by obtain⟨p',c',ev,hd⟩:=aa HR _ aG;simp only[dU]at ev;obtain⟨rfl,-,-⟩:=ev;rcases hd with h0|⟨b,o,h1,h2⟩;{rw[h0]at dA;simp at dA};{exact⟨b,o,h1,h2 k _ hy⟩}
 obtain⟨hBP,hPl⟩:=aa fS _ (aS hy);obtain⟨pp,pc,rfl,-⟩:=id Ux;obtain⟨m,em⟩:=aI P.length;rw[em]at Ux hcP;have hm:m<=1048576:=by rw[<-em];exact hPl
 have EM:=af em;have Xz:=af hBP;have HRP:=af Ux;have hF:jV k (K,P)=false->B=false:=fun h=>by rw[<-aa eB,gO,aa en,fo aX (by rw[Mj];exact h),Bool.and_false]
 have hT:jV k (K,P)=true->Hid ((List.range (k+1)).all (fun i=>jV i (es.getD i (0,[])))=true):=fun h=>dr (aa iC) (by rw[Mj];exact h);by_cases h7:k=7;{
 subst h7;have hcK:wr.cell? ⟨b,o+14,none⟩=some (.I K):=hcK;have hcP:wr.cell? ⟨b,o+14+1,none⟩=some (.S pp m pc):=hcP;have dt0:wr.cell? ⟨b,o+15,none⟩=some (.S pp m pc):=hcP;by_cases h4:K=4;{
 have h4d:(K==4)=true:=by simp[h4]
 by_cases Jp:m=0;{
 have bo8:((m:Int)==0)=true:=by simp;omega
 have ta:=hT (by rw[jV,bN rfl];simp[h4,aa EM,Jp]);go_wp2;go_roundw;exact⟨7+1,ae,by go_num,ta,aG⟩;exact bG};{
 have bo8:((m:Int)==0)=false:=by simp;omega
 have eF:=hF (by rw[jV,bN rfl];simp[h4,aa EM,Jp]);subst eF;go_wp2;go_ret;exact⟨rfl,aG⟩}};{
 have h4d:(K==4)=false:=by simp[h4]
 have eF:=hF (by rw[jV,bN rfl];simp[h4]);subst eF;go_wp2;go_ret;exact⟨rfl,aG⟩}};{
 have h7':¬(k:Int)=7:=ae;have h7d:((k:Int)==7)=false:=by simp;omega
 by_cases h4:K=4;{
 have h4d:(K==4)=true:=by simp[h4]
 have eF:=hF (by rw[jV,bH h7];simp[h4]);subst eF;go_wp2;go_ret;exact⟨rfl,aG⟩};{
 have h4d:(K==4)=false:=by simp[h4]
 by_cases h1:K<1;{have h1':¬1<=K:=ae;have eF:=hF (by rw[jV,bH h7];simp;omega);subst eF;go_wp2;go_ret;exact⟨rfl,aG⟩};{
 by_cases h3:3<K;{have h3':¬K<=3:=ae;have eF:=hF (by rw[jV,bH h7];simp;omega);subst eF;go_wp2;go_ret;exact⟨rfl,aG⟩};{
 have h1':¬K<1:=h1;have g1:1<=K:=ae;have g3:K<=3:=ae;obtain⟨V,eV⟩:=aI (vp P);have EV:=af eV;have fD:jV k (K,P)=V:=by rw[jV,bH h7,eV];simp[g1,g3]
 go_wp2_with fail;refine(DZ EM HRP Xz hm EV).mono ?_;rintro r w2⟨rfl,aF⟩;have b2:=aj aG aF;cases V with
 |false=>
  have eF:=hF (by exact fD);subst eF;go_wp2;go_ret;exact⟨rfl,b2⟩
 |true=>
  have ta:=hT (by exact fD);go_wp2;go_roundw;exact⟨k+1,ae,by go_num,ta,b2⟩;exact bG}}}}};{
 have bu:=du k n;have eT:B=true:=by
  rw[<-aa eB,gO,aa en];have:k=n:=by omega
  rw[<-this,aa iC];simp;omega
 subst eT;go_wp2;go_ret;exact⟨rfl,aG⟩}}};{
 have h8':=pW 8 n;have eF:B=false:=by rw[<-aa eB,gO,aa en];simp[h8]
 subst eF;go_enter func120,ntmps120;go_wp2;go_ret;exact⟨rfl,cW _ _⟩}
def lX(nx:Int)(ss:List aR)(i:Nat):Bool:=
 decide (1<=(ss.getD i (0,0,[])).1)&&(decide ((ss.getD i (0,0,[])).1<=nx)&&((i==0||decide ((ss.getD (i-1) (0,0,[])).1<(ss.getD i (0,0,[])).1))&&
  (decide (0<=(ss.getD i (0,0,[])).2.1)&&(decide ((ss.getD i (0,0,[])).2.1<=1000015)&&gO (ss.getD i (0,0,[])).2.2))))
def CL{c n k:Nat}{N:Value}(en:Hid (ss.length=n)){w:World}(h:yZ w (.S p n c) ss)(hn:n<=1048576)(hk:k<n)(fS:Hid (∀s∈ss,s.2.2.length<=1048576/\∀e∈s.2.2,aM e.2/\e.2.length<=1048576))(eB:Hid (lX x ss k=B)):Cp 80 #[gh e g x t (.S p n c) N,.I k] w fun r w'=>r=.returned (.bool B)/\Bw w w':=by
 have HR:=af fun(w':World)(hb:Bw w w')=>h.below hb;have dA:k<ss.length:=by rw[aa en];exact hk
 obtain⟨⟨I,D,Q⟩,hy⟩:∃y,ss[k]?=some y:=⟨_,aO dA⟩;have Mj:ss.getD k (0,0,[])=(I,D,Q):=by rw[gj,hy];rfl
 obtain⟨b,o,rfl,We⟩:∃b o,p=some ⟨b,o,none⟩/\∀i s,ss[i]?=some s->w.cell? ⟨b,o+i*3,none⟩=some (.U s.1)/\w.cell? ⟨b,o+i*3+1,none⟩=some (.I s.2.1)/\∃u,w.cell? ⟨b,o+i*3+2,none⟩=some u/\Io w u s.2.2:=by obtain⟨p',c',ev,hd⟩:=h;simp only[dU]at ev;obtain⟨rfl,-,-⟩:=ev;rcases hd with h0|⟨b,o,h1,h2⟩;{rw[h0]at dA;simp at dA};{exact⟨b,o,h1,h2⟩}
 obtain⟨hI,hD,u,hU,hQ⟩:=We k _ hy;obtain⟨hQl,hQb⟩:=aa fS _ (aS hy);obtain⟨pq,cq,rfl,-⟩:=id hQ;obtain⟨m,em⟩:=aI Q.length;rw[em]at hQ hU;have hm:m<=1048576:=by rw[<-em];exact hQl
 have EM:=af em;have HBQ:Hid (∀e∈Q,aM e.2/\e.2.length<=1048576):=hQb;have HRQ:=af hQ;obtain⟨T,eT⟩:=aI (gO Q);have ET:Hid (gO Q=T):=eT;have fD:lX x ss k=(decide (1<=I)&&(decide (I<=x)&&((k==0||decide ((ss.getD (k-1) (0,0,[])).1<I))&&(decide (0<=D)&&(decide (D<=1000015)&&T))))):=by rw[lX,Mj,eT]
 rw[show(lX x ss k)=B from aa eB]at fD;have vP:Hid (B=(decide (1<=I)&&(decide (I<=x)&&((k==0||decide ((ss.getD (k-1) (0,0,[])).1<I))&&(decide (0<=D)&&(decide (D<=1000015)&&T)))))):=fD;clear fD;have hk':=aP k n;have ce4:=dw 0 k;have HL:=af dA;clear hy Mj hQl hQb hQ em eT h eB dA;have HCA:=af We;clear We;go_enter func80,ntmps80;have b1:Bw w (w.alloc (.cells #[.U e,.U g,.U x,.I t,.S (some ⟨b,o,none⟩) n c,N] 32)):=ay.alloc ao _;have i1:=ag hI b1;have i2:=ag hD b1;have i3:=ag hU b1;go_wp2_with fail;obtain⟨X,hX⟩:=au ((w.alloc (.cells #[.U e,.U g,.U x,.I t,.S (some ⟨b,o,none⟩) n c,N] 32)).alloc (.cells #[.U I,.I D,.S pq m cq] 86));have BX:Hid (Bw w X):=by show Below _ _ _;rw[hX];exact b1.alloc ai _
 have kA:X.cell? ⟨w.heap.size+1,0,none⟩=some (.U I):=by rw[hX];simp
 have kD:X.cell? ⟨w.heap.size+1,1,none⟩=some (.I D):=by rw[hX];simp
 have kQ:X.cell? ⟨w.heap.size+1,2,none⟩=some (.S pq m cq):=by rw[hX];simp
 have kB:X.cell? ⟨w.heap.size,2,none⟩=some (.U x):=by rw[hX];simp
 have kC:X.cell? ⟨w.heap.size,4,none⟩=some (.S (some ⟨b,o,none⟩) n c):=by rw[hX];simp
 rw[<-hX];have KA:=af kA;have KB:=af kB;have KC:=af kC;clear hX b1 i1 i2 i3 kA kB kC hI hD hU;by_cases h1:I<1;{
 have eF:B=false:=by rw[aa vP];simp;omega
 subst eF;have h1d:decide (I<1)=true:=by simp;omega
 refine dy (fun w'=>w'.cell? ⟨w.heap.size+1,0,none⟩=some (.U I)/\w'.cell? ⟨w.heap.size,2,none⟩=some (.U x)/\w'.cell? ⟨w.heap.size,4,none⟩=some (.S (some ⟨b,o,none⟩) n c)) (by exact⟨KA,KB,KC⟩) fun hS=>?_;refine mu 0 1 2 3 hS ?_;refine nK 4 5 6 7 hS ?_;refine sn 8 hS ?_;refine jZ 9 10 hS ?_;refine nK 11 12 13 14 hS ?_;refine nK 15 16 17 18 hS ?_;refine nK 19 20 21 22 hS ?_;refine sn 23 hS ?_;refine sn 24 hS ?_;refine tn 25 hS ?_;refine di ?_;clear hS;go_wp2;go_ret;exact⟨rfl,BX.drew⟩};{
 have h1d:decide (I<1)=false:=by simp;omega
 by_cases h2:x<I;{
 have eF:B=false:=by rw[aa vP];simp;omega
 subst eF;have h2d:decide (x<I)=true:=by simp;omega
 refine dy (fun w'=>w'.cell? ⟨w.heap.size+1,0,none⟩=some (.U I)/\w'.cell? ⟨w.heap.size,2,none⟩=some (.U x)/\w'.cell? ⟨w.heap.size,4,none⟩=some (.S (some ⟨b,o,none⟩) n c)) (by exact⟨KA,KB,KC⟩) fun hS=>?_;refine mn 0 1 2 3 4 5 6 7 hS ?_;refine jZ 8 9 hS ?_;refine tn 10 hS ?_;refine nK 11 12 13 14 hS ?_;refine nK 15 16 17 18 hS ?_;refine nK 19 20 21 22 hS ?_;refine sn 23 hS ?_;refine sn 24 hS ?_;refine tn 25 hS ?_;refine di ?_;clear hS;go_wp2;go_ret;exact⟨rfl,BX.drew⟩};{
 have h2d:decide (x<I)=false:=by simp;omega
 by_cases K8:k=0;{
 have hp:¬0<k:=ae;have hp':¬(0:Int)<(k:Int):=ae;have HK0:=af K8;clear K8;refine dy (fun w'=>w'.cell? ⟨w.heap.size+1,0,none⟩=some (.U I)/\w'.cell? ⟨w.heap.size,2,none⟩=some (.U x)/\w'.cell? ⟨w.heap.size,4,none⟩=some (.S (some ⟨b,o,none⟩) n c)) (by exact⟨KA,KB,KC⟩) fun hS=>?_;refine mn 0 1 2 3 4 5 6 7 hS ?_;refine mu 8 9 10 11 hS ?_;refine jZ 12 13 hS ?_;refine nK 14 15 16 17 hS ?_;refine nK 18 19 20 21 hS ?_;refine sn 22 hS ?_;refine sn 23 hS ?_;refine jZ 24 25 hS ?_;refine di ?_;clear hS;have fD:=aa vP;rw[show(k==0)=true by simp[aa HK0]]at fD;by_cases h5:D<0;{
 have eF:B=false:=by rw[fD];simp;omega
 subst eF;clear fD;have h5':D<0:=h5;go_wp2;go_ret;exact⟨rfl,BX.drew⟩};{
 by_cases h6:1000015<D;{
 have eF:B=false:=by rw[fD];simp;omega
 subst eF;clear fD;go_wp2;go_ret;exact⟨rfl,BX.drew⟩};{
 have eQ:B=T:=by rw[fD];simp[show 1<=I by omega,show I<=x by omega,show 0<=D by omega,show D<=1000015 by omega]
 subst eQ;clear fD;go_wp2_with fail;refine(vz EM (by exact HRQ.below BX.drew) hm HBQ ET).mono ?_;rintro r w2⟨rfl,aF⟩;have b2:=aj BX.drew aF;clear aF;go_wp2;go_ret;exact⟨rfl,b2⟩}}};{
 obtain⟨j,ej⟩:∃j:Nat,(k:Int)-1=(j:Int):=⟨k-1,ae⟩;have Sz:k-1=j:=ae;have zw:j<ss.length:=by have:=aa HL;omega
 obtain⟨⟨z,zz⟩,hz⟩:∃y,ss[j]?=some y:=⟨_,aO zw⟩;have hzD:(ss.getD j (0,0,[])).1=z:=by rw[gj,hz];rfl
 have fD:=aa vP;rw[Sz,hzD]at fD;have kZ:=ag (aa HCA j _ hz).1 BX;have KZ:Hid (X.cell? ⟨b,o+j*3,none⟩=some (.U z)):=kZ;have hp:0<k:=ae;have hp':=pW 0 k;have hjm:=aP j n;have hj0:=dw 0 j;have wj:=dZ j;rw[show(k==0)=false by simp[K8],Jd]at fD;have P9:Hid (B=(decide (1<=I)&&(decide (I<=x)&&(decide (z<I)&&(decide (0<=D)&&(decide (D<=1000015)&&T)))))):=fD;clear fD;clear hz hzD zw kZ Sz K8;by_cases hzI:z<I;{
 have hle:¬I<=z:=ae;have aQ4:decide (I<=z)=false:=by simp;omega
 refine dy (fun w'=>w'.cell? ⟨w.heap.size+1,0,none⟩=some (.U I)/\w'.cell? ⟨w.heap.size,2,none⟩=some (.U x)/\w'.cell? ⟨w.heap.size,4,none⟩=some (.S (some ⟨b,o,none⟩) n c)/\w'.cell? ⟨b,o+j*3,none⟩=some (.U z)) (by exact⟨KA,KB,KC,KZ⟩) fun hS=>?_;refine mn 0 1 2 3 4 5 6 7 hS ?_;refine mn 8 9 10 11 12 13 14 15 hS ?_;refine mn 16 17 18 19 20 21 22 23 hS ?_;refine jZ 24 25 hS ?_;refine di ?_;clear hS;by_cases h5:D<0;{
 have eF:B=false:=by rw[aa P9];simp;omega
 subst eF;clear P9;have h5':D<0:=h5;go_wp2;go_ret;exact⟨rfl,BX.drew⟩};{
 by_cases h6:1000015<D;{
 have eF:B=false:=by rw[aa P9];simp;omega
 subst eF;clear P9;go_wp2;go_ret;exact⟨rfl,BX.drew⟩};{
 have eQ:B=T:=by rw[aa P9];simp only[show decide (1<=I)=true by(rw[oq];omega),show decide (I<=x)=true by(rw[oq];omega),show decide (z<I)=true by(rw[oq];omega),show decide (0<=D)=true by(rw[oq];omega),show decide (D<=1000015)=true by(rw[oq];omega),ox]
 subst eQ;clear P9;go_wp2_with fail;refine(vz EM (by exact HRQ.below BX.drew) hm HBQ ET).mono ?_;rintro r w2⟨rfl,aF⟩;have b2:=aj BX.drew aF;clear aF;go_wp2;go_ret;exact⟨rfl,b2⟩}}};{
 have hle:I<=z:=ae;have aQ4:decide (I<=z)=true:=by simp;omega
 have eF:B=false:=by rw[aa P9];simp;omega
 subst eF;clear P9;refine dy (fun w'=>w'.cell? ⟨w.heap.size+1,0,none⟩=some (.U I)/\w'.cell? ⟨w.heap.size,2,none⟩=some (.U x)/\w'.cell? ⟨w.heap.size,4,none⟩=some (.S (some ⟨b,o,none⟩) n c)/\w'.cell? ⟨b,o+j*3,none⟩=some (.U z)) (by exact⟨KA,KB,KC,KZ⟩) fun hS=>?_;refine mn 0 1 2 3 4 5 6 7 hS ?_;refine mn 8 9 10 11 12 13 14 15 hS ?_;refine mn 16 17 18 19 20 21 22 23 hS ?_;refine jZ 24 25 hS ?_;refine di ?_;clear hS;go_wp2;go_ret;exact⟨rfl,BX.drew⟩}}}}
def ag7(w:World)(C:Array Value)(e:TypeId)(fr:Nat×Nat)(i:Nat):(w.alloc (.cells C e fr)).cell? ⟨w.heap.size,i,none⟩=C[i]?:=by
 have h:(w.alloc (.cells C e fr)).heap[w.heap.size]?=some (.cells C e fr):=by show(w.heap.push (.cells C e fr))[w.heap.size]?=_;simp
 unfold World.cell?;rw[h]
 rfl
def Mh(l:LI)(k:Nat):Nat:=(List.range k).foldl (fun a i=>if l.getD i 0=47 then i else a) 0
def um(l:LI)(k:Nat):Mh l (k+1)=if l.getD k 0=47 then k else Mh l k:=by
 rw[Mh,List.range_succ,List.foldl_append];rfl
def dY(l:LI):LI:=if Mh l l.length=0 then[47]else l.take (Mh l l.length)
theorem ku{c n:Nat}(en:Hid (l.length=n)){w:World}(h:Rd w (.S p n c) l)(hn:n<=1048576)(hc:n<=c)(Dy:c<=maxLen):Cp 122 #[.S p n c] w fun r w'=>∃q m d,r=.returned (.S q m d)/\(dY l).length=m/\m<=n+1/\Rd w' (.S q m d) (dY l)/\Bw w w':=by
 have HR:=af h;clear h;go_enter func122,ntmps122;go_wp2_with fail
 go_loopw[3,4](fun av iv wr=>∃k a:Nat,k<=n/\iv=.I k/\av=.I a/\a<=k/\Hid (Mh l k=a)/\wr=w) (fun _ iv _=>n-(intOf iv).toNat)
 exact⟨0,0,Nat.zero_le _,rfl,rfl,Nat.le_refl _,bq,rfl⟩;{
 obtain⟨k,a,hk,rfl,rfl,hak,hls,rfl⟩:=hrel;by_cases aX:k<n;{
 have bu:=aP k n;have dA:k<l.length:=by rw[aa en];exact aX
 obtain⟨b,o,rfl,-,cO⟩:=HR.at ae;have zE:=cO k dA;have cR:=um l k;obtain⟨y,ey⟩:=aI (l.getD k 0);rw[ey]at zE cR;clear cO dA ey;by_cases py:y=47;{subst py;rw[if_pos rfl]at cR;have pY:=af cR;clear cR;go_wp2;go_roundw;exact⟨k+1,k,ae,by go_num,rfl,ae,pY,by first|rfl|trivial⟩;exact bG};{
 have dw9:(y==47)=false:=by simp[py]
 rw[if_neg py,aa hls]at cR;have pY:=af cR;clear cR;go_wp2;go_roundw;exact⟨k+1,a,ae,by go_num,rfl,ae,pY,by first|rfl|trivial⟩;exact bG}};{
 have bu:=du k n;have vL:k=n:=ae;subst vL;clear hk aX;by_cases ha:a=0;{
 subst ha;have qY:Hid (dY l=[47]):=by show _=_;rw[dY,aa en,aa hls,if_pos rfl]
 have hcv:=Lib.run_convert_bytes_const (P:=prog) wr 22 5 #[.int .u8 47] 1 1 underlying22 underlying5;go_wp2;go_ret;refine⟨_,_,_,rfl,by rw[aa qY];rfl,ae,?_,ay.alloc ao _⟩;rw[aa qY];refine⟨_,_,rfl,.inr ⟨wr.heap.size,0,rfl,fun i hi=>?_⟩⟩
 match i,hi with
 |0,_=>(rw[Nat.zero_add,ag7];rfl)}
 {
 have Qm:((a:Int)==0)=false:=by simp[ha]
 have qY:Hid (dY l=l.take a):=by show _=_;rw[dY,aa en,aa hls,if_neg ha]
 obtain⟨b,o,rfl,-,-⟩:=HR.at (by rw[aa en];omega);have g1:=iE a k;have g2:=iE a c;have HRC:=HR.cut 0 a (Nat.zero_le _) (by rw[aa en];omega) (some ⟨b,o,none⟩) (.inr rfl) c (l.take a) ai;have HRD:=af HRC;clear HRC;go_wp2;go_ret;exact⟨_,_,_,rfl,by rw[aa qY,List.length_take,aa en];omega,ae,by rw[aa qY];exact aa HRD,Below.refl _ _⟩}}}
def px(v:Value):Prop:=∃p n c,v=.S p n c/\n<=c/\c<=maxLen
structure qV(w:World)(b a:Nat)(nd:aB)(P V H U:Value):Prop where
 c0:w.cell? ⟨b,a,none⟩=some P
 c1:w.cell? ⟨b,a+1,none⟩=some V
 c2:w.cell? ⟨b,a+2,none⟩=some (.U nd.owner)
 c3:w.cell? ⟨b,a+3,none⟩=some (.I nd.mode)
 c4:w.cell? ⟨b,a+4,none⟩=some H
 c5:w.cell? ⟨b,a+5,none⟩=some (.U nd.aJ)
 c6:w.cell? ⟨b,a+6,none⟩=some (.U nd.gen)
 c7:w.cell? ⟨b,a+7,none⟩=some U
 r0:Rd w P nd.path
 r1:Rd w V nd.value
 r4:qT w H nd.holders
 r7:qT w U nd.watchers
 k0:px P
def qV.below{w w':World}{nd:aB}{P V H U:Value}(h:qV w b a nd P V H U)(hb:Bw w w'):qV w' b a nd P V H U:=
 ⟨ag h.c0 hb,ag h.c1 hb,ag h.c2 hb,ag h.c3 hb,ag h.c4 hb,ag h.c5 hb,ag h.c6 hb,ag h.c7 hb,h.r0.below hb,h.r1.below hb,h.r4.below hb,h.r7.below hb,h.k0⟩
def qz(w:World)(v:Value)(ns:List aB):Prop:=
 ∃(p:OA)(c:Nat),v=.S p ns.length c/\(ns=[]\/∃b o,p=some ⟨b,o,none⟩/\∀i nd,ns[i]?=some nd->∃P V H U,qV w b (o+i*8) nd P V H U)
def qz.below{w w':World}(h:qz w v ns)(hb:Bw w w'):qz w' v ns:=by
 obtain⟨p,c,rfl,h⟩:=h;refine⟨p,c,rfl,?_⟩;rcases h with h|⟨b,o,rfl,h⟩;{exact .inl h};{refine .inr ⟨b,o,rfl,fun i e he=>?_⟩;obtain⟨P,V,H,U,h1⟩:=h i e he;exact⟨P,V,H,U,h1.below hb⟩}
abbrev YL(P V:Value)(ow mo:Int)(H:Value)(ep ge:Int)(U:Value):Value:=.agg #[P,V,.U ow,.I mo,H,.U ep,.U ge,U]
def fg(e g mo:Int)(nh:Nat)(ep ge:Int):Bool:=
 if mo=1 then nh==1&&(decide (1<=ge)&&(decide (ge<=g)&&decide (ep<=e)))else ep==0&&(ge==0&&(if mo=0 then nh==0 else mo==2&&decide (1<=nh)))
def yE{e g x t ow mo ep ge:Int}{S N P V U:Value}{c n:Nat}{w:World}(hn:n<=1048576)(eB:Hid (fg e g mo n ep ge=B)):Cp 125 #[gh e g x t S N,YL P V ow mo (.S p n c) ep ge U] w fun r w'=>r=.returned (.bool B)/\Bw w w':=by
 go_enter func125,ntmps125;go_wp2_with fail
 all_goals(
  go_ret;refine⟨?_,(ay.alloc ao _).alloc ai _⟩;rw[<-aa eB];simp only[fg,Ending.returned.injEq,Value.bool.injEq])
 all_goals first|(simp_all;done)|(simp_all;omega)|skip
 all_goals(
  show Value.bool ((n:Int)==0)=Value.bool _
  congr 1
  have e0:mo=0:=(by simpa using ‹(mo==0)=true›);have e1:ge=0:=(by simpa using ‹(ge != 0)=false›);subst e0 e1;rw[Bool.eq_iff_iff]
  simp_all)
def qz.at{w:World}{n c:Nat}(h:qz w (.S p n c) ns)(hl:0<ns.length):∃b o,p=some ⟨b,o,none⟩/\∀i nd,ns[i]?=some nd->∃P V H U,qV w b (o+i*8) nd P V H U:=by
 obtain⟨p',c',ev,hd⟩:=h;simp only[dU]at ev;obtain⟨rfl,-,-⟩:=ev;rcases hd with h0|⟨b,o,h1,h2⟩;{rw[h0]at hl;simp at hl};{exact⟨b,o,h1,h2⟩}
def Rd.iB{w:World}(h:Rd w v l):∃p c n,v=.S p n c/\Hid (l.length=n):=by
 obtain⟨p,c,rfl,-⟩:=h;exact⟨p,c,_,rfl,bq⟩
def List.jC{α:Type}{ns:List α}{k:Nat}{y:α}(h:ns[k]?=some y):y::ns.drop (k+1)=ns.drop k:=by
 obtain⟨hk,rfl⟩:=aT.1 h;exact(Rm hk).symm
def ia(ns:List aB)(l:LI):Option aB:=ns.find? fun nd=>decide (nd.path=l)
def wG{p q:OA}{c n d m:Nat}{S:Value}(en:Hid (ns.length=n))(em:Hid (l.length=m)){w:World}(h:qz w (.S p n c) ns)(hl:Rd w (.S q m d) l)(hn:n<=1048576)(hm:m<=2097152)(fS:Hid (aM l/\∀nd∈ns,aM nd.path)):Cp 92 #[gh e g x t S (.S p n c),.S q m d] w fun r w'=>((∃(k:Nat)(nd:aB),r=.returned (.I k)/\k<n/\ns[k]?=some nd/\ia ns l=some nd)\/(r=.returned (.I (-1))/\ia ns l=none))/\Bw w w':=by
 have HR:=af fun(w':World)(hb:Bw w w')=>ah (h.below hb) (hl.below hb);go_enter func92,ntmps92;go_wp2_with fail;obtain⟨W,hW⟩:=au (w.alloc (.cells #[.U e,.U g,.U x,.I t,S,.S p n c] 32));have bW:=dO hW;have yK:W.cell? ⟨w.heap.size,5,none⟩=some (.S p n c):=by rw[hW];simp
 rw[<-hW];have BW:=af bW;have HC5:=af yK
 go_loopw[5](fun iv wr=>∃k:Nat,k<=n/\iv=.I k/\Hid (ia (ns.take k) l=none)/\Bw W wr) (fun iv _=>n-(intOf iv).toNat)
 exact⟨0,gq _,rfl,bq,cW _ _⟩;{
 obtain⟨k,hk,rfl,la,aG⟩:=hrel;have BB:=aj BW aG;have i5:=ag HC5 aG;by_cases aX:k<n;{
 have bu:=aP k n;have dA:k<ns.length:=by rw[aa en];exact aX
 obtain⟨hN,hL⟩:=aa HR _ BB;obtain⟨b,o,rfl,hA⟩:=hN.at ae;obtain⟨nd,hy⟩:∃y,ns[k]?=some y:=⟨_,aO dA⟩;obtain⟨P,V,H,U,br⟩:=hA k nd hy;have hP:=br.c0;have Ux:=br.r0;obtain⟨pp,pc,pn,rfl,LF⟩:=Ux.iB;have hBP:=fS.2 nd (aS hy);have HY:=af hy;have HRP:=af Ux;have Xz:=af hBP;have HLL:=af hL;go_wp2_with fail;refine(ly LF em HRP HLL Xz fS.1).mono ?_;rintro r w2⟨rfl,aF⟩;by_cases qY:nd.path=l;{
 rw[show decide (nd.path=l)=true by simp[qY]];have hF:Hid (ia ns l=some nd):=by
  show _=_;have e1:ns=ns.take k++nd::ns.drop (k+1):=by rw[List.jC (aa HY),BH]
  rw[e1,ia,List.find?_append,show(ns.take k).find? (fun nd=>decide (nd.path=l))=none from aa la];simp[qY]
 have b2:=aj BB aF;go_wp2;go_ret;exact⟨.inl ⟨k,nd,rfl,aX,HY,hF⟩,b2⟩};{
 rw[show decide (nd.path=l)=false by simp[qY]];have ZN:Hid (ia (ns.take (k+1)) l=none):=by show _=_;rw[ng,aa HY,ia,List.find?_append,show(ns.take k).find? (fun nd=>decide (nd.path=l))=none from aa la];simp[qY]
 have b2:=aj aG aF;go_wp2;go_roundw;exact⟨k+1,ae,by go_num,ZN,b2⟩;exact bG}};{
 have bu:=du k n;have hF:Hid (ia ns l=none):=by show _=_;have:=aa la;rwa [kq (by rw[aa en];omega)]at this
 go_wp2;go_ret;exact⟨.inr ⟨rfl,hF⟩,BB⟩}}
def dQ(ns:List aB)(l:LI):Bool:=if l=[47]then true else match ia ns l with|some nd=>nd.owner==0|none=>false
theorem jG{p q:OA}{c n d m:Nat}{S:Value}(en:Hid (ns.length=n))(em:Hid (l.length=m)){w:World}(h:qz w (.S p n c) ns)(hl:Rd w (.S q m d) l)(hn:n<=1048576)(hm:m<=2097152)(fS:Hid (aM l/\∀nd∈ns,aM nd.path))(eB:Hid (dQ ns l=B)):Cp 121 #[gh e g x t S (.S p n c),.S q m d] w fun r w'=>r=.returned (.bool B)/\Bw w w':=by
 have HR:=af fun(w':World)(hb:Bw w w')=>ah (h.below hb) (hl.below hb);clear h hl;obtain⟨W,hW⟩:=au (w.alloc (.cells #[.U e,.U g,.U x,.I t,S,.S p n c] 32));have bW:=dO hW;have sW:W.heap.size=w.heap.size+1:=by rw[hW];simp
 have yK:jv W w.heap.size e g x t S (.S p n c):=by rw[hW];simp[jv]
 have hcv:=Lib.run_convert_bytes_const (P:=prog) W 22 5 #[.int .u8 47] 1 1 underlying22 underlying5;simp only[show(#[Value.int .u8 47]:Array Value).size=1 from rfl]at hcv;obtain⟨X,hX⟩:=au (W.alloc (.cells #[.int .u8 47] 5 (1,1+1)));have rX:Rd X (.T (w.heap.size+1) 1 1) [47]:=by
  rw[hX,<-sW];refine⟨_,_,rfl,.inr ⟨W.heap.size,0,rfl,fun i hi=>?_⟩⟩
  match i,hi with
  |0,_=>(rw[lu,ag7];rfl)
 have bX:Bw w X:=by rw[hX];exact bW.alloc ae _
 have iX:jv X w.heap.size e g x t S (.S p n c):=yK.below (by rw[hX];exact ay.alloc ao _);rw[<-hX,sW,hW]at hcv;clear sW yK bW hX hW;have RX:=af rX;have BX:=af bX;have IX:=af iX;clear rX bX iX;go_enter func121,ntmps121;go_wp2_with fail;refine(ly em bq (aa HR _ (aa BX)).2 (aa RX) fS.1 (by intro x hx;simp at hx;omega)).mono ?_;rintro r w2⟨rfl,aF⟩;have b2:=aj BX aF;obtain⟨j0,j1,j2,j3,j4,j5⟩:=IX.below aF;clear hcv aF;by_cases py:l=[47];{
 rw[show decide (l=[47])=true by simp[py]];have eT:B=true:=by rw[<-aa eB,dQ,bN py]
 subst eT;clear py;go_wp2;go_ret;exact⟨rfl,b2⟩};{
 rw[show decide (l=[47])=false by simp[py]];have hB:(match ia ns l with|some nd=>nd.owner==0|none=>false)=B:=by rw[<-aa eB,dQ,bH py]
 have HB:=af hB;clear hB py;go_wp2_with fail;refine(wG en em (aa HR _ b2).1 (aa HR _ b2).2 hn hm fS).mono ?_;rintro r w3⟨hr,bf⟩;have b3:=aj b2 bf;have k5:=ag j5 bf;clear j0 j1 j2 j3 j4 j5 bf;rcases hr with⟨k,nd,rfl,hk,hy,hF⟩|⟨rfl,hF⟩;{
 rw[hF]at HB;have dA:k<ns.length:=by rw[aa en];exact hk
 obtain⟨b,o,rfl,hA⟩:=(aa HR _ b3).1.at ae;obtain⟨P,V,H,U,br⟩:=hA k nd hy;have hO:=br.c2;have hk':=aP k n;have K8:=dw 0 k;clear hA br dA hy hF;cases B with
 |true=>
  have ho:nd.owner=0:=by have:=aa HB;simpa using this
  rw[ho]at hO;clear ho;go_wp2;go_ret;exact⟨rfl,b3⟩
 |false=>
  have ho:(nd.owner==0)=false:=aa HB;go_wp2;go_ret;exact⟨rfl,b3⟩};{rw[hF]at HB;have eF:B=false:=HB.symm;subst eF;clear hF;go_wp2;go_ret;exact⟨rfl,b3⟩}}
def leB(l m:LI):Bool:=Op.bytesLess (aN l).toList (aN m).toList||(aN l).toList==(aN m).toList
def gu:aB:=⟨[],[],0,0,[],0,0,[]⟩
def kW(e g:Int)(ss:List aR)(ns:List aB)(k:Nat):Bool:=
 let nd:=ns.getD k gu
 (vp nd.path&&(k==0||!leB nd.path (ns.getD (k-1) gu).path))&&(dQ ns (dY nd.path)&&(decide (nd.value.length<=40)&&((nd.owner==0||live ss nd.owner)&&(iK ss nd.holders&&(iK ss nd.watchers&&fg e g nd.mode nd.holders.length nd.aJ nd.gen)))))
def rH(h:aM l):aM (dY l):=by
 unfold dY;split;{intro x hx;simp at hx;omega};{exact fun x hx=>h x (Jh hx)}
def qT.iB{w:World}(h:qT w v l):∃p c n,v=.S p n c/\Hid (l.length=n):=by
 obtain⟨p,c,rfl,-⟩:=h;exact⟨p,c,_,rfl,bq⟩
theorem KJ{p q:OA}{c n d m k:Nat}(en:Hid (ss.length=n))(em:Hid (ns.length=m)){w:World}(h:yZ w (.S p n c) ss)(hN:qz w (.S q m d) ns)(hn:n<=1048576)(hm:m<=1048576)(hk:k<m)(fS:Hid (∀nd∈ns,aM nd.path/\nd.path.length<=1048576/\nd.value.length<=1048576/\nd.holders.length<=1048576/\nd.watchers.length<=1048576))(eB:Hid (kW e g ss ns k=B)):Cp 81 #[gh e g x t (.S p n c) (.S q m d),.I k] w fun r w'=>r=.returned (.bool B)/\Bw w w':=by
 have HR:=af fun(w':World)(hb:Bw w w')=>ah (h.below hb) (hN.below hb);have dA:k<ns.length:=by rw[aa em];exact hk
 obtain⟨nd,hy⟩:∃y,ns[k]?=some y:=⟨_,aO dA⟩;have Mj:ns.getD k gu=nd:=by rw[gj,hy];rfl
 obtain⟨b,o,rfl,hA⟩:=hN.at ae;obtain⟨P,V,H,U,br⟩:=hA k nd hy;obtain⟨zG,jc,hB3,hB4,hB5⟩:=aa fS _ (aS hy);obtain⟨pp,pc,pn,rfl,LF⟩:=br.r0.iB;obtain⟨vp',vc,vn,rfl,eVn⟩:=br.r1.iB;obtain⟨hp,hc,hh,rfl,SC⟩:=br.r4.iB;obtain⟨up,uc,un,rfl,Wt⟩:=br.r7.iB;have VX:pn<=1048576:=by rw[<-aa LF];exact jc
 have hvn:vn<=1048576:=by rw[<-aa eVn];exact hB3
 have Xl:hh<=1048576:=by rw[<-aa SC];exact hB4
 have Xd:un<=1048576:=by rw[<-aa Wt];exact hB5
 have hk':=aP k m;have ce4:=dw 0 k;have b1:Bw w (w.alloc (.cells #[.U e,.U g,.U x,.I t,.S p n c,.S (some ⟨b,o,none⟩) m d] 32)):=ay.alloc ao _;have cd2:=br.below b1;obtain⟨c0,c1,c2,c3,c4,c5,c6,c7,-,-,-,-,-⟩:=cd2;have HYD:=af Mj;have HND:=af br;have Xz:=af zG;have HA:=af hA;clear br hA Mj zG jc hB3 hB4 hB5 hN h;go_enter func81,ntmps81;go_wp2_with fail;obtain⟨X,hX⟩:=au ((w.alloc (.cells #[.U e,.U g,.U x,.I t,.S p n c,.S (some ⟨b,o,none⟩) m d] 32)).alloc (.cells #[.S pp pn pc,.S vp' vn vc,.U nd.owner,.I nd.mode,.S hp hh hc,.U nd.aJ,.U nd.gen,.S up un uc] 93));have bX:Bw w X:=by rw[hX];exact b1.alloc ai _
 have iX:jv X w.heap.size e g x t (.S p n c) (.S (some ⟨b,o,none⟩) m d):=by rw[hX];simp[jv]
 have nX:qV X (w.heap.size+1) 0 nd (.S pp pn pc) (.S vp' vn vc) (.S hp hh hc) (.S up un uc):=
  ⟨by rw[hX];simp,by rw[hX];simp,by rw[hX];simp,by rw[hX];simp,by rw[hX];simp,by rw[hX];simp,by rw[hX];simp,by rw[hX];simp,HND.r0.below bX,HND.r1.below bX,HND.r4.below bX,HND.r7.below bX,HND.k0⟩
 rw[<-hX];have BX:=af bX;have IX:=af iX;have NX:=af nX;clear hX b1 c0 c1 c2 c3 c4 c5 c6 c7 bX iX nX;obtain⟨V1,eV⟩:=aI (vp nd.path);have EV:=af eV;clear eV;obtain⟨C,eC⟩:∃C,(!(V1&&(k==0||!leB nd.path (ns.getD (k-1) gu).path)))=C:=⟨_,rfl⟩;have hB:B=(!C&&(dQ ns (dY nd.path)&&(decide (nd.value.length<=40)&&((nd.owner==0||live ss nd.owner)&&(iK ss nd.holders&&(iK ss nd.watchers&&fg e g nd.mode nd.holders.length nd.aJ nd.gen)))))):=by rw[<-aa eB,kW,aa HYD,<-eC,Zd,show vp nd.path=V1 from aa EV]
 go_cut[32](fun rv wc=>rv=.bool C/\Bw w wc/\jv wc w.heap.size e g x t (.S p n c) (.S (some ⟨b,o,none⟩) m d)/\qV wc (w.heap.size+1) 0 nd (.S pp pn pc) (.S vp' vn vc) (.S hp hh hc) (.S up un uc))
 case first=>(
 cases V1 with
 |false=>
  have Wv:C=true:=by rw[<-eC];rfl
  subst Wv;clear eC;refine dy (fun w'=>w'.cell? ⟨w.heap.size+1,0,none⟩=some (.S pp pn pc)/\w'.cell? ⟨w.heap.size,5,none⟩=some (.S (some ⟨b,o,none⟩) m d)/\Rd w' (.S pp pn pc) nd.path) (by exact⟨NX.c0,IX.2.2.2.2.2,NX.r0⟩) fun hS=>?_;refine jZ 0 1 hS ?_;refine ry [2] ?_;refine cn (fun KK hK=>?_) ?_;{refine jJ (DZ LF (by exact NX.r0) Xz VX EV) ?_;rintro r w2⟨rfl,aF⟩;refine⟨_,rfl,?_⟩;have bL:Bw X w2:=aj (cW X.heap.size X).drew aF;refine gr hK (by exact⟨ag NX.c0 bL,ag IX.2.2.2.2.2 bL,NX.r0.below bL⟩) fun hS=>?_;clear hK KK;refine jZ 3 4 hS ?_;refine nK 5 6 7 8 hS ?_;refine nK 9 10 11 12 hS ?_;refine nK 13 14 15 16 hS ?_;refine nK 17 18 19 20 hS ?_;refine tn 21 hS ?_;refine di ?_;clear hS;go_wp2_with fail;go_meet;exact⟨rfl,aj BX bL,IX.below bL,NX.below bL⟩};exact AllReadyH.nil
 |true=>
  by_cases K8:k=0;{
 have Wv:C=false:=by rw[<-eC,K8];rfl
 subst Wv;have hp':¬0<k:=ae;have do6:¬(0:Int)<(k:Int):=ae;clear eC K8;refine dy (fun w'=>w'.cell? ⟨w.heap.size+1,0,none⟩=some (.S pp pn pc)/\w'.cell? ⟨w.heap.size,5,none⟩=some (.S (some ⟨b,o,none⟩) m d)/\Rd w' (.S pp pn pc) nd.path) (by exact⟨NX.c0,IX.2.2.2.2.2,NX.r0⟩) fun hS=>?_;refine jZ 0 1 hS ?_;refine dE 2 fun KK hK=>?_;refine jJ (DZ LF (by exact NX.r0) Xz VX EV) ?_;rintro r w2⟨rfl,aF⟩;refine⟨_,rfl,?_⟩;have bL:Bw X w2:=aj (cW X.heap.size X).drew aF;refine gr hK (by exact⟨ag NX.c0 bL,ag IX.2.2.2.2.2 bL,NX.r0.below bL⟩) fun hS=>?_;clear hK KK;refine mu 3 4 5 6 hS ?_;refine tn 7 hS ?_;refine nK 8 9 10 11 hS ?_;refine nK 12 13 14 15 hS ?_;refine nK 16 17 18 19 hS ?_;refine jZ 20 21 hS ?_;refine di ?_;clear hS;go_wp2_with fail;go_meet;exact⟨rfl,aj BX bL,IX.below bL,NX.below bL⟩};{
 obtain⟨j,ej⟩:∃j:Nat,(k:Int)-1=(j:Int):=⟨k-1,ae⟩;have Sz:k-1=j:=ae;have zw:j<ns.length:=ae;obtain⟨zd,hz⟩:∃y,ns[j]?=some y:=⟨_,aO zw⟩;have hzD:ns.getD j gu=zd:=by rw[gj,hz];rfl
 obtain⟨Z,Z1,Z2,Z3,hzn⟩:=aa HA j zd hz;obtain⟨zp,zc,zn,rfl,eZn⟩:=hzn.r0.iB;have KZ:=af (ag hzn.c0 BX);have RZ:=af (hzn.r0.below BX);have hpk:0<k:=ae;have do4:=pW 0 k;have hjm:=aP j m;have hj0:=dw 0 j;have wj:=dZ j;rw[Sz,hzD,show(k==0)=false by simp[K8],ox,Jd,Zd]at eC;have HLE:Hid ((Op.bytesLess (aN nd.path).toList (aN zd.path).toList||(aN nd.path).toList==(aN zd.path).toList)=C):=eC;clear hz hzD zw hzn Sz K8 eC;refine dy (fun w'=>w'.cell? ⟨w.heap.size+1,0,none⟩=some (.S pp pn pc)/\w'.cell? ⟨w.heap.size,5,none⟩=some (.S (some ⟨b,o,none⟩) m d)/\Rd w' (.S pp pn pc) nd.path/\w'.cell? ⟨b,o+j*8,none⟩=some (.S zp zn zc)/\Rd w' (.S zp zn zc) zd.path) (by exact⟨NX.c0,IX.2.2.2.2.2,NX.r0,KZ,RZ⟩) fun hS=>?_;refine jZ 0 1 hS ?_;refine ry [2] ?_;refine cn (fun KK hK=>?_) ?_;{
 refine jJ (DZ LF (by exact NX.r0) Xz VX EV) ?_;rintro r w2⟨rfl,aF⟩;refine⟨_,rfl,?_⟩;have bL:Bw X w2:=aj (cW X.heap.size X).drew aF;refine gr hK (by exact⟨ag NX.c0 bL,ag IX.2.2.2.2.2 bL,NX.r0.below bL,ag KZ bL,RZ.below bL⟩) fun hS=>?_;clear hK KK;refine mu 3 4 5 6 hS ?_;refine jZ 7 8 hS ?_;refine tn 9 hS ?_;refine wpAnyH_take (i:=10) (oi:=_) (v:=?_) (by simp only[wC,As,Ar];rfl) bg bg bg (fun _ _ _ h=>h) (Or.inl ⟨aH,?_⟩) hS ?_;rotate_left;{(intro w' vJ;(try dsimp only at vJ);have hcv:=dK (aa LF) vJ.2.2.1;go_simp;try with_reducible rfl)}
 simp only[Act.put,xa,xb,xc];refine mu 11 12 13 14 hS ?_;refine jZ 15 16 hS ?_;refine tn 17 hS ?_;refine wpAnyH_take (i:=18) (oi:=_) (v:=?_) (by simp only[wC,As,Ar];rfl) bg bg bg (fun _ _ _ h=>h) (Or.inl ⟨aH,?_⟩) hS ?_;rotate_left;{(intro w' vJ;(try dsimp only at vJ);have hcv:=dK (aa eZn) vJ.2.2.2.2;go_simp;try with_reducible rfl)}
 simp only[Act.put,xa,xb,xc];refine wpAnyH_take (i:=19) (oi:=_) (v:=?_) (by simp only[wC,As,Ar];rfl) bg bg bg (fun _ _ _ h=>h) (Or.inl ⟨aH,?_⟩) hS ?_;rotate_left;{(intro w' vJ;(try dsimp only at vJ);have hle:=aa HLE;go_simp;try with_reducible rfl)}
 simp only[Act.put,xa,xb,xc];refine jZ 20 21 hS ?_;refine di ?_;clear hS;go_wp2_with fail;go_meet;exact⟨rfl,aj BX bL,IX.below bL,NX.below bL⟩};exact AllReadyH.nil})
 obtain⟨rfl,Cc,⟨i0,i1,i2,i3,i4,i5⟩,vG⟩:=hcut;have zh:=af vG;obtain⟨c0,c1,c2,c3,c4,c5,c6,c7,-,-,-,-,-⟩:=vG;clear EV HA HND NX IX BX;cases C with
 |true=>
  have eF:B=false:=by rw[hB];rfl
  subst eF;clear hB eC;go_wp2;go_ret;exact⟨rfl,Cc⟩
 |false=>
  rw[Zc,ox]at hB;have HB:=af hB;clear hB eC;go_wp2_with fail;obtain⟨pa,pb,pd,epp,hpc,hpm⟩:=zh.k0;simp only[dU]at epp;obtain⟨rfl,rfl,rfl⟩:=epp;have I6:Hid (jv wc w.heap.size e g x t (.S p n c) (.S (some ⟨b,o,none⟩) m d)):=⟨i0,i1,i2,i3,i4,i5⟩;have hcp:∀(vs:Array Value)(w:World),(callFunc 122 vs).run prog w=.ok (.enter 122 vs) w:=fun vs w=>bg;have HCP:=af hcp;have Dz:∀(vs:Array Value)(w:World),(callFunc 121 vs).run prog w=.ok (.enter 121 vs) w:=fun vs w=>bg;have tF:=af Dz;have HBN:Hid (aM (dY nd.path)/\∀nd∈ns,aM nd.path):=⟨rH Xz,fun nd h=>(aa fS nd h).1⟩;clear i0 i1 i2 i3 i4 i5 c0 c1 c2 c3 c4 c5 c6 c7 hcp Dz;obtain⟨C2,eC2⟩:=aI (dQ ns (dY nd.path));have EC2:=af eC2;obtain⟨C3,eC3⟩:∃C3,(!(C2&&decide (nd.value.length<=40)))=C3:=⟨_,rfl⟩;have jc:B=(!C3&&((nd.owner==0||live ss nd.owner)&&(iK ss nd.holders&&(iK ss nd.watchers&&fg e g nd.mode nd.holders.length nd.aJ nd.gen)))):=by rw[aa HB,eC2,<-eC3,Zd,Bool.and_assoc]
  rw[aa eVn]at eC3;clear eC2 HB
  go_cut[44](fun rv w'=>rv=.bool C3/\Bw w w'/\jv w' w.heap.size e g x t (.S p n c) (.S (some ⟨b,o,none⟩) m d)/\qV w' (w.heap.size+1) 0 nd (.S pp pn pc) (.S vp' vn vc) (.S hp hh hc) (.S up un uc))
  case first=>(
 clear jc;cases C2 with
 |false=>
  have Wv:C3=true:=by rw[<-eC3];rfl
  subst Wv;clear eC3;refine dy (fun w'=>jv w' w.heap.size e g x t (.S p n c) (.S (some ⟨b,o,none⟩) m d)/\w'.cell? ⟨w.heap.size+1,0,none⟩=some (.S pp pn pc)/\w'.cell? ⟨w.heap.size+1,1,none⟩=some (.S vp' vn vc)) (by exact⟨I6,zh.c0,zh.c1⟩) fun hS=>?_;refine jZ 0 1 hS ?_;refine tn 2 hS ?_;refine ry [3] ?_;refine cn (fun KK hK=>?_) ?_;{refine iq aH aH aH (fun _=>aa HCP _ _) (ku LF (by exact zh.r0) VX hpc hpm) ?_;rintro r w2⟨q',m',d',rfl,em',hm',hr',aF⟩;refine⟨_,rfl,?_⟩;have bL:Bw wc w2:=aj (cW wc.heap.size wc).drew aF;refine gr hK (by exact⟨I6.below bL,ag zh.c0 bL,ag zh.c1 bL⟩) fun hS=>?_;clear hK KK;refine dE 4 fun KK hK=>?_;refine jI aH aH aH aH (fun _=>aa tF _ _) (jG em em' (aa HR _ (aj Cc bL)).2 hr' hm ae HBN EC2) ?_;rintro r w3⟨rfl,bf⟩;refine⟨_,rfl,?_⟩;have fk:Bw wc w3:=aj bL bf;refine gr hK (by exact⟨I6.below fk,ag zh.c0 fk,ag zh.c1 fk⟩) fun hS=>?_;clear hK KK;refine jZ 5 6 hS ?_;refine nK 7 8 9 10 hS ?_;refine tn 11 hS ?_;refine di ?_;clear hS;go_wp2_with fail;go_meet;exact⟨rfl,aj Cc fk,I6.below fk,zh.below fk⟩};exact AllReadyH.nil
 |true=>
  by_cases h40:vn<=40;{
 have Wv:C3=false:=by rw[<-eC3];simp[h40]
 subst Wv;have cm1:¬(40:Int)<(vn:Int):=ae;clear eC3;refine dy (fun w'=>jv w' w.heap.size e g x t (.S p n c) (.S (some ⟨b,o,none⟩) m d)/\w'.cell? ⟨w.heap.size+1,0,none⟩=some (.S pp pn pc)/\w'.cell? ⟨w.heap.size+1,1,none⟩=some (.S vp' vn vc)) (by exact⟨I6,zh.c0,zh.c1⟩) fun hS=>?_;refine jZ 0 1 hS ?_;refine tn 2 hS ?_;refine dE 3 fun KK hK=>?_;refine iq aH aH aH (fun _=>aa HCP _ _) (ku LF (by exact zh.r0) VX hpc hpm) ?_;rintro r w2⟨q',m',d',rfl,em',hm',hr',aF⟩;refine⟨_,rfl,?_⟩;have bL:Bw wc w2:=aj (cW wc.heap.size wc).drew aF;refine gr hK (by exact⟨I6.below bL,ag zh.c0 bL,ag zh.c1 bL⟩) fun hS=>?_;clear hK KK;refine dE 4 fun KK hK=>?_;refine jI aH aH aH aH (fun _=>aa tF _ _) (jG em em' (aa HR _ (aj Cc bL)).2 hr' hm ae HBN EC2) ?_;rintro r w3⟨rfl,bf⟩;refine⟨_,rfl,?_⟩;have fk:Bw wc w3:=aj bL bf;refine gr hK (by exact⟨I6.below fk,ag zh.c0 fk,ag zh.c1 fk⟩) fun hS=>?_;clear hK KK;refine mu 5 6 7 8 hS ?_;refine jZ 9 10 hS ?_;refine tn 11 hS ?_;refine di ?_;clear hS;go_wp2_with fail;go_meet;exact⟨rfl,aj Cc fk,I6.below fk,zh.below fk⟩};{
 have Wv:C3=true:=by rw[<-eC3];simp[h40]
 subst Wv;have cm1:=pW 40 vn;clear eC3;refine dy (fun w'=>jv w' w.heap.size e g x t (.S p n c) (.S (some ⟨b,o,none⟩) m d)/\w'.cell? ⟨w.heap.size+1,0,none⟩=some (.S pp pn pc)/\w'.cell? ⟨w.heap.size+1,1,none⟩=some (.S vp' vn vc)) (by exact⟨I6,zh.c0,zh.c1⟩) fun hS=>?_;refine jZ 0 1 hS ?_;refine tn 2 hS ?_;refine ry [3] ?_;refine cn (fun KK hK=>?_) ?_;{refine iq aH aH aH (fun _=>aa HCP _ _) (ku LF (by exact zh.r0) VX hpc hpm) ?_;rintro r w2⟨q',m',d',rfl,em',hm',hr',aF⟩;refine⟨_,rfl,?_⟩;have bL:Bw wc w2:=aj (cW wc.heap.size wc).drew aF;refine gr hK (by exact⟨I6.below bL,ag zh.c0 bL,ag zh.c1 bL⟩) fun hS=>?_;clear hK KK;refine dE 4 fun KK hK=>?_;refine jI aH aH aH aH (fun _=>aa tF _ _) (jG em em' (aa HR _ (aj Cc bL)).2 hr' hm ae HBN EC2) ?_;rintro r w3⟨rfl,bf⟩;refine⟨_,rfl,?_⟩;have fk:Bw wc w3:=aj bL bf;refine gr hK (by exact⟨I6.below fk,ag zh.c0 fk,ag zh.c1 fk⟩) fun hS=>?_;clear hK KK;refine mu 5 6 7 8 hS ?_;refine jZ 9 10 hS ?_;refine tn 11 hS ?_;refine di ?_;clear hS;go_wp2_with fail;go_meet;exact⟨rfl,aj Cc fk,I6.below fk,zh.below fk⟩};exact AllReadyH.nil})
  obtain⟨rfl,hbd,⟨i0,i1,i2,i3,i4,i5⟩,bo5⟩:=hcut;have xE:=af bo5;obtain⟨c0,c1,c2,c3,c4,c5,c6,c7,-,-,-,-,-⟩:=bo5;clear I6 zh HCP tF HBN EC2 eC3;cases C3 with
  |true=>
   have eF:B=false:=by rw[jc];rfl
   subst eF;clear jc;go_wp2;go_ret;exact⟨rfl,hbd⟩
  |false=>
   rw[Zc,ox]at jc;obtain⟨ow,eo⟩:=aI nd.owner;rw[eo]at jc c2;clear eo;by_cases ho:ow=0;{
 subst ho;have tG:Hid (B=(iK ss nd.holders&&(iK ss nd.watchers&&fg e g nd.mode nd.holders.length nd.aJ nd.gen))):=jc;clear jc;obtain⟨T1,eT1⟩:=aI (iK ss nd.holders);obtain⟨T2,eT2⟩:=aI (iK ss nd.watchers);obtain⟨T3,eT3⟩:=aI (fg e g nd.mode hh nd.aJ nd.gen);have ET1:=af eT1;have ET2:=af eT2;have ET3:=af eT3;have Iu:Hid (B=(T1&&(T2&&T3))):=by show _=_;rw[aa tG,eT1,eT2,aa SC,eT3]
 clear eT1 eT2 eT3 tG;go_wp2_with fail;refine(qg en SC (aa HR _ hbd).1 xE.r4 hn Xl ET1).mono ?_;rintro r wa⟨rfl,uB⟩;have Ba:=aj hbd uB;have HNa:=af (xE.below uB);cases T1 with
 |false=>
  have eF:B=false:=by rw[aa Iu];rfl
  subst eF;clear Iu;go_wp2;go_ret;exact⟨rfl,Ba⟩
 | true=>
  have a0:=ag i0 uB;have a1:=ag i1 uB;have a2:=ag i2 uB;have a3:=ag i3 uB;have a4:=ag i4 uB;have a5:=ag i5 uB;have d0:=ag c0 uB;have d1:=ag c1 uB;have d2:=ag c2 uB;have d3:=ag c3 uB;have d4:=ag c4 uB;have d5:=ag c5 uB;have d6:=ag c6 uB;have d7:=ag c7 uB;clear i0 i1 i2 i3 i4 i5 c0 c1 c2 c3 c4 c5 c6 c7 uB;go_wp2_with fail;refine(qg en Wt (aa HR _ Ba).1 HNa.r7 hn Xd ET2).mono ?_;rintro r wb⟨rfl,pQ⟩;have Bb:=aj Ba pQ;cases T2 with
  |false=>
   have eF:B=false:=by rw[aa Iu];rfl
   subst eF;clear Iu;go_wp2;go_ret;exact⟨rfl,Bb⟩
  |true=>
   have eT:B=T3:=by rw[aa Iu];rfl
   subst eT;have f0:=ag a0 pQ;have f1:=ag a1 pQ;have f2:=ag a2 pQ;have f3:=ag a3 pQ;have f4:=ag a4 pQ;have f5:=ag a5 pQ;have g0:=ag d0 pQ;have g1:=ag d1 pQ;have g2:=ag d2 pQ;have g3:=ag d3 pQ;have g4:=ag d4 pQ;have g5:=ag d5 pQ;have g6:=ag d6 pQ;have g7:=ag d7 pQ;clear a0 a1 a2 a3 a4 a5 d0 d1 d2 d3 d4 d5 d6 d7 pQ Iu;go_wp2_with fail;refine(yE Xl ET3).mono ?_;rintro r wd⟨rfl,aa9⟩;have Bd:=aj Bb aa9;clear aa9 f0 f1 f2 f3 f4 f5 g0 g1 g2 g3 g4 g5 g6 g7;go_wp2;go_ret;exact⟨rfl,Bd⟩};{
 have hod:(ow==0)=false:=by simp[ho]
 have do7:(ow != 0)=true:=by simp[ho]
 rw[hod,Jd]at jc;obtain⟨L,eL⟩:=aI (live ss ow);have EL:Hid ((ss.any fun s=>s.1==ow)=L):=eL;rw[eL]at jc;have tG:=af jc;clear jc eL;go_wp2_with fail;refine(oF en (aa HR _ hbd).1 hn EL).mono ?_;rintro r w2⟨rfl,aF⟩;have b2:=aj hbd aF;cases L with
 |false=>
  have eF:B=false:=by rw[aa tG];rfl
  subst eF;clear tG;go_wp2;go_ret;exact⟨rfl,b2⟩
 | true=>
  have tG:Hid (B=(iK ss nd.holders&&(iK ss nd.watchers&&fg e g nd.mode nd.holders.length nd.aJ nd.gen))):=aa tG;have HN3:=af (xE.below aF);replace i0:=ag i0 aF;replace i1:=ag i1 aF;replace i2:=ag i2 aF;replace i3:=ag i3 aF;replace i4:=ag i4 aF;replace i5:=ag i5 aF;replace c0:=ag c0 aF;replace c1:=ag c1 aF;replace c2:=ag c2 aF;replace c3:=ag c3 aF;replace c4:=ag c4 aF;replace c5:=ag c5 aF;replace c6:=ag c6 aF;replace c7:=ag c7 aF;clear aF;obtain⟨T1,eT1⟩:=aI (iK ss nd.holders);obtain⟨T2,eT2⟩:=aI (iK ss nd.watchers);obtain⟨T3,eT3⟩:=aI (fg e g nd.mode hh nd.aJ nd.gen);have ET1:=af eT1;have ET2:=af eT2;have ET3:=af eT3;have Iu:Hid (B=(T1&&(T2&&T3))):=by show _=_;rw[aa tG,eT1,eT2,aa SC,eT3]
  clear eT1 eT2 eT3 tG;go_wp2_with fail;refine(qg en SC (aa HR _ b2).1 HN3.r4 hn Xl ET1).mono ?_;rintro r wa⟨rfl,uB⟩;have Ba:=aj b2 uB;have HNa:=af (HN3.below uB);cases T1 with
  |false=>
   have eF:B=false:=by rw[aa Iu];rfl
   subst eF;clear Iu;go_wp2;go_ret;exact⟨rfl,Ba⟩
  | true=>
   have a0:=ag i0 uB;have a1:=ag i1 uB;have a2:=ag i2 uB;have a3:=ag i3 uB;have a4:=ag i4 uB;have a5:=ag i5 uB;have d0:=ag c0 uB;have d1:=ag c1 uB;have d2:=ag c2 uB;have d3:=ag c3 uB;have d4:=ag c4 uB;have d5:=ag c5 uB;have d6:=ag c6 uB;have d7:=ag c7 uB;clear i0 i1 i2 i3 i4 i5 c0 c1 c2 c3 c4 c5 c6 c7 uB;go_wp2_with fail;refine(qg en Wt (aa HR _ Ba).1 HNa.r7 hn Xd ET2).mono ?_;rintro r wb⟨rfl,pQ⟩;have Bb:=aj Ba pQ;cases T2 with
   |false=>
    have eF:B=false:=by rw[aa Iu];rfl
    subst eF;clear Iu;go_wp2;go_ret;exact⟨rfl,Bb⟩
   |true=>
    have eT:B=T3:=by rw[aa Iu];rfl
    subst eT;have f0:=ag a0 pQ;have f1:=ag a1 pQ;have f2:=ag a2 pQ;have f3:=ag a3 pQ;have f4:=ag a4 pQ;have f5:=ag a5 pQ;have g0:=ag d0 pQ;have g1:=ag d1 pQ;have g2:=ag d2 pQ;have g3:=ag d3 pQ;have g4:=ag d4 pQ;have g5:=ag d5 pQ;have g6:=ag d6 pQ;have g7:=ag d7 pQ;clear a0 a1 a2 a3 a4 a5 d0 d1 d2 d3 d4 d5 d6 d7 pQ Iu;go_wp2_with fail;refine(yE Xl ET3).mono ?_;rintro r wd⟨rfl,aa9⟩;have Bd:=aj Bb aa9;clear aa9 f0 f1 f2 f3 f4 f5 g0 g1 g2 g3 g4 g5 g6 g7;go_wp2;go_ret;exact⟨rfl,Bd⟩}
def mw(e g x t:Int)(ss:List aR)(ns:List aB):Bool:=
 decide (e<=4611686018427387904/\g<=4611686018427387904/\x<=4611686018427387904/\0<=t/\t<=1000000/\ss.length<=50/\ns.length<=200)&&((List.range ss.length).all (lX x ss)&&(List.range ns.length).all (kW e g ss ns))
theorem XQ{p q:OA}{c n d m:Nat}(en:Hid (ss.length=n))(em:Hid (ns.length=m)){w:World}(h:yZ w (.S p n c) ss)(hN:qz w (.S q m d) ns)(hn:n<=1048576)(hm:m<=1048576)(qi:Hid (∀s∈ss,s.2.2.length<=1048576/\∀e∈s.2.2,aM e.2/\e.2.length<=1048576))(fS:Hid (∀nd∈ns,aM nd.path/\nd.path.length<=1048576/\nd.value.length<=1048576/\nd.holders.length<=1048576/\nd.watchers.length<=1048576))(eB:Hid (mw e g x t ss ns=B)):Cp 45 #[gh e g x t (.S p n c) (.S q m d)] w fun r w'=>r=.returned (.bool B)/\Bw w w':=by
 have HR:=af fun(w':World)(hb:Bw w w')=>ah (h.below hb) (hN.below hb);have b1:Bw w (w.alloc (.cells #[.U e,.U g,.U x,.I t,.S p n c,.S q m d] 32)):=ay.alloc ao _;have hB:B=(decide (e<=4611686018427387904/\g<=4611686018427387904/\x<=4611686018427387904/\0<=t/\t<=1000000/\n<=50/\m<=200)&&((List.range n).all (lX x ss)&&(List.range m).all (kW e g ss ns))):=by rw[<-aa eB,mw,aa en,aa em]
 have HB:=af hB;clear h hN hB eB;by_cases h0:4611686018427387904<e;{
 have eF:B=false:=by rw[aa HB,yw];exact .inl (tg (fun hh=>ae))
 subst eF;clear HB;go_enter func45,ntmps45;go_wp2;go_ret;exact⟨rfl,b1⟩};{
 have q0:e<=4611686018427387904:=ae;by_cases h1:4611686018427387904<g;{
 have eF:B=false:=by rw[aa HB,yw];exact .inl (tg (fun hh=>ae))
 subst eF;clear HB;go_enter func45,ntmps45;go_wp2;go_ret;exact⟨rfl,b1⟩};{
 have q1:g<=4611686018427387904:=ae;by_cases h2:4611686018427387904<x;{
 have eF:B=false:=by rw[aa HB,yw];exact .inl (tg (fun hh=>ae))
 subst eF;clear HB;go_enter func45,ntmps45;go_wp2;go_ret;exact⟨rfl,b1⟩};{
 have q2:x<=4611686018427387904:=ae;by_cases h3:t<0;{
 have eF:B=false:=by rw[aa HB,yw];exact .inl (tg (fun hh=>ae))
 subst eF;clear HB;go_enter func45,ntmps45;go_wp2;go_ret;exact⟨rfl,b1⟩};{
 have q3:0<=t:=ae;by_cases h4:1000000<t;{
 have eF:B=false:=by rw[aa HB,yw];exact .inl (tg (fun hh=>ae))
 subst eF;clear HB;go_enter func45,ntmps45;go_wp2;go_ret;exact⟨rfl,b1⟩};{
 have q4:t<=1000000:=ae;by_cases h5:(50:Int)<(n:Int);{
 have eF:B=false:=by rw[aa HB,yw];exact .inl (tg (fun hh=>ae))
 subst eF;clear HB;go_enter func45,ntmps45;go_wp2;go_ret;exact⟨rfl,b1⟩};{
 have q5:n<=50:=ae;by_cases h6:(200:Int)<(m:Int);{
 have eF:B=false:=by rw[aa HB,yw];exact .inl (tg (fun hh=>ae))
 subst eF;clear HB;go_enter func45,ntmps45;go_wp2;go_ret;exact⟨rfl,b1⟩};{
 have q6:m<=200:=ae;have vO:Hid (B=((List.range n).all (lX x ss)&&(List.range m).all (kW e g ss ns))):=by show _=_;rw[aa HB,Aq ⟨q0,q1,q2,q3,q4,q5,q6⟩,ox]
 clear HB;go_enter func45,ntmps45;go_wp2_with fail;obtain⟨W,hW⟩:=au (w.alloc (.cells #[.U e,.U g,.U x,.I t,.S p n c,.S q m d] 32));have uY:jv W w.heap.size e g x t (.S p n c) (.S q m d):=by rw[hW];simp[jv]
 rw[<-hW]at b1⊢;clear hW;have BW:=af b1;have WV:=af uY;clear b1 uY;clear h0 h1 h2 h3 h4 h5 h6 q0 q1 q2 q3 q4 q5 q6
 go_loopw[3](fun iv wr=>∃k:Nat,k<=n/\iv=.I k/\Hid ((List.range k).all (lX x ss)=true)/\Bw W wr) (fun iv _=>n-(intOf iv).toNat)
 exact⟨0,gq _,rfl,bq,cW _ _⟩;{
 obtain⟨k,hk,rfl,iC,aG⟩:=hrel;have BB:=aj BW aG;obtain⟨i0,i1,i2,i3,i4,i5⟩:=WV.below aG;by_cases aX:k<n;{
 have bu:=aP k n;obtain⟨T,eT⟩:=aI (lX x ss k);have ET:=af eT;go_wp2_with fail;refine(CL en (aa HR _ BB).1 hn aX qi ET).mono ?_;rintro r w2⟨rfl,aF⟩;clear i0 i1 i2 i3 i4 i5;cases T with
 |false=>
  have eF:B=false:=by rw[aa vO,fo aX eT];rfl
  subst eF;have b2:=aj BB aF;clear vO eT aF;go_wp2;go_ret;exact⟨rfl,b2⟩
 |true=>
  have ta:=af (dr iC eT);have b2:=aj aG aF;clear eT aF BB;go_wp2;go_roundw;exact⟨k+1,ae,by go_num,ta,b2⟩;exact bG};{
 have bu:=du k n;have vL:k=n:=ae;have tG:Hid (B=(List.range m).all (kW e g ss ns)):=by show _=_;rw[aa vO,show(List.range n).all (lX x ss)=true from vL▸aa iC,ox]
 have HC7:=af (WV.below aG);clear vO vL iC;go_wp2_with fail;clear i0 i1 i2 i3 i4 i5;obtain⟨Y,eY⟩:=au wr;subst eY;have BY:=af BB;clear BB aG aX bu hk
 go_loopw[4](fun iv wr=>∃k:Nat,k<=m/\iv=.I k/\Hid ((List.range k).all (kW e g ss ns)=true)/\Bw Y wr) (fun iv _=>m-(intOf iv).toNat)
 exact⟨0,gq _,rfl,bq,cW _ _⟩;{
 obtain⟨j,hk,rfl,iC,aG⟩:=hrel;have BB:=aj BY aG;obtain⟨i0,i1,i2,i3,i4,i5⟩:=HC7.below aG;by_cases aX:j<m;{
 have bu:=aP j m;obtain⟨T,eT⟩:=aI (kW e g ss ns j);have ET:=af eT;go_wp2_with fail;refine(KJ en em (aa HR _ BB).1 (aa HR _ BB).2 hn hm aX fS ET).mono ?_;rintro r w2⟨rfl,aF⟩;clear i0 i1 i2 i3 i4 i5;cases T with
 |false=>
  have eF:B=false:=by rw[aa tG];exact fo aX eT
  subst eF;have b2:=aj BB aF;clear tG eT aF;go_wp2;go_ret;exact⟨rfl,b2⟩
 |true=>
  have ta:=af (dr iC eT);have b2:=aj aG aF;clear eT aF BB;go_wp2;go_roundw;exact⟨j+1,ae,by go_num,ta,b2⟩;exact bG};{
 have bu:=du j m;have ekm:j=m:=ae;have eT:B=true:=by rw[aa tG,<-ekm];exact aa iC
 subst eT;clear tG ekm iC;go_wp2;go_ret;exact⟨rfl,BB⟩}}}}}}}}}}}
def Il(x y:Int):Int:=if x<y then -1 else if y<x then 1 else 0
def Jl{w:World}:Cp 217 #[.U x] w fun e w'=>e=.returned (.bool false)/\w'=w:=by
 go_enter func217,ntmps217;go_wp2;go_ret;refine⟨?_,rfl⟩;simp
def yS{y:Int}{w:World}:Cp 185 #[.U x,.U y] w fun e w'=>e=.returned (.I (Il x y))/\w'=w:=by
 obtain⟨C,eC⟩:=aI (Il x y);rw[eC];have EC:=af eC;clear eC;go_enter func185,ntmps185;go_wp2_with fail;refine(Jl).mono ?_;rintro e w1⟨rfl,rfl⟩;go_wp2_with fail;refine(Jl).mono ?_;rintro e w2⟨rfl,rfl⟩;by_cases h1:x<y;{
 have e1:C=-1:=by rw[<-aa EC];rw[Il,bN h1]
 subst e1;go_wp2;go_ret;exact⟨rfl,rfl⟩};{
 by_cases h2:y<x;{
 have e1:C=1:=by rw[<-aa EC];rw[Il,bH h1,bN h2]
 subst e1;go_wp2;go_ret;exact⟨rfl,rfl⟩};{
 have e1:C=0:=by rw[<-aa EC];rw[Il,bH h1,bH h2]
 subst e1;go_wp2;go_ret;exact⟨rfl,rfl⟩}}
theorem Bk{w:World}(h:Rd w (.S p l.length c) l):(Extern.Bytes.bytesOf (.S p l.length c)).run prog w=.ok ⟨(Lib.bytesOf l).toArray⟩ w:=by
 cases p with
 |none=>
  have e:=h.rI;subst e;simp only[Extern.Bytes.bytesOf,Sem.run_pure]
  rfl
 |some a=>
  obtain⟨n1,n2,n3⟩:=h.news;have:=Lib.run_loadBytesX (P:=prog) w l a .empty (fun j x hj=>n2 j _ (by rw[kU,hj];rfl));simp only[Extern.Bytes.bytesOf];rw[this]
  congr 1
  apply ByteArray.ext;simp
def Yi{w:World}{p q:OA}{d:Nat}(h:Rd w (.S p l.length c) l)(k:Rd w (.S q m.length d) m):(Extern.BytealgCompare.compare #[.S p l.length c,.S q m.length d]).run prog w=.ok (.I (Lib.compareBytes (Lib.bytesOf l) (Lib.bytesOf m))) w:=by
 change Sem.run prog (do pure (goInt (Extern.BytealgCompare.cmp (<-Extern.Bytes.bytesOf (.S p l.length c)) (<-Extern.Bytes.bytesOf (.S q m.length d))))) w=_
 simp only[Sem.run_bind,Bk h,Bk k,Sem.run_pure,Result.andThen];rw[Lib.cmp_eq]
 rfl
def ag4(l m:LI):Int:=Lib.compareBytes (Lib.bytesOf l) (Lib.bytesOf m)
theorem Py:∀(a b:List UInt8),(0<=Lib.compareBytes a b)=(Op.bytesLess b a=true\/b=a)
 |[],[]=>by simp[Lib.compareBytes]
 |[],_::_=>by simp[Lib.compareBytes,Op.bytesLess]
 |_::_,[]=>by simp[Lib.compareBytes,Op.bytesLess]
 |x::a,y::b=>by
  have ih:=Py a b;rw[Lib.compareBytes,Op.bytesLess];by_cases h1:x<y;{
 have h2:¬y<x:=fun h=>Zb _ (UInt8.lt_trans h1 h);have h3:¬y=x:=fun h=>by subst h;exact Zb _ h1
 simp[h1,h2,h3]};{by_cases h2:y<x;{simp[h1,h2]};{have h3:y=x:=UInt8.le_antisymm (Za.1 h1) (Za.1 h2);subst h3;simp only[h1,wu,ih];simp}}
def ay4(l m:LI):decide (0<=ag4 l m)=leB m l:=by
 rw[leB,fE,fE,Jg,oq,ag4,Py];simp only[Jc,NC];exact Iff.rfl
def LK{p q:OA}{c d n k:Nat}(el:Hid (l.length=n))(em:Hid (m.length=k)){w:World}(h1:Rd w (.S p n c) l)(h2:Rd w (.S q k d) m):Cp 189 #[.S p n c,.S q k d] w fun e w'=>e=.returned (.I (ag4 l m))/\w'=w:=by
 have e1:=aa el;have e2:=aa em;subst e1 e2;go_enter func189,ntmps189;go_wp2;rw[run_callFunc_extern func220 bg bg bg (e:=Extern.BytealgCompare.compare) bg,Yi h1 h2];simp only[Result.andThen];rw[Oper.upon_value];go_wp2;go_ret;exact⟨rfl,rfl⟩
def tX{P:Program}{w:World}{ops:Array Oper}{o:Oper}{a:Act}{K:Act->World->Prop}{Q:Exit->Act->World->Prop}{E:Prop}{R:Ending->World->Prop}(mr:o.guard=none){f:FuncId}{x0 x1 x2:Operand}{Vf:Array TypeId}(ho:o.op=.call {callee:=.value x0,args:=#[x1,x2],argTypes:=Vf}){v1 v2:Value}(h0:a.eval x0=.func (.func f) #[] #[])(h1:a.eval x1=v1)(h2:a.eval x2=v2)(xB:∀vs,(callFunc f vs).run P w=.ok (.enter f vs) w)(hc:Calls P f #[v1,v2] w R)(hR:∀e w',R e w'->∃v,e=.returned v/\K (a.put o.dst v) w'):if Region.wanted o (yielded ops a.tmps)=true then Oper.wp P o a w K Q else E:=by
 have hw:Region.wanted o (yielded ops a.tmps)=true:=by simp[Region.wanted,mr]
 rw[bN hw];have dI:(execOp a.eval o).run P w=.ok (.enter f #[v1,v2]) w:=by subst h1 h2;unfold execOp;simp[ho,resolve,invoke,xB,h0,Deferred.ofValue,Sem.run_bind,Sem.run_pure,Result.andThen]
 show o.upon P a K Q _;rw[dI,Oper.upon_enter];refine hc.mono ?_;intro e w' h;obtain⟨v,rfl,hk⟩:=hR e w' h;exact hk
def jR(n:Nat)(lt:Nat->Nat->Bool):Bool:=(List.range n).all fun i=>i==0||lt (i-1) i
def Tg{f:Nat->Bool}{k n:Nat}(h:(List.range k).all f=true)(hn:n<=k):(List.range n).all f=true:=by
 rw[iT]at h⊢;exact fun i hi=>h i (yv.2 (kV (yv.1 hi) hn))
def ay5{i1 d1 i2 d2:Int}{q1 q2:Value}{w:World}:Cp 184 #[.agg #[.U i1,.I d1,q1],.agg #[.U i2,.I d2,q2]] w fun e w'=>e=.returned (.I (Il i1 i2))/\Bw w w':=by
 go_enter func184,ntmps184;go_wp2_with fail;refine(yS).mono ?_;rintro e w1⟨rfl,rfl⟩;go_wp2;go_ret;exact⟨rfl,(ay.alloc ao _).alloc ai _⟩
def ay6{p1 p2:OA}{c1 c2 n1 n2:Nat}{l1 l2:LI}(e1:Hid (l1.length=n1))(e2:Hid (l2.length=n2)){V1 V2 H1 H2 U1 U2:Value}{o1 o2 m1 m2 x1 x2 g1 g2:Int}{w:World}(h1:Rd w (.S p1 n1 c1) l1)(h2:Rd w (.S p2 n2 c2) l2):Cp 188 #[YL (.S p1 n1 c1) V1 o1 m1 H1 x1 g1 U1,YL (.S p2 n2 c2) V2 o2 m2 H2 x2 g2 U2] w fun e w'=>e=.returned (.I (ag4 l1 l2))/\Bw w w':=by
 have HR:=af fun(w':World)(hb:Bw w w')=>ah (h1.below hb) (h2.below hb);go_enter func188,ntmps188;go_wp2_with fail;have b1:Bw w ((w.alloc (.cells #[.S p1 n1 c1,V1,.U o1,.I m1,H1,.U x1,.U g1,U1] 93)).alloc (.cells #[.S p2 n2 c2,V2,.U o2,.I m2,H2,.U x2,.U g2,U2] 93)):=(ay.alloc ao _).alloc ai _;refine(LK e1 e2 (aa HR _ b1).1 (aa HR _ b1).2).mono ?_;rintro e w1⟨rfl,rfl⟩;go_wp2;go_ret;exact⟨rfl,b1⟩
theorem PM{c n:Nat}(en:Hid (l.length=n)){w:World}(h:qT w (.S p n c) l)(hn:n<=1048576)(eB:Hid (jR n (fun i j=>decide (l.getD i 0<l.getD j 0))=B)):Cp 219 #[.S p n c,.func (.func 185) #[] #[]] w fun r w'=>r=.returned (.bool B)/\Bw w w':=by
 have HR:=af fun(w':World)(hb:Bw w w')=>h.below hb;have xB:∀(vs:Array Value)(w:World),(callFunc 185 vs).run prog w=.ok (.enter 185 vs) w:=fun vs w=>bg;have HCF:=af xB;go_enter func219,ntmps219;go_wp2_with fail
 go_loopw[5](fun iv wr=>∃k:Nat,1<=k/\(k<=n\/k=1)/\iv=.I k/\Hid ((List.range k).all (fun i=>i==0||(fun i j=>decide (l.getD i 0<l.getD j 0)) (i-1) i)=true)/\Bw w wr) (fun iv _=>n-(intOf iv).toNat)
 exact⟨1,jS _,.inr rfl,rfl,bq,cW _ _⟩;{
 obtain⟨k,jQ,hkn,rfl,iC,aG⟩:=hrel;by_cases aX:k<n;{
 have bu:=aP k n;have dA:k<l.length:=by rw[aa en];exact aX
 obtain⟨j,ej⟩:∃j:Nat,(k:Int)-1=(j:Int):=⟨k-1,ae⟩;have Sz:k-1=j:=ae;have zw:j<l.length:=ae;have hjm:=aP j n;have hj0:=dw 0 j;have wj:=dZ j;obtain⟨b,o,rfl,cO⟩:∃b o,p=some ⟨b,o,none⟩/\∀i,i<n->wr.cell? ⟨b,o+i,none⟩=some (.U (l.getD i 0)):=by obtain⟨p',c',ev,hd⟩:=aa HR _ aG;simp only[dU]at ev;obtain⟨rfl,-,-⟩:=ev;rcases hd with h0|⟨b,o,h1,h2⟩;{rw[h0]at dA;simp at dA};{exact⟨b,o,h1,fun i hi=>h2 i (by rw[aa en];exact hi)⟩}
 have zE:=cO k aX;have hcz:=cO j ae;obtain⟨y,ey⟩:=aI (l.getD k 0);obtain⟨z,ez⟩:=aI (l.getD j 0);rw[ey]at zE;rw[ez]at hcz;have K0:=af (ah hcz zE);obtain⟨C,eC⟩:=aI (Il z y);have fD:((k==0)||(fun i j=>decide (l.getD i 0<l.getD j 0)) (k-1) k)=!decide (0<=C):=by rw[show(k==0)=false by simp;omega,Jd,Sz];show decide (l.getD j 0<l.getD k 0)=_;rw[ey,ez,<-eC,Il];by_cases h1:z<y;{simp[h1]};{by_cases h2:y<z;{simp[h1,h2]};{simp[h1,h2]}}
 have hF:decide (0<=C)=true->B=false:=fun h=>by rw[<-aa eB,jR];exact fo aX (by rw[fD,h];rfl)
 have hT:decide (0<=C)=false->Hid ((List.range (k+1)).all (fun i=>i==0||(fun i j=>decide (l.getD i 0<l.getD j 0)) (i-1) i)=true):=fun h=>dr (aa iC) (by rw[fD,h];rfl);have EC:=af eC;obtain⟨D,eD⟩:∃D,decide (0<=C)=D:=⟨_,rfl⟩;have HF:=af (fun h:D=true=>hF (eD.trans h));have HT:=af (fun h:D=false=>hT (eD.trans h));go_wp2_with fail
 go_cut[23](fun rv wc=>rv=.bool D/\Bw w wc)
 case first=>(
 refine dy (fun w'=>w'.cell? ⟨b,o+j,none⟩=some (.U z)/\w'.cell? ⟨b,o+k,none⟩=some (.U y)) (by exact K0) fun hS=>?_;refine mn 0 1 2 3 4 5 6 7 hS ?_;refine jZ 8 9 hS ?_;refine ry [10] ?_;refine cn (fun KK hK=>?_) ?_;{refine tX aH aH aH aH aH (fun _=>aa HCF _ _) (yS) ?_;rintro r w2⟨rfl,rfl⟩;refine⟨_,rfl,?_⟩;have bL:Bw wr wr.drew:=ay.drew;rw[aa EC];refine gr hK hS fun hS=>?_;refine tn 11 hS ?_;refine di ?_;go_wp2_with fail;go_meet;exact⟨rfl,aj aG bL⟩};exact AllReadyH.nil)
 obtain⟨rfl,Cc⟩:=hcut;cases D with
 |true=>
  have eF:=aa HF rfl;subst eF;go_wp2;go_ret;exact⟨rfl,Cc⟩
 |false=>
  have ta:=aa HT rfl;go_wp2;go_roundw;exact⟨k+1,ae,.inl ae,by go_num,ta,Cc⟩;exact bG};{
 have bu:=du k n;have eT:B=true:=by rw[<-aa eB,jR];exact Tg iC ae
 subst eT;go_wp2;go_ret;exact⟨rfl,aG⟩}}
theorem ah5{c n:Nat}{l:List aR}(en:Hid (l.length=n)){w:World}(h:yZ w (.S p n c) l)(hn:n<=1048576)(eB:Hid (jR n (fun i j=>decide ((l.getD i (0,0,[])).1<(l.getD j (0,0,[])).1))=B)):Cp 183 #[.S p n c,.func (.func 184) #[] #[]] w fun r w'=>r=.returned (.bool B)/\Bw w w':=by
 have HR:=af fun(w':World)(hb:Bw w w')=>h.below hb;have xB:∀(vs:Array Value)(w:World),(callFunc 184 vs).run prog w=.ok (.enter 184 vs) w:=fun vs w=>bg;have HCF:=af xB;go_enter func183,ntmps183;go_wp2_with fail
 go_loopw[5](fun iv wr=>∃k:Nat,1<=k/\(k<=n\/k=1)/\iv=.I k/\Hid ((List.range k).all (fun i=>i==0||(fun i j=>decide ((l.getD i (0,0,[])).1<(l.getD j (0,0,[])).1)) (i-1) i)=true)/\Bw w wr) (fun iv _=>n-(intOf iv).toNat)
 exact⟨1,jS _,.inr rfl,rfl,bq,cW _ _⟩;{
 obtain⟨k,jQ,hkn,rfl,iC,aG⟩:=hrel;by_cases aX:k<n;{
 have bu:=aP k n;have dA:k<l.length:=by rw[aa en];exact aX
 obtain⟨j,ej⟩:∃j:Nat,(k:Int)-1=(j:Int):=⟨k-1,ae⟩;have Sz:k-1=j:=ae;have zw:j<l.length:=ae;have hjm:=aP j n;have hj0:=dw 0 j;have wj:=dZ j;obtain⟨⟨y,yd,yq⟩,hy⟩:∃y,l[k]?=some y:=⟨_,aO dA⟩;obtain⟨⟨z,zd,zq⟩,hz⟩:∃y,l[j]?=some y:=⟨_,aO zw⟩;obtain⟨b,o,rfl,⟨y1,y2,yu,y3,-⟩,z1,z2,zu,z3,-⟩:∃b o,p=some ⟨b,o,none⟩/\(wr.cell? ⟨b,o+k*3,none⟩=some (.U y)/\wr.cell? ⟨b,o+k*3+1,none⟩=some (.I yd)/\∃u,wr.cell? ⟨b,o+k*3+2,none⟩=some u/\Io wr u yq)/\(wr.cell? ⟨b,o+j*3,none⟩=some (.U z)/\wr.cell? ⟨b,o+j*3+1,none⟩=some (.I zd)/\∃u,wr.cell? ⟨b,o+j*3+2,none⟩=some u/\Io wr u zq):=by obtain⟨p',c',ev,hd⟩:=aa HR _ aG;simp only[dU]at ev;obtain⟨rfl,-,-⟩:=ev;rcases hd with h0|⟨b,o,h1,h2⟩;{rw[h0]at dA;simp at dA};{exact⟨b,o,h1,h2 k _ hy,h2 j _ hz⟩}
 have ey:(l.getD k (0,0,[])).1=y:=by rw[gj,hy];rfl
 have ez:(l.getD j (0,0,[])).1=z:=by rw[gj,hz];rfl
 have K0:=af (ah z1 (ah z2 (ah z3 (ah y1 (ah y2 y3)))));obtain⟨C,eC⟩:=aI (Il z y);have fD:((k==0)||(fun i j=>decide ((l.getD i (0,0,[])).1<(l.getD j (0,0,[])).1)) (k-1) k)=!decide (0<=C):=by rw[show(k==0)=false by simp;omega,Jd,Sz];show decide ((l.getD j (0,0,[])).1<(l.getD k (0,0,[])).1)=_;rw[ey,ez,<-eC,Il];by_cases h1:z<y;{simp[h1]};{by_cases h2:y<z;{simp[h1,h2]};{simp[h1,h2]}}
 have hF:decide (0<=C)=true->B=false:=fun h=>by rw[<-aa eB,jR];exact fo aX (by rw[fD,h];rfl)
 have hT:decide (0<=C)=false->Hid ((List.range (k+1)).all (fun i=>i==0||(fun i j=>decide ((l.getD i (0,0,[])).1<(l.getD j (0,0,[])).1)) (i-1) i)=true):=fun h=>dr (aa iC) (by rw[fD,h];rfl);have EC:=af eC;obtain⟨D,eD⟩:∃D,decide (0<=C)=D:=⟨_,rfl⟩;have HF:=af (fun h:D=true=>hF (eD.trans h));have HT:=af (fun h:D=false=>hT (eD.trans h));go_wp2_with fail
 go_cut[23](fun rv wc=>rv=.bool D/\Bw w wc)
 case first=>(
 refine dy (fun w'=>w'.cell? ⟨b,o+j*3,none⟩=some (.U z)/\w'.cell? ⟨b,o+j*3+1,none⟩=some (.I zd)/\w'.cell? ⟨b,o+j*3+2,none⟩=some zu/\w'.cell? ⟨b,o+k*3,none⟩=some (.U y)/\w'.cell? ⟨b,o+k*3+1,none⟩=some (.I yd)/\w'.cell? ⟨b,o+k*3+2,none⟩=some yu) (by exact K0) fun hS=>?_;refine mn 0 1 2 3 4 5 6 7 hS ?_;refine jZ 8 9 hS ?_;refine ry [10] ?_;refine cn (fun KK hK=>?_) ?_;{refine tX aH aH aH aH aH (fun _=>aa HCF _ _) (ay5) ?_;rintro r w2⟨rfl,aF⟩;refine⟨_,rfl,?_⟩;have bL:Bw wr w2:=aj (cW wr.heap.size wr).drew aF;rw[aa EC];refine gr hK (by obtain⟨k1,k2,k3,k4,k5,k6⟩:=aa K0;exact⟨ag k1 bL,ag k2 bL,ag k3 bL,ag k4 bL,ag k5 bL,ag k6 bL⟩) fun hS=>?_;refine tn 11 hS ?_;refine di ?_;go_wp2_with fail;go_meet;exact⟨rfl,aj aG bL⟩};exact AllReadyH.nil)
 obtain⟨rfl,Cc⟩:=hcut;cases D with
 |true=>
  have eF:=aa HF rfl;subst eF;go_wp2;go_ret;exact⟨rfl,Cc⟩
 |false=>
  have ta:=aa HT rfl;go_wp2;go_roundw;exact⟨k+1,ae,.inl ae,by go_num,ta,Cc⟩;exact bG};{
 have bu:=du k n;have eT:B=true:=by rw[<-aa eB,jR];exact Tg iC ae
 subst eT;go_wp2;go_ret;exact⟨rfl,aG⟩}}
theorem ah6{c n:Nat}{l:List aB}(en:Hid (l.length=n)){w:World}(h:qz w (.S p n c) l)(hn:n<=1048576)(eB:Hid (jR n (fun i j=>!leB (l.getD j gu).path (l.getD i gu).path)=B)):Cp 187 #[.S p n c,.func (.func 188) #[] #[]] w fun r w'=>r=.returned (.bool B)/\Bw w w':=by
 have HR:=af fun(w':World)(hb:Bw w w')=>h.below hb;have xB:∀(vs:Array Value)(w:World),(callFunc 188 vs).run prog w=.ok (.enter 188 vs) w:=fun vs w=>bg;have HCF:=af xB;go_enter func187,ntmps187;go_wp2_with fail
 go_loopw[5](fun iv wr=>∃k:Nat,1<=k/\(k<=n\/k=1)/\iv=.I k/\Hid ((List.range k).all (fun i=>i==0||(fun i j=>!leB (l.getD j gu).path (l.getD i gu).path) (i-1) i)=true)/\Bw w wr) (fun iv _=>n-(intOf iv).toNat)
 exact⟨1,jS _,.inr rfl,rfl,bq,cW _ _⟩;{
 obtain⟨k,jQ,hkn,rfl,iC,aG⟩:=hrel;by_cases aX:k<n;{
 have bu:=aP k n;have dA:k<l.length:=by rw[aa en];exact aX
 obtain⟨j,ej⟩:∃j:Nat,(k:Int)-1=(j:Int):=⟨k-1,ae⟩;have Sz:k-1=j:=ae;have zw:j<l.length:=ae;have hjm:=aP j n;have hj0:=dw 0 j;have wj:=dZ j;obtain⟨yn',hy⟩:∃y,l[k]?=some y:=⟨_,aO dA⟩;obtain⟨zn',hz⟩:∃y,l[j]?=some y:=⟨_,aO zw⟩;obtain⟨b,o,rfl,hA⟩:=(aa HR _ aG).at ae;obtain⟨yP,yV,yH,yU,ny⟩:=hA k _ hy;obtain⟨zP,zV,zH,zU,nz⟩:=hA j _ hz;have ey:(l.getD k gu).path=yn'.path:=by rw[gj,hy];rfl
 have ez:(l.getD j gu).path=zn'.path:=by rw[gj,hz];rfl
 obtain⟨yp,yc,yn,rfl,eyn⟩:=ny.r0.iB;obtain⟨zp,zc,zn,rfl,ezn⟩:=nz.r0.iB;have RY:=af ny.r0;have RZ:=af nz.r0;obtain⟨y0,y1,y2,y3,y4,y5,y6,y7,-,-,-,-,-⟩:=ny;obtain⟨z0,z1,z2,z3,z4,z5,z6,z7,-,-,-,-,-⟩:=nz;obtain⟨yo,ym,ye,yg,e1,e2,e3,e4⟩:∃a b c d,yn'.owner=a/\yn'.mode=b/\yn'.aJ=c/\yn'.gen=d:=⟨_,_,_,_,rfl,rfl,rfl,rfl⟩;obtain⟨zo,zm,ze,zg,f1,f2,f3,f4⟩:∃a b c d,zn'.owner=a/\zn'.mode=b/\zn'.aJ=c/\zn'.gen=d:=⟨_,_,_,_,rfl,rfl,rfl,rfl⟩;rw[e1]at y2;rw[e2]at y3;rw[e3]at y5;rw[e4]at y6;rw[f1]at z2;rw[f2]at z3;rw[f3]at z5;rw[f4]at z6;have K0:=af (ah z0 (ah z1 (ah z2 (ah z3 (ah z4 (ah z5 (ah z6 (ah z7 (ah y0 (ah y1 (ah y2 (ah y3 (ah y4 (ah y5 (ah y6 y7)))))))))))))));obtain⟨C,eC⟩:=aI (ag4 zn'.path yn'.path);have fD:((k==0)||(fun i j=>!leB (l.getD j gu).path (l.getD i gu).path) (k-1) k)=!decide (0<=C):=by rw[show(k==0)=false by simp;omega,Jd,Sz];show(!leB (l.getD k gu).path (l.getD j gu).path)=_;rw[ey,ez,<-eC,ay4]
 have hF:decide (0<=C)=true->B=false:=fun h=>by rw[<-aa eB,jR];exact fo aX (by rw[fD,h];rfl)
 have hT:decide (0<=C)=false->Hid ((List.range (k+1)).all (fun i=>i==0||(fun i j=>!leB (l.getD j gu).path (l.getD i gu).path) (i-1) i)=true):=fun h=>dr (aa iC) (by rw[fD,h];rfl);have EC:=af eC;obtain⟨D,eD⟩:∃D,decide (0<=C)=D:=⟨_,rfl⟩;have HF:=af (fun h:D=true=>hF (eD.trans h));have HT:=af (fun h:D=false=>hT (eD.trans h));go_wp2_with fail
 go_cut[23](fun rv wc=>rv=.bool D/\Bw w wc)
 case first=>(
 refine dy (fun w'=>w'.cell? ⟨b,o+j*8,none⟩=some (.S zp zn zc)/\w'.cell? ⟨b,o+j*8+1,none⟩=some zV/\w'.cell? ⟨b,o+j*8+2,none⟩=some (.U zo)/\w'.cell? ⟨b,o+j*8+3,none⟩=some (.I zm)/\w'.cell? ⟨b,o+j*8+4,none⟩=some zH/\w'.cell? ⟨b,o+j*8+5,none⟩=some (.U ze)/\w'.cell? ⟨b,o+j*8+6,none⟩=some (.U zg)/\w'.cell? ⟨b,o+j*8+7,none⟩=some zU/\w'.cell? ⟨b,o+k*8,none⟩=some (.S yp yn yc)/\w'.cell? ⟨b,o+k*8+1,none⟩=some yV/\w'.cell? ⟨b,o+k*8+2,none⟩=some (.U yo)/\w'.cell? ⟨b,o+k*8+3,none⟩=some (.I ym)/\w'.cell? ⟨b,o+k*8+4,none⟩=some yH/\w'.cell? ⟨b,o+k*8+5,none⟩=some (.U ye)/\w'.cell? ⟨b,o+k*8+6,none⟩=some (.U yg)/\w'.cell? ⟨b,o+k*8+7,none⟩=some yU) (by exact K0) fun hS=>?_;refine mn 0 1 2 3 4 5 6 7 hS ?_;refine jZ 8 9 hS ?_;refine ry [10] ?_;refine cn (fun KK hK=>?_) ?_;{refine tX aH aH aH aH aH (fun _=>aa HCF _ _) (ay6 ezn eyn (RZ.below ay.drew) (RY.below ay.drew)) ?_;rintro r w2⟨rfl,aF⟩;refine⟨_,rfl,?_⟩;have bL:Bw wr w2:=aj (cW wr.heap.size wr).drew aF;rw[aa EC];refine gr hK (by obtain⟨k0,k1,k2,k3,k4,k5,k6,k7,k8,k9,k10,k11,k12,k13,k14,k15⟩:=aa K0;exact⟨ag k0 bL,ag k1 bL,ag k2 bL,ag k3 bL,ag k4 bL,ag k5 bL,ag k6 bL,ag k7 bL,ag k8 bL,ag k9 bL,ag k10 bL,ag k11 bL,ag k12 bL,ag k13 bL,ag k14 bL,ag k15 bL⟩) fun hS=>?_;refine tn 11 hS ?_;refine di ?_;go_wp2_with fail;go_meet;exact⟨rfl,aj aG bL⟩};exact AllReadyH.nil)
 obtain⟨rfl,Cc⟩:=hcut;cases D with
 |true=>
  have eF:=aa HF rfl;subst eF;go_wp2;go_ret;exact⟨rfl,Cc⟩
 |false=>
  have ta:=aa HT rfl;go_wp2;go_roundw;exact⟨k+1,ae,.inl ae,by go_num,ta,Cc⟩;exact bG};{
 have bu:=du k n;have eT:B=true:=by rw[<-aa eB,jR];exact Tg iC ae
 subst eT;go_wp2;go_ret;exact⟨rfl,aG⟩}}
def pX(w:World)(v:Value)(es:List Ev):Prop:=
 ∃(p:OA)(c:Nat),v=.S p es.length c/\(es=[]\/∃b o,p=some ⟨b,o,none⟩/\∀i e,es[i]?=some e->w.cell? ⟨b,o+i*2,none⟩=some (.I e.1)/\∃u,w.cell? ⟨b,o+i*2+1,none⟩=some u/\Rd w u e.2/\px u)
def pX.rd{w:World}(h:pX w v es):Io w v es:=by
 obtain⟨p,c,rfl,h⟩:=h;refine⟨p,c,rfl,?_⟩;rcases h with h|⟨b,o,rfl,h⟩;{exact .inl h};{refine .inr ⟨b,o,rfl,fun i e he=>?_⟩;obtain⟨h1,u,h2,h3,_⟩:=h i e he;exact⟨h1,u,h2,h3⟩}
def pX.below{w w':World}(h:pX w v es)(hb:Bw w w'):pX w' v es:=by
 obtain⟨p,c,rfl,h⟩:=h;refine⟨p,c,rfl,?_⟩;rcases h with h|⟨b,o,rfl,h⟩;{exact .inl h};{refine .inr ⟨b,o,rfl,fun i e he=>?_⟩;obtain⟨h1,u,h2,h3,h4⟩:=h i e he;exact⟨ag h1 hb,u,ag h2 hb,h3.below hb,h4⟩}
def nI(w:World)(v:Value)(ss:List aR):Prop:=
 ∃(p:OA)(c:Nat),v=.S p ss.length c/\(ss=[]\/∃b o,p=some ⟨b,o,none⟩/\∀i s,ss[i]?=some s->w.cell? ⟨b,o+i*3,none⟩=some (.U s.1)/\w.cell? ⟨b,o+i*3+1,none⟩=some (.I s.2.1)/\∃u,w.cell? ⟨b,o+i*3+2,none⟩=some u/\pX w u s.2.2)
def nI.rd{w:World}(h:nI w v ss):yZ w v ss:=by
 obtain⟨p,c,rfl,h⟩:=h;refine⟨p,c,rfl,?_⟩;rcases h with h|⟨b,o,rfl,h⟩;{exact .inl h};{refine .inr ⟨b,o,rfl,fun i e he=>?_⟩;obtain⟨h1,h2,u,h3,h4⟩:=h i e he;exact⟨h1,h2,u,h3,h4.rd⟩}
def nI.below{w w':World}(h:nI w v ss)(hb:Bw w w'):nI w' v ss:=by
 obtain⟨p,c,rfl,h⟩:=h;refine⟨p,c,rfl,?_⟩;rcases h with h|⟨b,o,rfl,h⟩;{exact .inl h};{refine .inr ⟨b,o,rfl,fun i e he=>?_⟩;obtain⟨h1,h2,u,h3,h4⟩:=h i e he;exact⟨ag h1 hb,ag h2 hb,u,ag h3 hb,h4.below hb⟩}
def ML(w:World):Prop:=∃m,w.cell? ⟨1,0,none⟩=some (.I m)
def ML.below{w w':World}(h:ML w)(hb:Bw w w'):ML w':=by
 obtain⟨m,h⟩:=h;exact⟨m,ag h hb⟩
def px.of{n c:Nat}(h:px (.S p n c)):n<=c/\c<=maxLen:=by
 obtain⟨p',n',c',e,h1,h2⟩:=h;simp only[dU]at e;obtain⟨rfl,rfl,rfl⟩:=e;exact⟨h1,h2⟩
def Mz{K:Int}{pp:OA}{pc m i:Nat}{P:LI}(em:Hid (P.length=m)){w:World}(hR:Rd w (.S pp m pc) P)(hB:Hid (aM P))(hm:m<=1048576)(sG:px (.S pp m pc))(GO:ML w)(eB:Hid (jV i (K,P)=B)):Cp 216 #[.agg #[.I K,.S pp m pc],.I i] w fun r w'=>r=.returned (.bool B)/\Bw w w':=by
 obtain⟨iD,js⟩:=sG.of;have b1:Bw w (w.alloc (.cells #[.I K,.S pp m pc] 165)):=ay.alloc ao _;have HR:=af (hR.below b1);have HM:=af (GO.below b1);by_cases h7:i=7;{
 subst h7;by_cases h4:K=4;{
 subst h4;by_cases Jp:m=0;{
 subst Jp;have eT:B=true:=by rw[<-aa eB,jV,bN rfl];simp[aa em]
 subst eT;go_enter func216,ntmps216;go_wp2;go_ret;exact⟨rfl,b1⟩};{
 have bo8:((m:Int)==0)=false:=by simp;omega
 have eT:B=false:=by rw[<-aa eB,jV,bN rfl];simp[aa em,Jp]
 subst eT;go_enter func216,ntmps216;go_wp2;go_ret;exact⟨rfl,b1⟩}};{
 have h4d:(K==4)=false:=by simp[h4]
 have eT:B=false:=by rw[<-aa eB,jV,bN rfl];simp[h4]
 subst eT;go_enter func216,ntmps216;go_wp2;go_ret;exact⟨rfl,b1⟩}};{
 have h7d:((i:Int)==7)=false:=by simp;omega
 by_cases h1:1<=K;{
 by_cases h3:K<=3;{
 have eV:Hid (vp P=B):=by show _=_;rw[<-aa eB,jV,bH h7];simp[h1,h3]
 go_enter func216,ntmps216;go_wp2_with fail;refine(Rt em HR hB hm iD js HM eV).mono ?_;rintro r w2⟨rfl,aF⟩;have b2:=aj b1 aF;go_wp2;go_ret;exact⟨rfl,b2⟩};{
 have eT:B=false:=by rw[<-aa eB,jV,bH h7];simp[h3]
 subst eT;go_enter func216,ntmps216;go_wp2;go_ret;exact⟨rfl,b1⟩}};{
 have eT:B=false:=by rw[<-aa eB,jV,bH h7];simp[h1]
 subst eT;go_enter func216,ntmps216;go_wp2;go_ret;exact⟨rfl,b1⟩}}
def D8(nx:Int)(s:aR):Bool:=decide (1<=s.1)&&(decide (s.1<=nx)&&(decide (0<=s.2.1)&&(decide (s.2.1<=1000015)&&gO s.2.2)))
theorem JT{I D x:Int}{c n:Nat}{Q:List Ev}(en:Hid (Q.length=n)){w:World}(h:pX w (.S p n c) Q)(hn:n<=1048576)(fS:Hid (∀e∈Q,aM e.2/\e.2.length<=1048576))(GO:ML w)(eB:Hid (D8 x (I,D,Q)=B)):Cp 182 #[.agg #[.U I,.I D,.S p n c],.U x] w fun r w'=>r=.returned (.bool B)/\Bw w w':=by
 have HR:=af fun(w':World)(hb:Bw w w')=>ah (h.below hb) (GO.below hb);have b1:Bw w (w.alloc (.cells #[.U I,.I D,.S p n c] 86)):=ay.alloc ao _;have hB:B=(decide (1<=I)&&(decide (I<=x)&&(decide (0<=D)&&(decide (D<=1000015)&&(decide (n<=8)&&(List.range n).all fun i=>jV i (Q.getD i (0,[]))))))):=by rw[<-aa eB,D8,gO,aa en]
 have HB:=af hB;clear h GO hB eB;by_cases h1:I<1;{
 have eF:B=false:=by rw[aa HB];simp;omega
 subst eF;clear HB;go_enter func182,ntmps182;go_wp2;go_ret;exact⟨rfl,b1⟩};{
 by_cases h2:x<I;{
 have eF:B=false:=by rw[aa HB];simp;omega
 subst eF;clear HB;go_enter func182,ntmps182;go_wp2;go_ret;exact⟨rfl,b1⟩};{
 by_cases h3:D<0;{
 have eF:B=false:=by rw[aa HB];simp;omega
 subst eF;clear HB;go_enter func182,ntmps182;go_wp2;go_ret;exact⟨rfl,b1⟩};{
 by_cases h4:1000015<D;{
 have eF:B=false:=by rw[aa HB];simp;omega
 subst eF;clear HB;go_enter func182,ntmps182;go_wp2;go_ret;exact⟨rfl,b1⟩};{
 by_cases h8:(8:Int)<(n:Int);{
 have eF:B=false:=by rw[aa HB];simp;omega
 subst eF;clear HB;go_enter func182,ntmps182;go_wp2;go_ret;exact⟨rfl,b1⟩};{
 have vO:Hid (B=(List.range n).all fun i=>jV i (Q.getD i (0,[]))):=by show _=_;rw[aa HB];simp only[show decide (1<=I)=true by(rw[oq];omega),show decide (I<=x)=true by(rw[oq];omega),show decide (0<=D)=true by(rw[oq];omega),show decide (D<=1000015)=true by(rw[oq];omega),show decide (n<=8)=true by(rw[oq];omega),ox]
 clear HB;go_enter func182,ntmps182;go_wp2_with fail;clear h1 h2 h3 h4 h8;obtain⟨W,hW⟩:=au (w.alloc (.cells #[.U I,.I D,.S p n c] 86));rw[<-hW]at b1⊢;clear hW
 go_loopw[35](fun iv wr=>∃k:Nat,k<=n/\iv=.I k/\Hid ((List.range k).all (fun i=>jV i (Q.getD i (0,[])))=true)/\Bw w wr) (fun iv _=>n-(intOf iv).toNat)
 exact⟨0,gq _,rfl,bq,b1⟩;{
 obtain⟨k,hk,rfl,iC,aG⟩:=hrel;by_cases aX:k<n;{
 have bu:=aP k n;have dA:k<Q.length:=by rw[aa en];exact aX
 obtain⟨⟨K,P⟩,hy⟩:∃y,Q[k]?=some y:=⟨_,aO dA⟩;have Mj:Q.getD k (0,[])=(K,P):=by rw[gj,hy];rfl
 obtain⟨b,o,rfl,hcK,u,hcP,Ux,sG⟩:∃b o,p=some ⟨b,o,none⟩/\wr.cell? ⟨b,o+k*2,none⟩=some (.I K)/\∃u,wr.cell? ⟨b,o+k*2+1,none⟩=some u/\Rd wr u P/\px u:=by obtain⟨p',c',ev,hd⟩:=(aa HR _ aG).1;simp only[dU]at ev;obtain⟨rfl,-,-⟩:=ev;rcases hd with h0|⟨b,o,h1,h2⟩;{rw[h0]at dA;simp at dA};{exact⟨b,o,h1,h2 k _ hy⟩}
 obtain⟨hBP,hPl⟩:=aa fS _ (aS hy);obtain⟨pp,pc,m,rfl,em⟩:=Ux.iB;have hm:m<=1048576:=by rw[<-aa em];exact hPl
 have Xz:Hid (aM P):=hBP;obtain⟨V,eV⟩:=aI (jV k (K,P));have EV:=af eV;have hF:V=false->B=false:=fun h=>by rw[aa vO];exact fo aX (by rw[Mj,eV];exact h)
 have hT:V=true->Hid ((List.range (k+1)).all (fun i=>jV i (Q.getD i (0,[])))=true):=fun h=>dr (aa iC) (by rw[Mj,eV];exact h);have HF:=af hF;have HT:=af hT;have b2:Bw wr ((wr.alloc (.cells #[.I K,.S pp m pc] 165))):=ay.alloc ao _;have HRP:=af (Ux.below b2);have HML:=af ((aa HR _ aG).2.below b2);have cz7:=af sG;clear dA hy Mj hBP hPl Ux eV hF hT sG;go_wp2_with fail;refine(Mz em (by exact HRP) Xz hm cz7 (by exact HML) EV).mono ?_;rintro r w2⟨rfl,aF⟩;have b3:=aj aG (aj b2 aF);clear aF b2;cases V with
 |false=>
  have eF:=aa HF rfl;subst eF;go_wp2;go_ret;exact⟨rfl,b3⟩
 |true=>
  have ta:=aa HT rfl;go_wp2;go_roundw;exact⟨k+1,ae,by go_num,ta,b3⟩;exact bG};{
 have bu:=du k n;have eT:B=true:=by
  rw[aa vO];have:k=n:=by omega
  rw[<-this];exact iC
 subst eT;go_wp2;go_ret;exact⟨rfl,aG⟩}}}}}}}
structure Lf where
 b:Nat
 o:Nat
 k:IntKind
def cQ(w:World)(A:List Lf):Prop:=∀a∈A,(∃n,w.cell? ⟨a.b,a.o,none⟩=some (.int a.k n))/\w.frozen? ⟨a.b,a.o,none⟩=false
def mkV(kd:IntKind)(k:Int):Int:=match kd with| .u8=>k % 256|_=>k
structure Mk(w w':World)(A:List Lf)(k:Int):Prop where
 os:w'.os=w.os
 tape:w'.tape=w.tape
 output:w'.output=w.output
 size:w.heap.size<=w'.heap.size
 blk:∀b,b<w.heap.size->(∀a∈A,a.b≠b)->w'.heap[b]?=w.heap[b]?
 keep:∀b o,b<w.heap.size->(∀a∈A,¬(a.b=b/\a.o=o))->w'.cell? ⟨b,o,none⟩=w.cell? ⟨b,o,none⟩
 fz:∀b o,b<w.heap.size->w'.frozen? ⟨b,o,none⟩=w.frozen? ⟨b,o,none⟩
 int:∀a∈A,∃n,w'.cell? ⟨a.b,a.o,none⟩=some (.int a.k n)
 val:(A.map fun a=>(a.b,a.o)).Nodup->∀(i:Nat)(a:Lf),A[i]?=some a->w'.cell? ⟨a.b,a.o,none⟩=some (.int a.k (mkV a.k (k+i)))
def cQ.lt{w:World}{A:List Lf}(h:cQ w A){a:Lf}(ha:a∈A):a.b<w.heap.size:=by
 obtain⟨⟨n,hn⟩,_⟩:=h a ha;exact pI w _ hn
def cQ.nil(w:World):cQ w []:=fun a ha=>by simp at ha
def cQ.app{w:World}{A A':List Lf}:cQ w (A++A')↔cQ w A/\cQ w A':=by
 constructor;{intro h;exact⟨fun a ha=>h a (Bz _ ha),fun a ha=>h a (CD _ ha)⟩};{rintro⟨h,k⟩a ha;rcases gR.1 ha with ha|ha;{exact h a ha};{exact k a ha}}
def cQ.sub{w:World}{A A':List Lf}(h:cQ w A)(hs:∀a∈A',a∈A):cQ w A':=fun a ha=>h a (hs a ha)
def cQ.below{w w':World}{A:List Lf}(h:cQ w A)(hb:Bw w w'):cQ w' A:=fun a ha=>by
 obtain⟨⟨n,hn⟩,hf⟩:=h a ha;exact⟨⟨n,ag hn hb⟩,(hb.frozen (p:=⟨a.b,a.o,none⟩) (h.lt ha)).trans hf⟩
def Mk.dL{w w':World}(h:Bw w w')(k:Int):Mk w w' [] k:=
 ⟨h.os,h.tape,h.output,h.size,fun b hb _=>h.block b hb,fun b o hb _=>h.cell (p:=⟨b,o,none⟩) hb,fun b o hb=>h.frozen (p:=⟨b,o,none⟩) hb,fun a ha=>by simp at ha,fun _ i a ha=>by simp at ha⟩
def Mk.refl(w:World)(k:Int):Mk w w [] k:=Mk.dL ay k
theorem Mk.one{w:World}{kd:IntKind}{k n:Int}(hc:w.cell? ⟨b,o,none⟩=some (.int kd n)):Mk w (w.setCell ⟨b,o,none⟩ (.int kd (mkV kd k))) [⟨b,o,kd⟩] k:=by
 have hs:(w.setCell ⟨b,o,none⟩ (.int kd (mkV kd k))).cell? ⟨b,o,none⟩=some (.int kd (mkV kd k)):=World.cell?_setCell_same' w _ _ (by rw[hc];rfl);refine⟨rfl,rfl,rfl,ai,fun b' hb cg=>fy _ _ _ _ (fun e=>cg ⟨b,o,kd⟩ ai e.symm),fun b' o' hb cg=>?_,fun b' o' hb=>?_,fun a ha=>?_,fun _ i a ha=>?_⟩;{have h1:=cg ⟨b,o,kd⟩ ai;simp only at h1;exact Fb _ _ _ _ (fun e=>h1 (by simpa using e))};{simp};{simp at ha;subst ha;exact⟨_,hs⟩};{
 cases i with
 |zero=>simp at ha;subst ha;simpa using hs
 |succ i=>simp at ha}
def Mk.trans{w w1 w2:World}{A A2:List Lf}(h:Mk w w1 A k)(h2:Mk w1 w2 A2 (k+A.length))(hA:cQ w A)(Ss:cQ w A2):Mk w w2 (A++A2) k:=by
 refine⟨h2.os.trans h.os,h2.tape.trans h.tape,h2.output.trans h.output,fW h.size h2.size,fun b hb cg=>?_,fun b o hb cg=>?_,fun b o hb=>?_,fun a ha=>?_,fun br i a ha=>?_⟩;{exact(h2.blk b (kV hb h.size) (fun a ha=>cg a (CD _ ha))).trans (h.blk b hb (fun a ha=>cg a (Bz _ ha)))};{exact(h2.keep b o (kV hb h.size) (fun a ha=>cg a (CD _ ha))).trans (h.keep b o hb (fun a ha=>cg a (Bz _ ha)))};{exact(h2.fz b o (kV hb h.size)).trans (h.fz b o hb)};{by_cases h3:∃a2∈A2,a2.b=a.b/\a2.o=a.o;{obtain⟨a2,m2,e1,e2⟩:=h3;obtain⟨n,hn⟩:=h2.int a2 m2;obtain⟨⟨n1,vH⟩,_⟩:=Ss a2 m2;obtain⟨⟨n2,Mm⟩,_⟩:=cQ.app.2 ⟨hA,Ss⟩ a ha;rw[e1,e2]at hn vH;rw[vH]at Mm;simp only[jU,Y9]at Mm;exact⟨n,by rw[hn,Mm.1]⟩};{rcases gR.1 ha with ha|ha;{obtain⟨n,hn⟩:=h.int a ha;refine⟨n,(h2.keep a.b a.o (kV (hA.lt ha) h.size) (fun a2 m2 e=>h3 ⟨a2,m2,e⟩)).trans hn⟩};{exact absurd ⟨a,ha,rfl,rfl⟩ h3}}};{
 rw[ko,yk]at br;obtain⟨n1,n2,n3⟩:=br;by_cases hi:i<A.length;{rw[kT hi]at ha;have hm:=aS ha;refine(h2.keep a.b a.o (kV (hA.lt hm) h.size) (fun a2 m2 e=>?_)).trans (h.val n1 i a ha);exact n3 (a.b,a.o) (NS hm) (a2.b,a2.o) (NS m2) (by rw[e.1,e.2])};{
 rw[mE ae]at ha;have:=h2.val n2 (i-A.length) a ha;rw[this]
 congr 3
 omega}}
def cQ.mk{w w':World}{A A':List Lf}(h:cQ w A')(hm:Mk w w' A k)(hA:cQ w A):cQ w' A':=fun a ha=>by
 obtain⟨⟨n,hn⟩,hf⟩:=h a ha;refine⟨?_,(hm.fz _ _ (h.lt ha)).trans hf⟩;by_cases h3:∃a2∈A,a2.b=a.b/\a2.o=a.o;{obtain⟨a2,m2,e1,e2⟩:=h3;obtain⟨n',hn'⟩:=hm.int a2 m2;obtain⟨⟨n1,vH⟩,_⟩:=hA a2 m2;rw[e1,e2]at hn' vH;rw[hn]at vH;simp only[jU,Y9]at vH;exact⟨n',by rw[hn',vH.1]⟩};{exact⟨n,(hm.keep _ _ (h.lt ha) (fun a2 m2 e=>h3 ⟨a2,m2,e⟩)).trans hn⟩}
def Mk.head{w w':World}{A:List Lf}(hm:Mk w w' A k)(hA:cQ w A){n c:Nat}(h:w.cell? ⟨b,o,none⟩=some (.S p n c)):w'.cell? ⟨b,o,none⟩=some (.S p n c):=by
 refine(hm.keep b o (pI w _ h) (fun a ha e=>?_)).trans h;obtain⟨⟨n',hn⟩,_⟩:=hA a ha;rw[e.1,e.2,h]at hn;simp at hn
def Mk.below{w w':World}{A:List Lf}{B:Nat}(hm:Mk w w' A k)(hB:∀a∈A,B<=a.b)(hz:B<=w.heap.size):Below B w w':=
 ⟨hm.os,hm.tape,hm.output,hm.size,fun b hb=>hm.blk b ae (fun a ha e=>by have:=hB a ha;omega)⟩
def Iq{α:Type}(P:α->Nat->Nat->List Lf->Prop)(sz:Nat)(v:Value)(xs:List α)(A:List Lf):Prop:=
 ∃(p:OA)(c:Nat)(Ls:List (List Lf)),v=.S p xs.length c/\Ls.length=xs.length/\A=Ls.flatten/\(xs=[]\/∃b o,p=some ⟨b,o,none⟩/\∀i x l,xs[i]?=some x->Ls[i]?=some l->P x b (o+i*sz) l)
def Iq.imp{α:Type}{P P':α->Nat->Nat->List Lf->Prop}{xs:List α}{A:List Lf}(h:Iq P sz v xs A)(hi:∀x b a l,x∈xs->(∀y∈l,y∈A)->P x b a l->P' x b a l):Iq P' sz v xs A:=by
 obtain⟨p,c,Ls,h1,h2,h3,h4⟩:=h;refine⟨p,c,Ls,h1,h2,h3,?_⟩;rcases h4 with h4|⟨b,o,h5,h6⟩;{exact .inl h4};{refine .inr ⟨b,o,h5,fun i x l hx hl=>hi _ _ _ _ (aS hx) (fun y hy=>?_) (h6 i x l hx hl)⟩;rw[h3];exact Hk.2 ⟨l,aS hl,hy⟩}
def LvI(kd:IntKind)(x:Int)(b a:Nat)(l:List Lf):Prop:=l=[⟨b,a,kd⟩]
abbrev Qw(v:Value)(xs:LI)(A:List Lf):Prop:=Iq (LvI .u8) 1 v xs A
abbrev WS(v:Value)(xs:LI)(A:List Lf):Prop:=Iq (LvI .u64) 1 v xs A
def Ir(w:World)(x:Ev)(b a:Nat)(l:List Lf):Prop:=
 ∃p c lb,l=⟨b,a,.i64⟩::lb/\w.cell? ⟨b,a+1,none⟩=some (.S p x.2.length c)/\Qw (.S p x.2.length c) x.2 lb
abbrev Da(w:World)(v:Value)(xs:List Ev)(A:List Lf):Prop:=Iq (Ir w) 2 v xs A
def Gv(w:World)(x:aR)(b a:Nat)(l:List Lf):Prop:=
 ∃p c lq,l=⟨b,a,.u64⟩::⟨b,a+1,.i64⟩::lq/\w.cell? ⟨b,a+2,none⟩=some (.S p x.2.2.length c)/\Da w (.S p x.2.2.length c) x.2.2 lq
abbrev xt(w:World)(v:Value)(xs:List aR)(A:List Lf):Prop:=Iq (Gv w) 3 v xs A
def Ip(w:World)(x:aB)(b a:Nat)(l:List Lf):Prop:=
 ∃p0 c0 p1 c1 p4 c4 p7 c7 l0 l1 l4 l7,l=l0++(l1++(⟨b,a+2,.u64⟩::⟨b,a+3,.i64⟩::(l4++(⟨b,a+5,.u64⟩::⟨b,a+6,.u64⟩::l7))))∧
  (w.cell? ⟨b,a,none⟩=some (.S p0 x.path.length c0)/\Qw (.S p0 x.path.length c0) x.path l0)∧
  (w.cell? ⟨b,a+1,none⟩=some (.S p1 x.value.length c1)/\Qw (.S p1 x.value.length c1) x.value l1)∧
  (w.cell? ⟨b,a+4,none⟩=some (.S p4 x.holders.length c4)/\WS (.S p4 x.holders.length c4) x.holders l4)∧
  (w.cell? ⟨b,a+7,none⟩=some (.S p7 x.watchers.length c7)/\WS (.S p7 x.watchers.length c7) x.watchers l7)
abbrev xD(w:World)(v:Value)(xs:List aB)(A:List Lf):Prop:=Iq (Ip w) 8 v xs A
def Ir.mk{w w':World}{x:Ev}{l:List Lf}{A:List Lf}(h:Ir w x b a l)(hm:Mk w w' A k)(hA:cQ w A):Ir w' x b a l:=by
 obtain⟨p,c,lb,h1,h2,h3⟩:=h;exact⟨p,c,lb,h1,hm.head hA h2,h3⟩
def Da.mk{w w':World}{xs:List Ev}{l:List Lf}{A:List Lf}(h:Da w v xs l)(hm:Mk w w' A k)(hA:cQ w A):Da w' v xs l:=h.imp fun _ _ _ _ _ _ h=>h.mk hm hA
def Gv.mk{w w':World}{x:aR}{l:List Lf}{A:List Lf}(h:Gv w x b a l)(hm:Mk w w' A k)(hA:cQ w A):Gv w' x b a l:=by
 obtain⟨p,c,lb,h1,h2,h3⟩:=h;exact⟨p,c,lb,h1,hm.head hA h2,Da.mk h3 hm hA⟩
def xt.mk{w w':World}{xs:List aR}{l:List Lf}{A:List Lf}(h:xt w v xs l)(hm:Mk w w' A k)(hA:cQ w A):xt w' v xs l:=h.imp fun _ _ _ _ _ _ h=>h.mk hm hA
def Ip.mk{w w':World}{x:aB}{l:List Lf}{A:List Lf}(h:Ip w x b a l)(hm:Mk w w' A k)(hA:cQ w A):Ip w' x b a l:=by
 obtain⟨p0,c0,p1,c1,p4,c4,p7,c7,l0,l1,l4,l7,h1,⟨h2,h3⟩,⟨h4,h5⟩,⟨h6,h7⟩,⟨h8,h9⟩⟩:=h;exact⟨p0,c0,p1,c1,p4,c4,p7,c7,l0,l1,l4,l7,h1,⟨hm.head hA h2,h3⟩,⟨hm.head hA h4,h5⟩,⟨hm.head hA h6,h7⟩,⟨hm.head hA h8,h9⟩⟩
def xD.mk{w w':World}{xs:List aB}{l:List Lf}{A:List Lf}(h:xD w v xs l)(hm:Mk w w' A k)(hA:cQ w A):xD w' v xs l:=h.imp fun _ _ _ _ _ _ h=>h.mk hm hA
def Iq.at{α:Type}{P:α->Nat->Nat->List Lf->Prop}{n c:Nat}{xs:List α}{A:List Lf}(h:Iq P sz (.S p n c) xs A):∃Ls:List (List Lf),n=xs.length/\Ls.length=n/\A=Ls.flatten/\∀k,k<n->∃b o x l,p=some ⟨b,o,none⟩/\xs[k]?=some x/\Ls[k]?=some l/\P x b (o+k*sz) l/\(Ls.take (k+1)).flatten=(Ls.take k).flatten++l/\∀y∈l,y∈A:=by
 obtain⟨p',c',Ls,h1,h2,h3,h4⟩:=h;simp only[dU]at h1;obtain⟨rfl,rfl,rfl⟩:=h1;refine⟨Ls,rfl,h2,h3,fun k hk=>?_⟩;obtain⟨x,hx⟩:∃x,xs[k]?=some x:=⟨_,aO hk⟩;obtain⟨l,hl⟩:∃l,Ls[k]?=some l:=⟨_,aO ae⟩;rcases h4 with h4|⟨b,o,h5,h6⟩;{rw[h4]at hk;simp at hk};{refine⟨b,o,x,l,h5,hx,hl,h6 k x l hx hl,?_,fun y hy=>?_⟩;{rw[ng,hl];simp};{rw[h3];exact Hk.2 ⟨l,aS hl,hy⟩}}
def aZ(Ls:List (List Lf))(k:Nat):(Ls.take k).flatten.length<=Ls.flatten.length:=by
 have h:Ls.flatten=(Ls.take k).flatten++(Ls.drop k).flatten:=by rw[<-Jf,BH]
 rw[h,ig];omega
def e8{Ls:List (List Lf)}{k:Nat}{y:Lf}(h:y∈(Ls.take k).flatten):y∈Ls.flatten:=by
 obtain⟨l,hl,hy⟩:=Hk.1 h;exact Hk.2 ⟨l,Jh hl,hy⟩
end Go.Proofs.YtjjnidignljppaaGreatDoor
