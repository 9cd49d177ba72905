import Derived.Test.YtkakbcaiplggiaaGreatDoorK3
import Derived.Lib.BytesEntry
import Derived.Laws.Externs
namespace Go.Proofs.YtkakbcaiplggiaaGreatDoor
set_option maxHeartbeats 3200000
set_option linter.all false
set_option maxRecDepth 100000
set_option linter.unusedVariables false
open Go.ChangeShapes Go.WideShapes Go.ChangeAt Go.RowKit Go.Proofs.Tryz
variable {B:Bool}{K e g k k0 t x:Int}{V wr:World}{a b c o:Nat}{cs:List (List Value)}{es xs:List Ev}{kd:IntKind}{l m:LI}{ns:List aC}{p:OA}{ss:List aP}{ty:TypeId}{v:Value}
def ap2(i:Nat)(e:Ev):Bool:=if i=7 then e.1==4&&e.2.length==0 else decide (1<=e.1)&&(decide (e.1<=3)&&vp e.2)
def nR(es:List Ev):Bool:=decide (es.length<=8)&&(List.range es.length).all λi=>ap2 i (es.getD i (0,[]))
def xk{c n:Nat}(en:Hid (es.length=n)){w:World}(h:Oo w (.S p n c) es)(hn:n<=0)(gq:Hid (∀e∈es,aN e.2/\e.2.length<=1048576))(eB:Hid (nR es=B)):Calls prog 177 #[.S p n c] w (Rb (.bool B) w):=by
 have HR:=af λ(w':World)(hb:Bw w w')=>h.below hb;by_cases h8:n<=8;{
 have h8':¬(8:Int)<(n:Int):=ae
 go_in
 go_wp2_with fail
 go_loopw[3](λiv wr=>∃k:Nat,k<=n/\iv=.I k/\Hid ((List.range k).all (λi=>ap2 i (es.getD i (0,[])))=true)/\Bw w wr) (λiv _=>n-(intOf iv).toNat)
 exact⟨0,fN _,rfl,bq,cR _ _⟩;{
 obtain⟨k,hk,rfl,iV,aK⟩:=hrel;by_cases aT:k<n;{exact absurd aT ae};{
 have bu:=dm k n;have eT:B=true:=by
  rw[<-aa eB,nR,aa en];have:k=n:=by omega
  rw[<-this,aa iV];simp;omega
 subst eT;go_wp2;go_ret;exact⟨rfl,aK⟩}}};{exact absurd hn ae}
def mB(nx:Int)(ss:List aP)(i:Nat):Bool:=
 decide (1<=(ss.getD i (0,0,[])).1)&&(decide ((ss.getD i (0,0,[])).1<=nx)&&((i==0||decide ((ss.getD (i-1) (0,0,[])).1<(ss.getD i (0,0,[])).1))&&
  (decide (0<=(ss.getD i (0,0,[])).2.1)&&(decide ((ss.getD i (0,0,[])).2.1<=1000015)&&nR (ss.getD i (0,0,[])).2.2))))
def D9{c n k:Nat}{N:Value}(en:Hid (ss.length=n)){w:World}(h:yL w (.S p n c) ss)(hn:Mg n)(hk:k<n)(gq:Hid (∀s∈ss,s.2.2.length<=0/\∀e∈s.2.2,aN e.2/\e.2.length<=1048576))(eB:Hid (mB x ss k=B)):Calls prog 119 #[ft e g x t (.S p n c) N,.I k] w (Rb (.bool B) w):=by
 have HR:=af λ(w':World)(hb:Bw w w')=>h.below hb;have fh:k<ss.length:=aa en▸hk;obtain⟨⟨I,D,Q⟩,hy⟩:=mR fh;have hyD:ss.getD k (0,0,[])=(I,D,Q):=by rw[gK,hy];rfl
 obtain⟨b,o,rfl,XM⟩:∃b o,p=some (Ad b o)/\∀i s,ss[i]?=some s->w.cell? (Ad b (o+i*3))=some (.U s.1)/\w.cell? (Ad b (o+i*3+1))=some (.I s.2.1)/\∃u,w.cell? (Ad b (o+i*3+2))=some u/\Oo w u s.2.2:=by obtain⟨p',c',ev,hd⟩:=h;obtain⟨rfl,-,-⟩:=js ev;rcases hd with h0|⟨b,o,h1,h2⟩;{rw[h0]at fh;simp at fh};{exact⟨b,o,h1,h2⟩}
 obtain⟨hI,hD,u,hU,hQ⟩:=XM k _ hy;obtain⟨hQl,hQb⟩:=aa gq _ (aY hy);obtain⟨pq,cq,rfl,-⟩:=id hQ;obtain⟨m,em⟩:=aI Q.length;rw[em]at hQ hU;have hm:m<=0:=em▸hQl;have EM:=af em;have HBQ:Hid (∀e∈Q,aN e.2/\e.2.length<=1048576):=hQb;have HRQ:=af hQ;obtain⟨T,eT⟩:=aI (nR Q);have ET:Hid (nR Q=T):=eT;have fT:mB x ss k=(decide (1<=I)&&(decide (I<=x)&&((k==0||decide ((ss.getD (k-1) (0,0,[])).1<I))&&(decide (0<=D)&&(decide (D<=1000015)&&T))))):=by rw[mB,hyD,eT]
 rw[show(mB x ss k)=B from aa eB]at fT;have yN:Hid (B=(decide (1<=I)&&(decide (I<=x)&&((k==0||decide ((ss.getD (k-1) (0,0,[])).1<I))&&(decide (0<=D)&&(decide (D<=1000015)&&T)))))):=fT;clear fT;have hk':=aS k n;have cq2:=dA 0 k;have HL:=af fh;clear hy hyD hQl hQb hQ em eT h eB fh;have HCA:=af XM;clear XM
 go_in
 have b1:Bw w (w.alloc (.cells #[.U e,.U g,.U x,.I t,.S (some (Ad b o)) n c,N] 35)):=au.alloc ao _;have i1:=ag hI b1;have i2:=ag hD b1;have i3:=ag hU b1;go_wp2_with fail;obtain⟨X,hX⟩:=az ((w.alloc (.cells #[.U e,.U g,.U x,.I t,.S (some (Ad b o)) n c,N] 35)).alloc (.cells #[.U I,.I D,.S pq m cq] 84));have BX:Hid (Bw w X):=by show Below _ _ _;rw[hX];exact b1.alloc ai _
 have kA:X.cell? (Ad (w.heap.size+1) 0)=some (.U I):=by rw[hX];simp
 have kD:X.cell? (Ad (w.heap.size+1) 1)=some (.I D):=by rw[hX];simp
 have kQ:X.cell? (Ad (w.heap.size+1) 2)=some (.S pq m cq):=by rw[hX];simp
 have kB:X.cell? (Ad w.heap.size 2)=some (.U x):=by rw[hX];simp
 have kC:X.cell? (Ad w.heap.size 4)=some (.S (some (Ad b o)) n c):=by rw[hX];simp
 rw[<-hX];have KA:=af kA;have KB:=af kB;have KC:=af kC;clear hX b1 i1 i2 i3 kA kB kC hI hD hU;by_cases h1:I<1;{
 have eF:B=false:=by rw[aa yN];simp;omega
 subst eF;have h1d:decide (I<1)=true:=by simp;omega
 refine dC (λw'=>w'.cell? (Ad (w.heap.size+1) 0)=some (.U I)/\w'.cell? (Ad w.heap.size 2)=some (.U x)/\w'.cell? (Ad w.heap.size 4)=some (.S (some (Ad b o)) n c)) (by exact⟨KA,KB,KC⟩) λhS=>?_;refine mU 0 1 2 3 hS ?_;refine oI 4 5 6 7 hS ?_;refine sn 8 hS ?_;refine kG 9 10 hS ?_;refine oI 11 12 13 14 hS ?_;refine oI 15 16 17 18 hS ?_;refine oI 19 20 21 22 hS ?_;refine sn 23 hS ?_;refine sn 24 hS ?_;refine tn 25 hS ?_;refine dw ?_;clear hS;go_wp2;go_ret;exact⟨rfl,BX.drew⟩};{
 have h1d:decide (I<1)=false:=by simp;omega
 by_cases h2:x<I;{
 have eF:B=false:=by rw[aa yN];simp;omega
 subst eF;have h2d:decide (x<I)=true:=by simp;omega
 refine dC (λw'=>w'.cell? (Ad (w.heap.size+1) 0)=some (.U I)/\w'.cell? (Ad w.heap.size 2)=some (.U x)/\w'.cell? (Ad w.heap.size 4)=some (.S (some (Ad b o)) n c)) (by exact⟨KA,KB,KC⟩) λhS=>?_;refine nK 0 1 2 3 4 5 6 7 hS ?_;refine kG 8 9 hS ?_;refine tn 10 hS ?_;refine oI 11 12 13 14 hS ?_;refine oI 15 16 17 18 hS ?_;refine oI 19 20 21 22 hS ?_;refine sn 23 hS ?_;refine sn 24 hS ?_;refine tn 25 hS ?_;refine dw ?_;clear hS;go_wp2;go_ret;exact⟨rfl,BX.drew⟩};{
 have h2d:decide (x<I)=false:=by simp;omega
 by_cases QZ:k=0;{
 have hp:¬0<k:=ae;have hp':¬(0:Int)<(k:Int):=ae;have HK0:=af QZ;clear QZ;refine dC (λw'=>w'.cell? (Ad (w.heap.size+1) 0)=some (.U I)/\w'.cell? (Ad w.heap.size 2)=some (.U x)/\w'.cell? (Ad w.heap.size 4)=some (.S (some (Ad b o)) n c)) (by exact⟨KA,KB,KC⟩) λhS=>?_;refine nK 0 1 2 3 4 5 6 7 hS ?_;refine mU 8 9 10 11 hS ?_;refine kG 12 13 hS ?_;refine oI 14 15 16 17 hS ?_;refine oI 18 19 20 21 hS ?_;refine sn 22 hS ?_;refine sn 23 hS ?_;refine kG 24 25 hS ?_;refine dw ?_;clear hS;have fT:=aa yN;rw[show(k==0)=true by simp[aa HK0]]at fT;by_cases h5:D<0;{
 have eF:B=false:=by rw[fT];simp;omega
 subst eF;clear fT;have h5':D<0:=h5;go_wp2;go_ret;exact⟨rfl,BX.drew⟩};{
 by_cases h6:1000015<D;{
 have eF:B=false:=by rw[fT];simp;omega
 subst eF;clear fT;go_wp2;go_ret;exact⟨rfl,BX.drew⟩};{
 have eQ:B=T:=by rw[fT];simp[show 1<=I by omega,show I<=x by omega,show 0<=D by omega,show D<=1000015 by omega]
 subst eQ;clear fT;go_wp2_with fail;refine(xk EM (by exact HRQ.below BX.drew) hm HBQ ET).mono ?_;rintro r w2⟨rfl,aD⟩;have b2:=aj BX.drew aD;clear aD;go_wp2;go_ret;exact⟨rfl,b2⟩}}};{
 obtain⟨j,ej⟩:∃j:Nat,(k:Int)-1=(j:Int):=⟨k-1,ae⟩;have Yd:k-1=j:=ae;have Ck:j<ss.length:=aG (aa HL);obtain⟨⟨z,zz⟩,hz⟩:=mR Ck;have hzD:(ss.getD j (0,0,[])).1=z:=by rw[gK,hz];rfl
 have fT:=aa yN;rw[Yd,hzD]at fT;have kZ:=ag (aa HCA j _ hz).1 BX;have KZ:Hid (X.cell? (Ad b (o+j*3))=some (.U z)):=kZ;have hp:0<k:=ae;have hp':=qi 0 k;have hjm:=aS j n;have hj0:=dA 0 j;have wj:=fk j;rw[show(k==0)=false by simp[QZ],Kk]at fT;have Sf:Hid (B=(decide (1<=I)&&(decide (I<=x)&&(decide (z<I)&&(decide (0<=D)&&(decide (D<=1000015)&&T)))))):=fT;clear fT;clear hz hzD Ck kZ Yd QZ;by_cases hzI:z<I;{
 have hle:¬I<=z:=ae;have ba3:decide (I<=z)=false:=by simp;omega
 refine dC (λw'=>w'.cell? (Ad (w.heap.size+1) 0)=some (.U I)/\w'.cell? (Ad w.heap.size 2)=some (.U x)/\w'.cell? (Ad w.heap.size 4)=some (.S (some (Ad b o)) n c)/\w'.cell? (Ad b (o+j*3))=some (.U z)) (by exact⟨KA,KB,KC,KZ⟩) λhS=>?_;refine nK 0 1 2 3 4 5 6 7 hS ?_;refine nK 8 9 10 11 12 13 14 15 hS ?_;refine nK 16 17 18 19 20 21 22 23 hS ?_;refine kG 24 25 hS ?_;refine dw ?_;clear hS;by_cases h5:D<0;{
 have eF:B=false:=by rw[aa Sf];simp;omega
 subst eF;clear Sf;have h5':D<0:=h5;go_wp2;go_ret;exact⟨rfl,BX.drew⟩};{
 by_cases h6:1000015<D;{
 have eF:B=false:=by rw[aa Sf];simp;omega
 subst eF;clear Sf;go_wp2;go_ret;exact⟨rfl,BX.drew⟩};{
 have eQ:B=T:=by rw[aa Sf];simp only[show decide (1<=I)=true by(rw[pL];omega),show decide (I<=x)=true by(rw[pL];omega),show decide (z<I)=true by(rw[pL];omega),show decide (0<=D)=true by(rw[pL];omega),show decide (D<=1000015)=true by(rw[pL];omega),pM]
 subst eQ;clear Sf;go_wp2_with fail;refine(xk EM (by exact HRQ.below BX.drew) hm HBQ ET).mono ?_;rintro r w2⟨rfl,aD⟩;have b2:=aj BX.drew aD;clear aD;go_wp2;go_ret;exact⟨rfl,b2⟩}}};{
 have hle:I<=z:=ae;have ba3:decide (I<=z)=true:=by simp;omega
 have eF:B=false:=by rw[aa Sf];simp;omega
 subst eF;clear Sf;refine dC (λw'=>w'.cell? (Ad (w.heap.size+1) 0)=some (.U I)/\w'.cell? (Ad w.heap.size 2)=some (.U x)/\w'.cell? (Ad w.heap.size 4)=some (.S (some (Ad b o)) n c)/\w'.cell? (Ad b (o+j*3))=some (.U z)) (by exact⟨KA,KB,KC,KZ⟩) λhS=>?_;refine nK 0 1 2 3 4 5 6 7 hS ?_;refine nK 8 9 10 11 12 13 14 15 hS ?_;refine nK 16 17 18 19 20 21 22 23 hS ?_;refine kG 24 25 hS ?_;refine dw ?_;clear hS;go_wp2;go_ret;exact⟨rfl,BX.drew⟩}}}}
def ar9(w:World)(C:Array Value)(e:TypeId)(fr:Nat×Nat)(i:Nat):(w.alloc (.cells C e fr)).cell? (Ad w.heap.size i)=C[i]?:=by
 have h:(w.alloc (.cells C e fr)).heap[w.heap.size]?=some (.cells C e fr):=by show(w.heap.push (.cells C e fr))[w.heap.size]?=_;simp
 unfold World.cell?;rw[h]
 rfl
def Ob(l:LI)(k:Nat):Nat:=(List.range k).foldl (λa i=>if l.getD i 0=47 then i else a) 0
def uQ(l:LI)(k:Nat):Ob l (k+1)=if l.getD k 0=47 then k else Ob l k:=by
 rw[Ob,af7,Qo];rfl
def fg(l:LI):LI:=if Ob l l.length=0 then[47]else l.take (Ob l l.length)
theorem kW{c n:Nat}(en:Hid (l.length=n)){w:World}(h:Rd w (.S p n c) l)(hn:Mg n)(hc:n<=c)(EU:c<=maxLen):Calls prog 179 #[.S p n c] w λr w'=>∃q m d,r=.returned (.S q m d)/\(fg l).length=m/\m<=n+1/\Rd w' (.S q m d) (fg l)/\Bw w w':=by
 have HR:=af h;clear h
 go_in
 go_wp2_with fail
 go_loopw[3,4](λav iv wr=>∃k a:Nat,k<=n/\iv=.I k/\av=.I a/\a<=k/\Hid (Ob l k=a)/\wr=w) (λ_ iv _=>n-(intOf iv).toNat)
 exact⟨0,0,fN _,rfl,rfl,iP _,bq,rfl⟩;{
 obtain⟨k,a,hk,rfl,rfl,hak,hls,rfl⟩:=hrel;by_cases aT:k<n;{
 have bu:=aS k n;have fh:k<l.length:=aa en▸aT;obtain⟨b,o,rfl,-,cW⟩:=HR.at ae;have Dx:=cW k fh;have cX:=uQ l k;obtain⟨y,ey⟩:=aI (l.getD k 0);rw[ey]at Dx cX;clear cW fh ey;by_cases qm:y=47;{subst qm;rw[bN rfl]at cX;have qz:=af cX;clear cX;go_wp2;go_roundw;exact⟨k+1,k,ae,by go_num,rfl,ae,qz,by first|rfl|trivial⟩;exact bM};{
 have dN5:(y==47)=false:=by simp[qm]
 rw[bG qm,aa hls]at cX;have qz:=af cX;clear cX;go_wp2;go_roundw;exact⟨k+1,a,ae,by go_num,rfl,ae,qz,by first|rfl|trivial⟩;exact bM}};{
 have bu:=dm k n;have yx:k=n:=ae;subst yx;clear hk aT;by_cases ha:a=0;{
 subst ha;have rK:Hid (fg l=[47]):=by show _=_;rw[fg,aa en,aa hls,bN rfl]
 have hcv:=Lib.run_convert_bytes_const (P:=prog) wr 22 5 #[.int .u8 47] 1 1 underlying22 underlying5;go_wp2;go_ret;refine⟨_,_,_,rfl,by rw[aa rK];rfl,ae,?_,au.alloc ao _⟩;rw[aa rK];refine⟨_,_,rfl,.inr ⟨wr.heap.size,0,rfl,λi hi=>?_⟩⟩
 match i,hi with
 |0,_=>(rw[kS,ar9];rfl)}
 {
 have Oh:((a:Int)==0)=false:=by simp[ha]
 have rK:Hid (fg l=l.take a):=by show _=_;rw[fg,aa en,aa hls,bG ha]
 obtain⟨b,o,rfl,-,-⟩:=HR.at (by rw[aa en];omega);have g1:=iH a k;have g2:=iH a c;have HRC:=HR.cut 0 a (fN _) (by rw[aa en];omega) (some (Ad b o)) (.inr rfl) c (l.take a) ai;have HRD:=af HRC;clear HRC;go_wp2;go_ret;exact⟨_,_,_,rfl,by rw[aa rK,od,aa en];omega,ae,by rw[aa rK];exact aa HRD,cR _ _⟩}}}
def tQ(v:Value):Prop:=∃p n c,v=.S p n c/\n<=c/\c<=maxLen
structure rG(w:World)(b a:Nat)(nd:aC)(P V H U:Value):Prop where
 c0:w.cell? (Ad b a)=some P
 c1:w.cell? (Ad b (a+1))=some V
 c2:w.cell? (Ad b (a+2))=some (.U nd.owner)
 c3:w.cell? (Ad b (a+3))=some (.I nd.mode)
 c4:w.cell? (Ad b (a+4))=some H
 c5:w.cell? (Ad b (a+5))=some (.U nd.aJ)
 c6:w.cell? (Ad b (a+6))=some (.U nd.gen)
 c7:w.cell? (Ad b (a+7))=some U
 r0:Rd w P nd.path
 r1:Rd w V nd.value
 r4:rD w H nd.holders
 r7:rD w U nd.watchers
 k0:tQ P
def rG.below{w w':World}{nd:aC}{P V H U:Value}(h:rG w b a nd P V H U)(hb:Bw w w'):rG w' b a nd P V H U:=
 ⟨ag h.c0 hb,ag h.c1 hb,ag h.c2 hb,ag h.c3 hb,ag h.c4 hb,ag h.c5 hb,ag h.c6 hb,ag h.c7 hb,h.r0.below hb,h.r1.below hb,h.r4.below hb,h.r7.below hb,h.k0⟩
def oU(w:World)(v:Value)(ns:List aC):Prop:=
 ∃(p:OA)(c:Nat),v=.S p ns.length c/\(ns=[]\/∃b o,p=some (Ad b o)/\∀i nd,ns[i]?=some nd->∃P V H U,rG w b (o+i*8) nd P V H U)
def oU.below{w w':World}(h:oU w v ns)(hb:Bw w w'):oU w' v ns:=by
 obtain⟨p,c,rfl,h⟩:=h;refine⟨p,c,rfl,?_⟩;rcases h with h|⟨b,o,rfl,h⟩;{exact .inl h};{refine .inr ⟨b,o,rfl,λi e he=>?_⟩;obtain⟨P,V,H,U,h1⟩:=h i e he;exact⟨P,V,H,U,h1.below hb⟩}
abbrev ndV(P V:Value)(ow mo:Int)(H:Value)(ep ge:Int)(U:Value):Value:=.agg #[P,V,.U ow,.I mo,H,.U ep,.U ge,U]
def fe(e g mo:Int)(nh:Nat)(ep ge:Int):Bool:=
 if mo=1 then nh==1&&(decide (1<=ge)&&(decide (ge<=g)&&decide (ep<=e)))else ep==0&&(ge==0&&(if mo=0 then nh==0 else mo==2&&decide (1<=nh)))
def Ap{e g x t ow mo ep ge:Int}{S N P V U:Value}{c n:Nat}{w:World}(hn:Mg n)(eB:Hid (fe e g mo n ep ge=B)):Calls prog 182 #[ft e g x t S N,ndV P V ow mo (.S p n c) ep ge U] w (Rb (.bool B) w):=by
 go_in
 go_wp2_with fail
 all_goals(
  go_ret;refine⟨?_,(au.alloc ao _).alloc ai _⟩;rw[<-aa eB];simp only[fe,ad0,af5])
 all_goals first|(simp_all;done)|(simp_all;omega)|skip
 all_goals(
  show Value.bool ((n:Int)==0)=Value.bool _
  congr 1
  have e0:mo=0:=(by simpa using ‹(mo==0)=true›);have e1:ge=0:=(by simpa using ‹(ge != 0)=false›);subst e0 e1;rw[GF]
  simp_all)
def oU.at{w:World}{n c:Nat}(h:oU w (.S p n c) ns)(hl:0<ns.length):∃b o,p=some (Ad b o)/\∀i nd,ns[i]?=some nd->∃P V H U,rG w b (o+i*8) nd P V H U:=by
 obtain⟨p',c',ev,hd⟩:=h;obtain⟨rfl,-,-⟩:=js ev;rcases hd with h0|⟨b,o,h1,h2⟩;{rw[h0]at hl;simp at hl};{exact⟨b,o,h1,h2⟩}
def Rd.iK{w:World}(h:Rd w v l):∃p c n,v=.S p n c/\Hid (l.length=n):=by
 obtain⟨p,c,rfl,-⟩:=h;exact⟨p,c,_,rfl,bq⟩
def List.jW{α:Type}{ns:List α}{k:Nat}{y:α}(h:ns[k]?=some y):y::ns.drop (k+1)=ns.drop k:=by
 obtain⟨hk,rfl⟩:=bf.1 h;exact(Mr hk).symm
def iq(ns:List aC)(l:LI):Option aC:=ns.find? λnd=>decide (nd.path=l)
def xR{p q:OA}{c n d m:Nat}{S:Value}(en:Hid (ns.length=n))(em:Hid (l.length=m)){w:World}(h:oU w (.S p n c) ns)(hl:Rd w (.S q m d) l)(hn:Mg n)(hm:m<=2097152)(gq:Hid (aN l/\∀nd∈ns,aN nd.path)):Calls prog 129 #[ft e g x t S (.S p n c),.S q m d] w λr w'=>((∃(k:Nat)(nd:aC),r=.returned (.I k)/\k<n/\ns[k]?=some nd/\iq ns l=some nd)\/(r=.returned (.I (-1))/\iq ns l=none))/\Bw w w':=by
 have HR:=af λ(w':World)(hb:Bw w w')=>ah (h.below hb) (hl.below hb)
 go_in
 go_wp2_with fail;obtain⟨W,hW⟩:=az (w.alloc (.cells #[.U e,.U g,.U x,.I t,S,.S p n c] 35));have bW:=ew hW;have Dz:W.cell? (Ad w.heap.size 5)=some (.S p n c):=by rw[hW];simp
 rw[<-hW];have BW:=af bW;have HC5:=af Dz
 go_loopw[5](λiv wr=>∃k:Nat,k<=n/\iv=.I k/\Hid (iq (ns.take k) l=none)/\Bw W wr) (λiv _=>n-(intOf iv).toNat)
 exact⟨0,fN _,rfl,bq,cR _ _⟩;{
 obtain⟨k,hk,rfl,l9,aK⟩:=hrel;have BB:=aj BW aK;have i5:=ag HC5 aK;by_cases aT:k<n;{
 have bu:=aS k n;have fh:k<ns.length:=aa en▸aT;obtain⟨hN,hL⟩:=aa HR _ BB;obtain⟨b,o,rfl,hA⟩:=hN.at ae;obtain⟨nd,hy⟩:=mR fh;obtain⟨P,V,H,U,bj⟩:=hA k nd hy;have hP:=bj.c0;have hrP:=bj.r0;obtain⟨pp,pc,pn,rfl,Nk⟩:=hrP.iK;have hBP:=gq.2 nd (aY hy);have HY:=af hy;have HRP:=af hrP;have HBP:=af hBP;have HLL:=af hL;go_wp2_with fail;refine(lZ Nk em HRP HLL HBP gq.1).mono ?_;rintro r w2⟨rfl,aD⟩;by_cases rK:nd.path=l;{
 rw[show decide (nd.path=l)=true by simp[rK]];have hF:Hid (iq ns l=some nd):=by
  show _=_;have e1:ns=ns.take k++nd::ns.drop (k+1):=by rw[List.jW (aa HY),Dg]
  rw[e1,iq,List.find?_append,show(ns.take k).find? (λnd=>decide (nd.path=l))=none from aa l9];simp[rK]
 have b2:=aj BB aD;go_wp2;go_ret;exact⟨.inl ⟨k,nd,rfl,aT,HY,hF⟩,b2⟩};{
 rw[show decide (nd.path=l)=false by simp[rK]];have aj8:Hid (iq (ns.take (k+1)) l=none):=by show _=_;rw[ni,aa HY,iq,List.find?_append,show(ns.take k).find? (λnd=>decide (nd.path=l))=none from aa l9];simp[rK]
 have b2:=aj aK aD;go_wp2;go_roundw;exact⟨k+1,ae,by go_num,aj8,b2⟩;exact bM}};{
 have bu:=dm k n;have hF:Hid (iq ns l=none):=by show _=_;have:=aa l9;rwa [ke (by rw[aa en];omega)]at this
 go_wp2;go_ret;exact⟨.inr ⟨rfl,hF⟩,BB⟩}}
def dU(ns:List aC)(l:LI):Bool:=if l=[47]then true else match iq ns l with|some nd=>nd.owner==0|none=>false
theorem jZ{p q:OA}{c n d m:Nat}{S:Value}(en:Hid (ns.length=n))(em:Hid (l.length=m)){w:World}(h:oU w (.S p n c) ns)(hl:Rd w (.S q m d) l)(hn:Mg n)(hm:m<=2097152)(gq:Hid (aN l/\∀nd∈ns,aN nd.path))(eB:Hid (dU ns l=B)):Calls prog 178 #[ft e g x t S (.S p n c),.S q m d] w (Rb (.bool B) w):=by
 have HR:=af λ(w':World)(hb:Bw w w')=>ah (h.below hb) (hl.below hb);clear h hl;obtain⟨W,hW⟩:=az (w.alloc (.cells #[.U e,.U g,.U x,.I t,S,.S p n c] 35));have bW:=ew hW;have sW:W.heap.size=w.heap.size+1:=by rw[hW];simp
 have Dz:jO W w.heap.size e g x t S (.S p n c):=by rw[hW];simp[jO]
 have hcv:=Lib.run_convert_bytes_const (P:=prog) W 22 5 #[.int .u8 47] 1 1 underlying22 underlying5;simp only[show(#[Value.int .u8 47]:Array Value).size=1 from rfl]at hcv;obtain⟨X,hX⟩:=az (W.alloc (.cells #[.int .u8 47] 5 (1,1+1)));have rX:Rd X (.T (w.heap.size+1) 1 1) [47]:=by
  rw[hX,<-sW];refine⟨_,_,rfl,.inr ⟨W.heap.size,0,rfl,λi hi=>?_⟩⟩
  match i,hi with
  |0,_=>(rw[kS,ar9];rfl)
 have bX:Bw w X:=hX▸bW.alloc ae _;have iX:jO X w.heap.size e g x t S (.S p n c):=Dz.below (hX▸au.alloc ao _);rw[<-hX,sW,hW]at hcv;clear sW Dz bW hX hW;have RX:=af rX;have BX:=af bX;have IX:=af iX;clear rX bX iX
 go_in
 go_wp2_with fail;refine(lZ em bq (aa HR _ (aa BX)).2 (aa RX) gq.1 (by intro x hx;simp at hx;omega)).mono ?_;rintro r w2⟨rfl,aD⟩;have b2:=aj BX aD;obtain⟨j0,j1,j2,j3,j4,j5⟩:=IX.below aD;clear hcv aD;by_cases qm:l=[47];{
 rw[show decide (l=[47])=true by simp[qm]];have eT:B=true:=by rw[<-aa eB,dU,bN qm]
 subst eT;clear qm;go_wp2;go_ret;exact⟨rfl,b2⟩};{
 rw[show decide (l=[47])=false by simp[qm]];have hB:(match iq ns l with|some nd=>nd.owner==0|none=>false)=B:=by rw[<-aa eB,dU,bG qm]
 have HB:=af hB;clear hB qm;go_wp2_with fail;refine(xR en em (aa HR _ b2).1 (aa HR _ b2).2 hn hm gq).mono ?_;rintro r w3⟨hr,aL⟩;have b3:=aj b2 aL;have k5:=ag j5 aL;clear j0 j1 j2 j3 j4 j5 aL;rcases hr with⟨k,nd,rfl,hk,hy,hF⟩|⟨rfl,hF⟩;{
 rw[hF]at HB;have fh:k<ns.length:=aa en▸hk;obtain⟨b,o,rfl,hA⟩:=(aa HR _ b3).1.at ae;obtain⟨P,V,H,U,bj⟩:=hA k nd hy;have hO:=bj.c2;have hk':=aS k n;have QZ:=dA 0 k;clear hA bj fh hy hF;cases B with
 |true=>
  have ho:nd.owner=0:=by have:=aa HB;simpa using this
  rw[ho]at hO;clear ho;go_wp2;go_ret;exact⟨rfl,b3⟩
 |false=>
  have ho:(nd.owner==0)=false:=aa HB;go_wp2;go_ret;exact⟨rfl,b3⟩};{rw[hF]at HB;have eF:B=false:=HB.symm;subst eF;clear hF;go_wp2;go_ret;exact⟨rfl,b3⟩}}
def leB(l m:LI):Bool:=Op.bytesLess (aO l).toList (aO m).toList||(aO l).toList==(aO m).toList
def gu:aC:=⟨[],[],0,0,[],0,0,[]⟩
def lI(e g:Int)(ss:List aP)(ns:List aC)(k:Nat):Bool:=
 let nd:=ns.getD k gu
 (vp nd.path&&(k==0||!leB nd.path (ns.getD (k-1) gu).path))&&(dU ns (fg nd.path)&&(decide (nd.value.length<=40)&&((nd.owner==0||live ss nd.owner)&&(iR ss nd.holders&&(iR ss nd.watchers&&fe e g nd.mode nd.holders.length nd.aJ nd.gen)))))
def sa(h:aN l):aN (fg l):=by
 unfold fg;split;{intro x hx;simp at hx;omega};{exactλx hx=>h x (GI hx)}
def rD.iK{w:World}(h:rD w v l):∃p c n,v=.S p n c/\Hid (l.length=n):=by
 obtain⟨p,c,rfl,-⟩:=h;exact⟨p,c,_,rfl,bq⟩
theorem My{p q:OA}{c n d m k:Nat}(en:Hid (ss.length=n))(em:Hid (ns.length=m)){w:World}(h:yL w (.S p n c) ss)(hN:oU w (.S q m d) ns)(hn:Mg n)(hm:Mg m)(hk:k<m)(gq:Hid (∀nd∈ns,aN nd.path/\nd.path.length<=1048576/\nd.value.length<=1048576/\nd.holders.length<=1048576/\nd.watchers.length<=1048576))(eB:Hid (lI e g ss ns k=B)):Calls prog 120 #[ft e g x t (.S p n c) (.S q m d),.I k] w (Rb (.bool B) w):=by
 have HR:=af λ(w':World)(hb:Bw w w')=>ah (h.below hb) (hN.below hb);have fh:k<ns.length:=aa em▸hk;obtain⟨nd,hy⟩:=mR fh;have hyD:ns.getD k gu=nd:=by rw[gK,hy];rfl
 obtain⟨b,o,rfl,hA⟩:=hN.at ae;obtain⟨P,V,H,U,bj⟩:=hA k nd hy;obtain⟨Cq,iY,hB3,hB4,hB5⟩:=aa gq _ (aY hy);obtain⟨pp,pc,pn,rfl,Nk⟩:=bj.r0.iK;obtain⟨vp',vc,vn,rfl,eVn⟩:=bj.r1.iK;obtain⟨hp,hc,hh,rfl,UK⟩:=bj.r4.iK;obtain⟨up,uc,un,rfl,Ye⟩:=bj.r7.iK;have XF:pn<=1048576:=aa Nk▸iY;have hvn:vn<=1048576:=aa eVn▸hB3;have YX:hh<=1048576:=aa UK▸hB4;have YQ:un<=1048576:=aa Ye▸hB5;have hk':=aS k m;have cq2:=dA 0 k;have b1:Bw w (w.alloc (.cells #[.U e,.U g,.U x,.I t,.S p n c,.S (some (Ad b o)) m d] 35)):=au.alloc ao _;have co9:=bj.below b1;obtain⟨c0,c1,c2,c3,c4,c5,c6,c7,-,-,-,-,-⟩:=co9;have HYD:=af hyD;have HND:=af bj;have HBP:=af Cq;have HA:=af hA
 go_in
 go_wp2_with fail;obtain⟨X,hX⟩:=az ((w.alloc (.cells #[.U e,.U g,.U x,.I t,.S p n c,.S (some (Ad b o)) m d] 35)).alloc (.cells #[.S pp pn pc,.S vp' vn vc,.U nd.owner,.I nd.mode,.S hp hh hc,.U nd.aJ,.U nd.gen,.S up un uc] 119));have bX:Bw w X:=hX▸b1.alloc ai _;have iX:jO X w.heap.size e g x t (.S p n c) (.S (some (Ad b o)) m d):=by rw[hX];simp[jO]
 have nX:rG X (w.heap.size+1) 0 nd (.S pp pn pc) (.S vp' vn vc) (.S hp hh hc) (.S up un uc):=
  ⟨by rw[hX];simp,by rw[hX];simp,by rw[hX];simp,by rw[hX];simp,by rw[hX];simp,by rw[hX];simp,by rw[hX];simp,by rw[hX];simp,HND.r0.below bX,HND.r1.below bX,HND.r4.below bX,HND.r7.below bX,HND.k0⟩
 rw[<-hX];have BX:=af bX;have IX:=af iX;have NX:=af nX;obtain⟨V1,eV⟩:=aI (vp nd.path);have EV:=af eV;obtain⟨C,eC⟩:∃C,(!(V1&&(k==0||!leB nd.path (ns.getD (k-1) gu).path)))=C:=⟨_,rfl⟩;have hB:B=(!C&&(dU ns (fg nd.path)&&(decide (nd.value.length<=40)&&((nd.owner==0||live ss nd.owner)&&(iR ss nd.holders&&(iR ss nd.watchers&&fe e g nd.mode nd.holders.length nd.aJ nd.gen)))))):=by rw[<-aa eB,lI,aa HYD,<-eC,af4,show vp nd.path=V1 from aa EV]
 go_cut[32](λrv wc=>rv=.bool C/\Bw w wc/\jO wc w.heap.size e g x t (.S p n c) (.S (some (Ad b o)) m d)/\rG wc (w.heap.size+1) 0 nd (.S pp pn pc) (.S vp' vn vc) (.S hp hh hc) (.S up un uc))
 case first=>(
 cases V1 with
 |false=>
  have Yg:C=true:=by rw[<-eC];rfl
  subst Yg;refine dC (λw'=>w'.cell? (Ad (w.heap.size+1) 0)=some (.S pp pn pc)/\w'.cell? (Ad w.heap.size 5)=some (.S (some (Ad b o)) m d)/\Rd w' (.S pp pn pc) nd.path) (by exact⟨NX.c0,IX.2.2.2.2.2,NX.r0⟩) λhS=>?_;refine kG 0 1 hS ?_;refine ry [2] ?_;refine cn (λKK hK=>?_) ?_;{refine jv (Lv Nk (by exact NX.r0) HBP XF EV) ?_;rintro r w2⟨rfl,aD⟩;refine⟨_,rfl,?_⟩;have bR:Bw X w2:=aj (cR X.heap.size X).drew aD;refine gr hK (by exact⟨ag NX.c0 bR,ag IX.2.2.2.2.2 bR,NX.r0.below bR⟩) λhS=>?_;refine kG 3 4 hS ?_;refine oI 5 6 7 8 hS ?_;refine oI 9 10 11 12 hS ?_;refine oI 13 14 15 16 hS ?_;refine oI 17 18 19 20 hS ?_;refine tn 21 hS ?_;refine dw ?_;go_wp2_with fail;go_meet;exact⟨rfl,aj BX bR,IX.below bR,NX.below bR⟩};exact eG
 |true=>
  by_cases QZ:k=0;{
 have Yg:C=false:=by rw[<-eC,QZ];rfl
 subst Yg;have hp':¬0<k:=ae;have dE9:¬(0:Int)<(k:Int):=ae;clear eC QZ;refine dC (λw'=>w'.cell? (Ad (w.heap.size+1) 0)=some (.S pp pn pc)/\w'.cell? (Ad w.heap.size 5)=some (.S (some (Ad b o)) m d)/\Rd w' (.S pp pn pc) nd.path) (by exact⟨NX.c0,IX.2.2.2.2.2,NX.r0⟩) λhS=>?_;refine kG 0 1 hS ?_;refine dM 2 λKK hK=>?_;refine jv (Lv Nk (by exact NX.r0) HBP XF EV) ?_;rintro r w2⟨rfl,aD⟩;refine⟨_,rfl,?_⟩;have bR:Bw X w2:=aj (cR X.heap.size X).drew aD;refine gr hK (by exact⟨ag NX.c0 bR,ag IX.2.2.2.2.2 bR,NX.r0.below bR⟩) λhS=>?_;clear hK KK;refine mU 3 4 5 6 hS ?_;refine tn 7 hS ?_;refine oI 8 9 10 11 hS ?_;refine oI 12 13 14 15 hS ?_;refine oI 16 17 18 19 hS ?_;refine kG 20 21 hS ?_;refine dw ?_;clear hS;go_wp2_with fail;go_meet;exact⟨rfl,aj BX bR,IX.below bR,NX.below bR⟩};{
 obtain⟨j,ej⟩:∃j:Nat,(k:Int)-1=(j:Int):=⟨k-1,ae⟩;have Yd:k-1=j:=ae;have Ck:j<ns.length:=ae;obtain⟨zd,hz⟩:=mR Ck;have hzD:ns.getD j gu=zd:=by rw[gK,hz];rfl
 obtain⟨Z,Z1,Z2,Z3,hzn⟩:=aa HA j zd hz;obtain⟨zp,zc,zn,rfl,eZn⟩:=hzn.r0.iK;have KZ:=af (ag hzn.c0 BX);have RZ:=af (hzn.r0.below BX);have hpk:0<k:=ae;have dE7:=qi 0 k;have hjm:=aS j m;have hj0:=dA 0 j;have wj:=fk j;rw[Yd,hzD,show(k==0)=false by simp[QZ],pM,Kk,af4]at eC;have HLE:Hid ((Op.bytesLess (aO nd.path).toList (aO zd.path).toList||(aO nd.path).toList==(aO zd.path).toList)=C):=eC;clear hz hzD Ck hzn Yd QZ eC;refine dC (λw'=>w'.cell? (Ad (w.heap.size+1) 0)=some (.S pp pn pc)/\w'.cell? (Ad w.heap.size 5)=some (.S (some (Ad b o)) m d)/\Rd w' (.S pp pn pc) nd.path/\w'.cell? (Ad b (o+j*8))=some (.S zp zn zc)/\Rd w' (.S zp zn zc) zd.path) (by exact⟨NX.c0,IX.2.2.2.2.2,NX.r0,KZ,RZ⟩) λhS=>?_;refine kG 0 1 hS ?_;refine ry [2] ?_;refine cn (λKK hK=>?_) ?_;{
 refine jv (Lv Nk (by exact NX.r0) HBP XF EV) ?_;rintro r w2⟨rfl,aD⟩;refine⟨_,rfl,?_⟩;have bR:Bw X w2:=aj (cR X.heap.size X).drew aD;refine gr hK (by exact⟨ag NX.c0 bR,ag IX.2.2.2.2.2 bR,NX.r0.below bR,ag KZ bR,RZ.below bR⟩) λhS=>?_;clear hK KK;refine mU 3 4 5 6 hS ?_;refine kG 7 8 hS ?_;refine tn 9 hS ?_;refine xh (i:=10) (oi:=_) (v:=?_) (by simp only[xQ,BQ,BO];rfl) bg bg bg (λ_ _ _ h=>h) (Or.inl ⟨aH,?_⟩) hS ?_;rotate_left;{(intro w' xt;(try dsimp only at xt);have hcv:=dL (aa Nk) xt.2.2.1;go_simp;try with_reducible rfl)}
 simp only[Act.put,xa,xb,xc];refine mU 11 12 13 14 hS ?_;refine kG 15 16 hS ?_;refine tn 17 hS ?_;refine xh (i:=18) (oi:=_) (v:=?_) (by simp only[xQ,BQ,BO];rfl) bg bg bg (λ_ _ _ h=>h) (Or.inl ⟨aH,?_⟩) hS ?_;rotate_left;{(intro w' xt;(try dsimp only at xt);have hcv:=dL (aa eZn) xt.2.2.2.2;go_simp;try with_reducible rfl)}
 simp only[Act.put,xa,xb,xc];refine xh (i:=19) (oi:=_) (v:=?_) (by simp only[xQ,BQ,BO];rfl) bg bg bg (λ_ _ _ h=>h) (Or.inl ⟨aH,?_⟩) hS ?_;rotate_left;{(intro w' xt;(try dsimp only at xt);have hle:=aa HLE;go_simp;try with_reducible rfl)}
 simp only[Act.put,xa,xb,xc];refine kG 20 21 hS ?_;refine dw ?_;clear hS;go_wp2_with fail;go_meet;exact⟨rfl,aj BX bR,IX.below bR,NX.below bR⟩};exact eG})
 obtain⟨rfl,DA,⟨i0,i1,i2,i3,i4,i5⟩,xq⟩:=hcut;have AL:=af xq;obtain⟨c0,c1,c2,c3,c4,c5,c6,c7,-,-,-,-,-⟩:=xq;clear EV HA HND NX IX BX;cases C with
 |true=>
  have eF:B=false:=by rw[hB];rfl
  subst eF;clear hB eC;go_wp2;go_ret;exact⟨rfl,DA⟩
 |false=>
  rw[af3,pM]at hB;have HB:=af hB;clear hB eC;go_wp2_with fail;obtain⟨pa,pb,pd,epp,hpc,hpm⟩:=AL.k0;obtain⟨rfl,rfl,rfl⟩:=js epp;have I6:Hid (jO wc w.heap.size e g x t (.S p n c) (.S (some (Ad b o)) m d)):=⟨i0,i1,i2,i3,i4,i5⟩;have hcp:∀(vs:Array Value)(w:World),(callFunc 179 vs).run prog w=.ok (.enter 179 vs) w:=λvs w=>bg;have HCP:=af hcp;have EW:∀(vs:Array Value)(w:World),(callFunc 178 vs).run prog w=.ok (.enter 178 vs) w:=λvs w=>bg;have vW:=af EW;have HBN:Hid (aN (fg nd.path)/\∀nd∈ns,aN nd.path):=⟨sa HBP,λnd h=>(aa gq nd h).1⟩;clear i0 i1 i2 i3 i4 i5 c0 c1 c2 c3 c4 c5 c6 c7 hcp EW;obtain⟨C2,eC2⟩:=aI (dU ns (fg nd.path));have EC2:=af eC2;obtain⟨C3,eC3⟩:∃C3,(!(C2&&decide (nd.value.length<=40)))=C3:=⟨_,rfl⟩;have iY:B=(!C3&&((nd.owner==0||live ss nd.owner)&&(iR ss nd.holders&&(iR ss nd.watchers&&fe e g nd.mode nd.holders.length nd.aJ nd.gen)))):=by rw[aa HB,eC2,<-eC3,af4,Bool.and_assoc]
  rw[aa eVn]at eC3;clear eC2 HB
  go_cut[44](λrv w'=>rv=.bool C3/\Bw w w'/\jO w' w.heap.size e g x t (.S p n c) (.S (some (Ad b o)) m d)/\rG w' (w.heap.size+1) 0 nd (.S pp pn pc) (.S vp' vn vc) (.S hp hh hc) (.S up un uc))
  case first=>(
 clear iY;cases C2 with
 |false=>
  have Yg:C3=true:=by rw[<-eC3];rfl
  subst Yg;clear eC3;refine dC (λw'=>jO w' w.heap.size e g x t (.S p n c) (.S (some (Ad b o)) m d)/\w'.cell? (Ad (w.heap.size+1) 0)=some (.S pp pn pc)/\w'.cell? (Ad (w.heap.size+1) 1)=some (.S vp' vn vc)) (by exact⟨I6,AL.c0,AL.c1⟩) λhS=>?_;refine kG 0 1 hS ?_;refine tn 2 hS ?_;refine ry [3] ?_;refine cn (λKK hK=>?_) ?_;{refine iC aH aH aH (λ_=>aa HCP _ _) (kW Nk (by exact AL.r0) XF hpc hpm) ?_;rintro r w2⟨q',m',d',rfl,em',hm',hr',aD⟩;refine⟨_,rfl,?_⟩;have bR:Bw wc w2:=aj (cR wc.heap.size wc).drew aD;refine gr hK (by exact⟨I6.below bR,ag AL.c0 bR,ag AL.c1 bR⟩) λhS=>?_;clear hK KK;refine dM 4 λKK hK=>?_;refine kc aH aH aH aH (λ_=>aa vW _ _) (jZ em em' (aa HR _ (aj DA bR)).2 hr' hm ae HBN EC2) ?_;rintro r w3⟨rfl,aL⟩;refine⟨_,rfl,?_⟩;have dS:Bw wc w3:=aj bR aL;refine gr hK (by exact⟨I6.below dS,ag AL.c0 dS,ag AL.c1 dS⟩) λhS=>?_;clear hK KK;refine kG 5 6 hS ?_;refine oI 7 8 9 10 hS ?_;refine tn 11 hS ?_;refine dw ?_;clear hS;go_wp2_with fail;go_meet;exact⟨rfl,aj DA dS,I6.below dS,AL.below dS⟩};exact eG
 |true=>
  by_cases h40:vn<=40;{
 have Yg:C3=false:=by rw[<-eC3];simp[h40]
 subst Yg;have cy3:¬(40:Int)<(vn:Int):=ae;clear eC3;refine dC (λw'=>jO w' w.heap.size e g x t (.S p n c) (.S (some (Ad b o)) m d)/\w'.cell? (Ad (w.heap.size+1) 0)=some (.S pp pn pc)/\w'.cell? (Ad (w.heap.size+1) 1)=some (.S vp' vn vc)) (by exact⟨I6,AL.c0,AL.c1⟩) λhS=>?_;refine kG 0 1 hS ?_;refine tn 2 hS ?_;refine dM 3 λKK hK=>?_;refine iC aH aH aH (λ_=>aa HCP _ _) (kW Nk (by exact AL.r0) XF hpc hpm) ?_;rintro r w2⟨q',m',d',rfl,em',hm',hr',aD⟩;refine⟨_,rfl,?_⟩;have bR:Bw wc w2:=aj (cR wc.heap.size wc).drew aD;refine gr hK (by exact⟨I6.below bR,ag AL.c0 bR,ag AL.c1 bR⟩) λhS=>?_;clear hK KK;refine dM 4 λKK hK=>?_;refine kc aH aH aH aH (λ_=>aa vW _ _) (jZ em em' (aa HR _ (aj DA bR)).2 hr' hm ae HBN EC2) ?_;rintro r w3⟨rfl,aL⟩;refine⟨_,rfl,?_⟩;have dS:Bw wc w3:=aj bR aL;refine gr hK (by exact⟨I6.below dS,ag AL.c0 dS,ag AL.c1 dS⟩) λhS=>?_;clear hK KK;refine mU 5 6 7 8 hS ?_;refine kG 9 10 hS ?_;refine tn 11 hS ?_;refine dw ?_;clear hS;go_wp2_with fail;go_meet;exact⟨rfl,aj DA dS,I6.below dS,AL.below dS⟩};{
 have Yg:C3=true:=by rw[<-eC3];simp[h40]
 subst Yg;have cy3:=qi 40 vn;clear eC3;refine dC (λw'=>jO w' w.heap.size e g x t (.S p n c) (.S (some (Ad b o)) m d)/\w'.cell? (Ad (w.heap.size+1) 0)=some (.S pp pn pc)/\w'.cell? (Ad (w.heap.size+1) 1)=some (.S vp' vn vc)) (by exact⟨I6,AL.c0,AL.c1⟩) λhS=>?_;refine kG 0 1 hS ?_;refine tn 2 hS ?_;refine ry [3] ?_;refine cn (λKK hK=>?_) ?_;{refine iC aH aH aH (λ_=>aa HCP _ _) (kW Nk (by exact AL.r0) XF hpc hpm) ?_;rintro r w2⟨q',m',d',rfl,em',hm',hr',aD⟩;refine⟨_,rfl,?_⟩;have bR:Bw wc w2:=aj (cR wc.heap.size wc).drew aD;refine gr hK (by exact⟨I6.below bR,ag AL.c0 bR,ag AL.c1 bR⟩) λhS=>?_;clear hK KK;refine dM 4 λKK hK=>?_;refine kc aH aH aH aH (λ_=>aa vW _ _) (jZ em em' (aa HR _ (aj DA bR)).2 hr' hm ae HBN EC2) ?_;rintro r w3⟨rfl,aL⟩;refine⟨_,rfl,?_⟩;have dS:Bw wc w3:=aj bR aL;refine gr hK (by exact⟨I6.below dS,ag AL.c0 dS,ag AL.c1 dS⟩) λhS=>?_;clear hK KK;refine mU 5 6 7 8 hS ?_;refine kG 9 10 hS ?_;refine tn 11 hS ?_;refine dw ?_;clear hS;go_wp2_with fail;go_meet;exact⟨rfl,aj DA dS,I6.below dS,AL.below dS⟩};exact eG})
  obtain⟨rfl,hbd,⟨i0,i1,i2,i3,i4,i5⟩,bz6⟩:=hcut;have Be:=af bz6;obtain⟨c0,c1,c2,c3,c4,c5,c6,c7,-,-,-,-,-⟩:=bz6;clear I6 AL HCP vW HBN EC2 eC3;cases C3 with
  |true=>
   have eF:B=false:=by rw[iY];rfl
   subst eF;clear iY;go_wp2;go_ret;exact⟨rfl,hbd⟩
  |false=>
   rw[af3,pM]at iY;obtain⟨ow,eo⟩:=aI nd.owner;rw[eo]at iY c2;clear eo;by_cases ho:ow=0;{
 subst ho;have vD:Hid (B=(iR ss nd.holders&&(iR ss nd.watchers&&fe e g nd.mode nd.holders.length nd.aJ nd.gen))):=iY;clear iY;obtain⟨T1,eT1⟩:=aI (iR ss nd.holders);obtain⟨T2,eT2⟩:=aI (iR ss nd.watchers);obtain⟨T3,eT3⟩:=aI (fe e g nd.mode hh nd.aJ nd.gen);have ET1:=af eT1;have ET2:=af eT2;have ET3:=af eT3;have Se:Hid (B=(T1&&(T2&&T3))):=by show _=_;rw[aa vD,eT1,eT2,aa UK,eT3]
 clear eT1 eT2 eT3 vD;go_wp2_with fail;refine(qH en UK (aa HR _ hbd).1 Be.r4 hn YX ET1).mono ?_;rintro r wa⟨rfl,ve⟩;have Ba:=aj hbd ve;have HNa:=af (Be.below ve);cases T1 with
 |false=>
  have eF:B=false:=by rw[aa Se];rfl
  subst eF;clear Se;go_wp2;go_ret;exact⟨rfl,Ba⟩
 | true=>
  have a0:=ag i0 ve;have a1:=ag i1 ve;have a2:=ag i2 ve;have a3:=ag i3 ve;have a4:=ag i4 ve;have a5:=ag i5 ve;have d0:=ag c0 ve;have d1:=ag c1 ve;have d2:=ag c2 ve;have d3:=ag c3 ve;have d4:=ag c4 ve;have d5:=ag c5 ve;have d6:=ag c6 ve;have d7:=ag c7 ve;clear i0 i1 i2 i3 i4 i5 c0 c1 c2 c3 c4 c5 c6 c7 ve;go_wp2_with fail;refine(qH en Ye (aa HR _ Ba).1 HNa.r7 hn YQ ET2).mono ?_;rintro r wb⟨rfl,oq⟩;have Bb:=aj Ba oq;cases T2 with
  |false=>
   have eF:B=false:=by rw[aa Se];rfl
   subst eF;clear Se;go_wp2;go_ret;exact⟨rfl,Bb⟩
  |true=>
   have eT:B=T3:=by rw[aa Se];rfl
   subst eT;have f0:=ag a0 oq;have f1:=ag a1 oq;have f2:=ag a2 oq;have f3:=ag a3 oq;have f4:=ag a4 oq;have f5:=ag a5 oq;have g0:=ag d0 oq;have g1:=ag d1 oq;have g2:=ag d2 oq;have g3:=ag d3 oq;have g4:=ag d4 oq;have g5:=ag d5 oq;have g6:=ag d6 oq;have g7:=ag d7 oq;clear a0 a1 a2 a3 a4 a5 d0 d1 d2 d3 d4 d5 d6 d7 oq Se;go_wp2_with fail;refine(Ap YX ET3).mono ?_;rintro r wd⟨rfl,am5⟩;have Bd:=aj Bb am5;clear am5 f0 f1 f2 f3 f4 f5 g0 g1 g2 g3 g4 g5 g6 g7;go_wp2;go_ret;exact⟨rfl,Bd⟩};{
 have hod:(ow==0)=false:=by simp[ho]
 have dF0:(ow != 0)=true:=by simp[ho]
 rw[hod,Kk]at iY;obtain⟨L,eL⟩:=aI (live ss ow);have EL:Hid ((ss.any λs=>s.1==ow)=L):=eL;rw[eL]at iY;have vD:=af iY;clear iY eL;go_wp2_with fail;refine(pX en (aa HR _ hbd).1 hn EL).mono ?_;rintro r w2⟨rfl,aD⟩;have b2:=aj hbd aD;cases L with
 |false=>
  have eF:B=false:=by rw[aa vD];rfl
  subst eF;clear vD;go_wp2;go_ret;exact⟨rfl,b2⟩
 | true=>
  have vD:Hid (B=(iR ss nd.holders&&(iR ss nd.watchers&&fe e g nd.mode nd.holders.length nd.aJ nd.gen))):=aa vD;have HN3:=af (Be.below aD);replace i0:=ag i0 aD;replace i1:=ag i1 aD;replace i2:=ag i2 aD;replace i3:=ag i3 aD;replace i4:=ag i4 aD;replace i5:=ag i5 aD;replace c0:=ag c0 aD;replace c1:=ag c1 aD;replace c2:=ag c2 aD;replace c3:=ag c3 aD;replace c4:=ag c4 aD;replace c5:=ag c5 aD;replace c6:=ag c6 aD;replace c7:=ag c7 aD;clear aD;obtain⟨T1,eT1⟩:=aI (iR ss nd.holders);obtain⟨T2,eT2⟩:=aI (iR ss nd.watchers);obtain⟨T3,eT3⟩:=aI (fe e g nd.mode hh nd.aJ nd.gen);have ET1:=af eT1;have ET2:=af eT2;have ET3:=af eT3;have Se:Hid (B=(T1&&(T2&&T3))):=by show _=_;rw[aa vD,eT1,eT2,aa UK,eT3]
  clear eT1 eT2 eT3 vD;go_wp2_with fail;refine(qH en UK (aa HR _ b2).1 HN3.r4 hn YX ET1).mono ?_;rintro r wa⟨rfl,ve⟩;have Ba:=aj b2 ve;have HNa:=af (HN3.below ve);cases T1 with
  |false=>
   have eF:B=false:=by rw[aa Se];rfl
   subst eF;clear Se;go_wp2;go_ret;exact⟨rfl,Ba⟩
  | true=>
   have a0:=ag i0 ve;have a1:=ag i1 ve;have a2:=ag i2 ve;have a3:=ag i3 ve;have a4:=ag i4 ve;have a5:=ag i5 ve;have d0:=ag c0 ve;have d1:=ag c1 ve;have d2:=ag c2 ve;have d3:=ag c3 ve;have d4:=ag c4 ve;have d5:=ag c5 ve;have d6:=ag c6 ve;have d7:=ag c7 ve;clear i0 i1 i2 i3 i4 i5 c0 c1 c2 c3 c4 c5 c6 c7 ve;go_wp2_with fail;refine(qH en Ye (aa HR _ Ba).1 HNa.r7 hn YQ ET2).mono ?_;rintro r wb⟨rfl,oq⟩;have Bb:=aj Ba oq;cases T2 with
   |false=>
    have eF:B=false:=by rw[aa Se];rfl
    subst eF;clear Se;go_wp2;go_ret;exact⟨rfl,Bb⟩
   |true=>
    have eT:B=T3:=by rw[aa Se];rfl
    subst eT;have f0:=ag a0 oq;have f1:=ag a1 oq;have f2:=ag a2 oq;have f3:=ag a3 oq;have f4:=ag a4 oq;have f5:=ag a5 oq;have g0:=ag d0 oq;have g1:=ag d1 oq;have g2:=ag d2 oq;have g3:=ag d3 oq;have g4:=ag d4 oq;have g5:=ag d5 oq;have g6:=ag d6 oq;have g7:=ag d7 oq;clear a0 a1 a2 a3 a4 a5 d0 d1 d2 d3 d4 d5 d6 d7 oq Se;go_wp2_with fail;refine(Ap YX ET3).mono ?_;rintro r wd⟨rfl,am5⟩;have Bd:=aj Bb am5;clear am5 f0 f1 f2 f3 f4 f5 g0 g1 g2 g3 g4 g5 g6 g7;go_wp2;go_ret;exact⟨rfl,Bd⟩}
def mY(e g x t:Int)(ss:List aP)(ns:List aC):Bool:=
 decide (e<=4611686018427387904/\g<=4611686018427387904/\x<=4611686018427387904/\0<=t/\t<=1000000/\ss.length<=50/\ns.length<=200)&&((List.range ss.length).all (mB x ss)&&(List.range ns.length).all (lI e g ss ns))
theorem Zz{p q:OA}{c n d m:Nat}(en:Hid (ss.length=n))(em:Hid (ns.length=m)){w:World}(h:yL w (.S p n c) ss)(hN:oU w (.S q m d) ns)(hn:Mg n)(hm:Mg m)(mj:Hid (∀s∈ss,s.2.2.length<=0/\∀e∈s.2.2,aN e.2/\e.2.length<=1048576))(gq:Hid (∀nd∈ns,aN nd.path/\nd.path.length<=1048576/\nd.value.length<=1048576/\nd.holders.length<=1048576/\nd.watchers.length<=1048576))(eB:Hid (mY e g x t ss ns=B)):Calls prog 69 #[ft e g x t (.S p n c) (.S q m d)] w (Rb (.bool B) w):=by
 have HR:=af λ(w':World)(hb:Bw w w')=>ah (h.below hb) (hN.below hb);have b1:Bw w (w.alloc (.cells #[.U e,.U g,.U x,.I t,.S p n c,.S q m d] 35)):=au.alloc ao _;have hB:B=(decide (e<=4611686018427387904/\g<=4611686018427387904/\x<=4611686018427387904/\0<=t/\t<=1000000/\n<=50/\m<=200)&&((List.range n).all (mB x ss)&&(List.range m).all (lI e g ss ns))):=by rw[<-aa eB,mY,aa en,aa em]
 have HB:=af hB;clear h hN hB eB;by_cases h0:4611686018427387904<e;{
 have eF:B=false:=by rw[aa HB,uM];exact .inl (tX (λhh=>ae))
 subst eF;clear HB
 go_in
 go_wp2;go_ret;exact⟨rfl,b1⟩};{
 have q0:e<=4611686018427387904:=ae;by_cases h1:4611686018427387904<g;{
 have eF:B=false:=by rw[aa HB,uM];exact .inl (tX (λhh=>ae))
 subst eF;clear HB
 go_in
 go_wp2;go_ret;exact⟨rfl,b1⟩};{
 have q1:g<=4611686018427387904:=ae;by_cases h2:4611686018427387904<x;{
 have eF:B=false:=by rw[aa HB,uM];exact .inl (tX (λhh=>ae))
 subst eF;clear HB
 go_in
 go_wp2;go_ret;exact⟨rfl,b1⟩};{
 have q2:x<=4611686018427387904:=ae;by_cases h3:t<0;{
 have eF:B=false:=by rw[aa HB,uM];exact .inl (tX (λhh=>ae))
 subst eF;clear HB
 go_in
 go_wp2;go_ret;exact⟨rfl,b1⟩};{
 have q3:0<=t:=ae;by_cases h4:1000000<t;{
 have eF:B=false:=by rw[aa HB,uM];exact .inl (tX (λhh=>ae))
 subst eF;clear HB
 go_in
 go_wp2;go_ret;exact⟨rfl,b1⟩};{
 have q4:t<=1000000:=ae;by_cases h5:(50:Int)<(n:Int);{
 have eF:B=false:=by rw[aa HB,uM];exact .inl (tX (λhh=>ae))
 subst eF;clear HB
 go_in
 go_wp2;go_ret;exact⟨rfl,b1⟩};{
 have q5:n<=50:=ae;by_cases h6:(200:Int)<(m:Int);{
 have eF:B=false:=by rw[aa HB,uM];exact .inl (tX (λhh=>ae))
 subst eF;clear HB
 go_in
 go_wp2;go_ret;exact⟨rfl,b1⟩};{
 have q6:m<=200:=ae;have Bf:Hid (B=((List.range n).all (mB x ss)&&(List.range m).all (lI e g ss ns))):=by show _=_;rw[aa HB,BN ⟨q0,q1,q2,q3,q4,q5,q6⟩,pM]
 clear HB
 go_in
 go_wp2_with fail;obtain⟨W,hW⟩:=az (w.alloc (.cells #[.U e,.U g,.U x,.I t,.S p n c,.S q m d] 35));have yh:jO W w.heap.size e g x t (.S p n c) (.S q m d):=by rw[hW];simp[jO]
 rw[<-hW]at b1⊢;clear hW;have BW:=af b1;have YF:=af yh;clear b1 yh
 go_loopw[3](λiv wr=>∃k:Nat,k<=n/\iv=.I k/\Hid ((List.range k).all (mB x ss)=true)/\Bw W wr) (λiv _=>n-(intOf iv).toNat)
 exact⟨0,fN _,rfl,bq,cR _ _⟩;{
 obtain⟨k,hk,rfl,iV,aK⟩:=hrel;have BB:=aj BW aK;obtain⟨i0,i1,i2,i3,i4,i5⟩:=YF.below aK;by_cases aT:k<n;{
 have bu:=aS k n;obtain⟨T,eT⟩:=aI (mB x ss k);have ET:=af eT;go_wp2_with fail;refine(D9 en (aa HR _ BB).1 hn aT mj ET).mono ?_;rintro r w2⟨rfl,aD⟩;cases T with
 |false=>
  have eF:B=false:=by rw[aa Bf,gJ aT eT];rfl
  subst eF;have b2:=aj BB aD;go_wp2;go_ret;exact⟨rfl,b2⟩
 |true=>
  have vz:=af (dX iV eT);have b2:=aj aK aD;go_wp2;go_roundw;exact⟨k+1,ae,by go_num,vz,b2⟩;exact bM};{
 have bu:=dm k n;have yx:k=n:=ae;have vD:Hid (B=(List.range m).all (lI e g ss ns)):=by show _=_;rw[aa Bf,show(List.range n).all (mB x ss)=true from yx▸aa iV,pM]
 have HC7:=af (YF.below aK);go_wp2_with fail;obtain⟨Y,eY⟩:=az wr;subst eY;have BY:=af BB
 go_loopw[4](λiv wr=>∃k:Nat,k<=m/\iv=.I k/\Hid ((List.range k).all (lI e g ss ns)=true)/\Bw Y wr) (λiv _=>m-(intOf iv).toNat)
 exact⟨0,fN _,rfl,bq,cR _ _⟩;{
 obtain⟨j,hk,rfl,iV,aK⟩:=hrel;have BB:=aj BY aK;obtain⟨i0,i1,i2,i3,i4,i5⟩:=HC7.below aK;by_cases aT:j<m;{
 have bu:=aS j m;obtain⟨T,eT⟩:=aI (lI e g ss ns j);have ET:=af eT;go_wp2_with fail;refine(My en em (aa HR _ BB).1 (aa HR _ BB).2 hn hm aT gq ET).mono ?_;rintro r w2⟨rfl,aD⟩;cases T with
 |false=>
  have eF:B=false:=aa vD▸gJ aT eT;subst eF;have b2:=aj BB aD;go_wp2;go_ret;exact⟨rfl,b2⟩
 |true=>
  have vz:=af (dX iV eT);have b2:=aj aK aD;go_wp2;go_roundw;exact⟨j+1,ae,by go_num,vz,b2⟩;exact bM};{
 have bu:=dm j m;have ekm:j=m:=ae;have eT:B=true:=by rw[aa vD,<-ekm];exact aa iV
 subst eT;go_wp2;go_ret;exact⟨rfl,BB⟩}}}}}}}}}}}
def JB(x y:Int):Int:=if x<y then -1 else if y<x then 1 else 0
def Kv{w:World}:Calls prog 211 #[.U x] w λe w'=>e=.returned (.bool false)/\w'=w:=by
 go_in
 go_wp2;go_ret;refine⟨?_,rfl⟩;simp
def AF{y:Int}{w:World}:Calls prog 155 #[.U x,.U y] w λe w'=>e=.returned (.I (JB x y))/\w'=w:=by
 obtain⟨C,eC⟩:=aI (JB x y);rw[eC];have EC:=af eC;clear eC
 go_in
 go_wp2_with fail;refine(Kv).mono ?_;rintro e w1⟨rfl,rfl⟩;go_wp2_with fail;refine(Kv).mono ?_;rintro e w2⟨rfl,rfl⟩;by_cases h1:x<y;{
 have e1:C=-1:=by rw[<-aa EC];rw[JB,bN h1]
 subst e1;go_wp2;go_ret;exact⟨rfl,rfl⟩};{
 by_cases h2:y<x;{
 have e1:C=1:=by rw[<-aa EC];rw[JB,bG h1,bN h2]
 subst e1;go_wp2;go_ret;exact⟨rfl,rfl⟩};{
 have e1:C=0:=by rw[<-aa EC];rw[JB,bG h1,bG h2]
 subst e1;go_wp2;go_ret;exact⟨rfl,rfl⟩}}
theorem CJ{w:World}(h:Rd w (.S p l.length c) l):(Extern.Bytes.bytesOf (.S p l.length c)).run prog w=.ok ⟨(Lib.bytesOf l).toArray⟩ w:=by
 cases p with
 |none=>
  have e:=h.sc;subst e;simp only[Extern.Bytes.bytesOf,Qc]
  rfl
 |some a=>
  obtain⟨n1,n2,n3⟩:=h.news;have:=Lib.run_loadBytesX (P:=prog) w l a .empty (λj x hj=>n2 j _ (by rw[nj,hj];rfl));simp only[Extern.Bytes.bytesOf];rw[this]
  congr 1
  apply aN4;simp
def ZO{w:World}{p q:OA}{d:Nat}(h:Rd w (.S p l.length c) l)(k:Rd w (.S q m.length d) m):(Extern.BytealgCompare.compare #[.S p l.length c,.S q m.length d]).run prog w=.ok (.I (Lib.compareBytes (Lib.bytesOf l) (Lib.bytesOf m))) w:=by
 change Sem.run prog (do pure (goInt (Extern.BytealgCompare.cmp (<-Extern.Bytes.bytesOf (.S p l.length c)) (<-Extern.Bytes.bytesOf (.S q m.length d))))) w=_
 simp only[ac8,CJ h,CJ k,Qc,Result.andThen];rw[Lib.cmp_eq]
 rfl
def ar7(l m:LI):Int:=Lib.compareBytes (Lib.bytesOf l) (Lib.bytesOf m)
theorem Rr:∀(a b:List UInt8),(0<=Lib.compareBytes a b)=(Op.bytesLess b a=true\/b=a)
 |[],[]=>by simp[Lib.compareBytes]
 |[],_::_=>by simp[Lib.compareBytes,Op.bytesLess]
 |_::_,[]=>by simp[Lib.compareBytes,Op.bytesLess]
 |x::a,y::b=>by
  have ih:=Rr a b;rw[Lib.compareBytes,Op.bytesLess];by_cases h1:x<y;{
 have h2:¬y<x:=λh=>af2 _ (UInt8.lt_trans h1 h);have h3:¬y=x:=λh=>by subst h;exact af2 _ h1
 simp[h1,h2,h3]};{by_cases h2:y<x;{simp[h1,h2]};{have h3:y=x:=UInt8.le_antisymm (af1.1 h1) (af1.1 h2);subst h3;simp only[h1,Ag,ih];simp}}
def aJ4(l m:LI):decide (0<=ar7 l m)=leB m l:=by
 rw[leB,fI,fI,GF,pL,ar7,Rr];simp only[Kj,Mo];exact Iff.rfl
def Ns{p q:OA}{c d n k:Nat}(el:Hid (l.length=n))(em:Hid (m.length=k)){w:World}(h1:Rd w (.S p n c) l)(h2:Rd w (.S q k d) m):Calls prog 159 #[.S p n c,.S q k d] w λe w'=>e=.returned (.I (ar7 l m))/\w'=w:=by
 have e1:=aa el;have e2:=aa em;subst e1 e2
 go_in
 go_wp2;rw[run_callFunc_extern func215 bg bg bg (e:=Extern.BytealgCompare.compare) bg,ZO h1 h2];simp only[Result.andThen];rw[Oper.upon_value];go_wp2;go_ret;exact⟨rfl,rfl⟩
def uC{P:Program}{w:World}{ops:Array Oper}{o:Oper}{a:Act}{K:Act->World->Prop}{Q:Exit->Act->World->Prop}{E:Prop}{R:Ending->World->Prop}(mW:o.guard=none){f:FuncId}{x0 x1 x2:Operand}{WW:Array TypeId}(ho:o.op=.call {callee:=.value x0,args:=#[x1,x2],argTypes:=WW}){v1 v2:Value}(h0:a.eval x0=.func (.func f) #[] #[])(h1:a.eval x1=v1)(h2:a.eval x2=v2)(yK:∀vs,(callFunc f vs).run P w=.ok (.enter f vs) w)(hc:Calls P f #[v1,v2] w R)(hR:∀e w',R e w'->∃v,e=.returned v/\K (a.put o.dst v) w'):if Region.wanted o (yielded ops a.tmps)=true then Oper.wp P o a w K Q else E:=by
 have hw:Region.wanted o (yielded ops a.tmps)=true:=by simp[Region.wanted,mW]
 rw[bN hw];have dN:(execOp a.eval o).run P w=.ok (.enter f #[v1,v2]) w:=by subst h1 h2;unfold execOp;simp[ho,resolve,invoke,yK,h0,Deferred.ofValue,ac8,Qc,Result.andThen]
 show o.upon P a K Q _;rw[dN,Qd];refine hc.mono ?_;intro e w' h;obtain⟨v,rfl,hk⟩:=hR e w' h;exact hk
def kq(n:Nat)(lt:Nat->Nat->Bool):Bool:=(List.range n).all λi=>i==0||lt (i-1) i
def U9{f:Nat->Bool}{k n:Nat}(h:(List.range k).all f=true)(hn:n<=k):(List.range n).all f=true:=by
 rw[jy]at h⊢;exactλi hi=>h i (Cd.2 (gQ (Cd.1 hi) hn))
def aJ5{i1 d1 i2 d2:Int}{q1 q2:Value}{w:World}:Calls prog 154 #[.agg #[.U i1,.I d1,q1],.agg #[.U i2,.I d2,q2]] w (Rb (.I (JB i1 i2)) w):=by
 go_in
 go_wp2_with fail;refine(AF).mono ?_;rintro e w1⟨rfl,rfl⟩;go_wp2;go_ret;exact⟨rfl,(au.alloc ao _).alloc ai _⟩
def aJ6{p1 p2:OA}{c1 c2 n1 n2:Nat}{l1 l2:LI}(e1:Hid (l1.length=n1))(e2:Hid (l2.length=n2)){V1 V2 H1 H2 U1 U2:Value}{o1 o2 m1 m2 x1 x2 g1 g2:Int}{w:World}(h1:Rd w (.S p1 n1 c1) l1)(h2:Rd w (.S p2 n2 c2) l2):Calls prog 158 #[ndV (.S p1 n1 c1) V1 o1 m1 H1 x1 g1 U1,ndV (.S p2 n2 c2) V2 o2 m2 H2 x2 g2 U2] w (Rb (.I (ar7 l1 l2)) w):=by
 have HR:=af λ(w':World)(hb:Bw w w')=>ah (h1.below hb) (h2.below hb)
 go_in
 go_wp2_with fail;have b1:Bw w ((w.alloc (.cells #[.S p1 n1 c1,V1,.U o1,.I m1,H1,.U x1,.U g1,U1] 119)).alloc (.cells #[.S p2 n2 c2,V2,.U o2,.I m2,H2,.U x2,.U g2,U2] 119)):=(au.alloc ao _).alloc ai _;refine(Ns e1 e2 (aa HR _ b1).1 (aa HR _ b1).2).mono ?_;rintro e w1⟨rfl,rfl⟩;go_wp2;go_ret;exact⟨rfl,b1⟩
theorem RG{c n:Nat}(en:Hid (l.length=n)){w:World}(h:rD w (.S p n c) l)(hn:Mg n)(eB:Hid (kq n (λi j=>decide (l.getD i 0<l.getD j 0))=B)):Calls prog 214 #[.S p n c,.func (.func 155) #[] #[]] w (Rb (.bool B) w):=by
 have HR:=af λ(w':World)(hb:Bw w w')=>h.below hb;have yK:∀(vs:Array Value)(w:World),(callFunc 155 vs).run prog w=.ok (.enter 155 vs) w:=λvs w=>bg;have HCF:=af yK
 go_in
 go_wp2_with fail
 go_loopw[5](λiv wr=>∃k:Nat,1<=k/\(k<=n\/k=1)/\iv=.I k/\Hid ((List.range k).all (λi=>i==0||(λi j=>decide (l.getD i 0<l.getD j 0)) (i-1) i)=true)/\Bw w wr) (λiv _=>n-(intOf iv).toNat)
 exact⟨1,iP _,.inr rfl,rfl,bq,cR _ _⟩;{
 obtain⟨k,la,hkn,rfl,iV,aK⟩:=hrel;by_cases aT:k<n;{
 have bu:=aS k n;have fh:k<l.length:=aa en▸aT;obtain⟨j,ej⟩:∃j:Nat,(k:Int)-1=(j:Int):=⟨k-1,ae⟩;have Yd:k-1=j:=ae;have Ck:j<l.length:=ae;have hjm:=aS j n;have hj0:=dA 0 j;have wj:=fk j;obtain⟨b,o,rfl,cW⟩:∃b o,p=some (Ad b o)/\∀i,i<n->wr.cell? (Ad b (o+i))=some (.U (l.getD i 0)):=by obtain⟨p',c',ev,hd⟩:=aa HR _ aK;obtain⟨rfl,-,-⟩:=js ev;rcases hd with h0|⟨b,o,h1,h2⟩;{rw[h0]at fh;simp at fh};{exact⟨b,o,h1,λi hi=>h2 i (aa en▸hi)⟩}
 have Dx:=cW k aT;have hcz:=cW j ae;obtain⟨y,ey⟩:=aI (l.getD k 0);obtain⟨z,ez⟩:=aI (l.getD j 0);rw[ey]at Dx;rw[ez]at hcz;have K0:=af (ah hcz Dx);obtain⟨C,eC⟩:=aI (JB z y);have fT:((k==0)||(λi j=>decide (l.getD i 0<l.getD j 0)) (k-1) k)=!decide (0<=C):=by rw[show(k==0)=false by simp;omega,Kk,Yd];show decide (l.getD j 0<l.getD k 0)=_;rw[ey,ez,<-eC,JB];by_cases h1:z<y;{simp[h1]};{by_cases h2:y<z;{simp[h1,h2]};{simp[h1,h2]}}
 have hF:decide (0<=C)=true->B=false:=λh=>by rw[<-aa eB,kq];exact gJ aT (by rw[fT,h];rfl)
 have hT:decide (0<=C)=false->Hid ((List.range (k+1)).all (λi=>i==0||(λi j=>decide (l.getD i 0<l.getD j 0)) (i-1) i)=true):=λh=>dX (aa iV) (by rw[fT,h];rfl);have EC:=af eC;obtain⟨D,eD⟩:∃D,decide (0<=C)=D:=⟨_,rfl⟩;have HF:=af (λh:D=true=>hF (eD.trans h));have HT:=af (λh:D=false=>hT (eD.trans h));go_wp2_with fail
 go_cut[23](λrv wc=>rv=.bool D/\Bw w wc)
 case first=>(
 refine dC (λw'=>w'.cell? (Ad b (o+j))=some (.U z)/\w'.cell? (Ad b (o+k))=some (.U y)) (by exact K0) λhS=>?_;refine nK 0 1 2 3 4 5 6 7 hS ?_;refine kG 8 9 hS ?_;refine ry [10] ?_;refine cn (λKK hK=>?_) ?_;{refine uC aH aH aH aH aH (λ_=>aa HCF _ _) (AF) ?_;rintro r w2⟨rfl,rfl⟩;refine⟨_,rfl,?_⟩;have bR:Bw wr wr.drew:=au.drew;rw[aa EC];refine gr hK hS λhS=>?_;refine tn 11 hS ?_;refine dw ?_;go_wp2_with fail;go_meet;exact⟨rfl,aj aK bR⟩};exact eG)
 obtain⟨rfl,DA⟩:=hcut;cases D with
 |true=>
  have eF:=aa HF rfl;subst eF;go_wp2;go_ret;exact⟨rfl,DA⟩
 |false=>
  have vz:=aa HT rfl;go_wp2;go_roundw;exact⟨k+1,ae,.inl ae,by go_num,vz,DA⟩;exact bM};{
 have bu:=dm k n;have eT:B=true:=by rw[<-aa eB,kq];exact U9 iV ae
 subst eT;go_wp2;go_ret;exact⟨rfl,aK⟩}}
theorem as7{c n:Nat}{l:List aP}(en:Hid (l.length=n)){w:World}(h:yL w (.S p n c) l)(hn:Mg n)(eB:Hid (kq n (λi j=>decide ((l.getD i (0,0,[])).1<(l.getD j (0,0,[])).1))=B)):Calls prog 153 #[.S p n c,.func (.func 154) #[] #[]] w (Rb (.bool B) w):=by
 have HR:=af λ(w':World)(hb:Bw w w')=>h.below hb;have yK:∀(vs:Array Value)(w:World),(callFunc 154 vs).run prog w=.ok (.enter 154 vs) w:=λvs w=>bg;have HCF:=af yK
 go_in
 go_wp2_with fail
 go_loopw[5](λiv wr=>∃k:Nat,1<=k/\(k<=n\/k=1)/\iv=.I k/\Hid ((List.range k).all (λi=>i==0||(λi j=>decide ((l.getD i (0,0,[])).1<(l.getD j (0,0,[])).1)) (i-1) i)=true)/\Bw w wr) (λiv _=>n-(intOf iv).toNat)
 exact⟨1,iP _,.inr rfl,rfl,bq,cR _ _⟩;{
 obtain⟨k,la,hkn,rfl,iV,aK⟩:=hrel;by_cases aT:k<n;{
 have bu:=aS k n;have fh:k<l.length:=aa en▸aT;obtain⟨j,ej⟩:∃j:Nat,(k:Int)-1=(j:Int):=⟨k-1,ae⟩;have Yd:k-1=j:=ae;have Ck:j<l.length:=ae;have hjm:=aS j n;have hj0:=dA 0 j;have wj:=fk j;obtain⟨⟨y,yd,yq⟩,hy⟩:=mR fh;obtain⟨⟨z,zd,zq⟩,hz⟩:=mR Ck;obtain⟨b,o,rfl,⟨y1,y2,yu,y3,-⟩,z1,z2,zu,z3,-⟩:∃b o,p=some (Ad b o)/\(wr.cell? (Ad b (o+k*3))=some (.U y)/\wr.cell? (Ad b (o+k*3+1))=some (.I yd)/\∃u,wr.cell? (Ad b (o+k*3+2))=some u/\Oo wr u yq)/\(wr.cell? (Ad b (o+j*3))=some (.U z)/\wr.cell? (Ad b (o+j*3+1))=some (.I zd)/\∃u,wr.cell? (Ad b (o+j*3+2))=some u/\Oo wr u zq):=by obtain⟨p',c',ev,hd⟩:=aa HR _ aK;obtain⟨rfl,-,-⟩:=js ev;rcases hd with h0|⟨b,o,h1,h2⟩;{rw[h0]at fh;simp at fh};{exact⟨b,o,h1,h2 k _ hy,h2 j _ hz⟩}
 have ey:(l.getD k (0,0,[])).1=y:=by rw[gK,hy];rfl
 have ez:(l.getD j (0,0,[])).1=z:=by rw[gK,hz];rfl
 have K0:=af (ah z1 (ah z2 (ah z3 (ah y1 (ah y2 y3)))));obtain⟨C,eC⟩:=aI (JB z y);have fT:((k==0)||(λi j=>decide ((l.getD i (0,0,[])).1<(l.getD j (0,0,[])).1)) (k-1) k)=!decide (0<=C):=by rw[show(k==0)=false by simp;omega,Kk,Yd];show decide ((l.getD j (0,0,[])).1<(l.getD k (0,0,[])).1)=_;rw[ey,ez,<-eC,JB];by_cases h1:z<y;{simp[h1]};{by_cases h2:y<z;{simp[h1,h2]};{simp[h1,h2]}}
 have hF:decide (0<=C)=true->B=false:=λh=>by rw[<-aa eB,kq];exact gJ aT (by rw[fT,h];rfl)
 have hT:decide (0<=C)=false->Hid ((List.range (k+1)).all (λi=>i==0||(λi j=>decide ((l.getD i (0,0,[])).1<(l.getD j (0,0,[])).1)) (i-1) i)=true):=λh=>dX (aa iV) (by rw[fT,h];rfl);have EC:=af eC;obtain⟨D,eD⟩:∃D,decide (0<=C)=D:=⟨_,rfl⟩;have HF:=af (λh:D=true=>hF (eD.trans h));have HT:=af (λh:D=false=>hT (eD.trans h));go_wp2_with fail
 go_cut[23](λrv wc=>rv=.bool D/\Bw w wc)
 case first=>(
 refine dC (λw'=>w'.cell? (Ad b (o+j*3))=some (.U z)/\w'.cell? (Ad b (o+j*3+1))=some (.I zd)/\w'.cell? (Ad b (o+j*3+2))=some zu/\w'.cell? (Ad b (o+k*3))=some (.U y)/\w'.cell? (Ad b (o+k*3+1))=some (.I yd)/\w'.cell? (Ad b (o+k*3+2))=some yu) (by exact K0) λhS=>?_;refine nK 0 1 2 3 4 5 6 7 hS ?_;refine kG 8 9 hS ?_;refine ry [10] ?_;refine cn (λKK hK=>?_) ?_;{refine uC aH aH aH aH aH (λ_=>aa HCF _ _) (aJ5) ?_;rintro r w2⟨rfl,aD⟩;refine⟨_,rfl,?_⟩;have bR:Bw wr w2:=aj (cR wr.heap.size wr).drew aD;rw[aa EC];refine gr hK (by obtain⟨k1,k2,k3,k4,k5,k6⟩:=aa K0;exact⟨ag k1 bR,ag k2 bR,ag k3 bR,ag k4 bR,ag k5 bR,ag k6 bR⟩) λhS=>?_;refine tn 11 hS ?_;refine dw ?_;go_wp2_with fail;go_meet;exact⟨rfl,aj aK bR⟩};exact eG)
 obtain⟨rfl,DA⟩:=hcut;cases D with
 |true=>
  have eF:=aa HF rfl;subst eF;go_wp2;go_ret;exact⟨rfl,DA⟩
 |false=>
  have vz:=aa HT rfl;go_wp2;go_roundw;exact⟨k+1,ae,.inl ae,by go_num,vz,DA⟩;exact bM};{
 have bu:=dm k n;have eT:B=true:=by rw[<-aa eB,kq];exact U9 iV ae
 subst eT;go_wp2;go_ret;exact⟨rfl,aK⟩}}
theorem as8{c n:Nat}{l:List aC}(en:Hid (l.length=n)){w:World}(h:oU w (.S p n c) l)(hn:Mg n)(eB:Hid (kq n (λi j=>!leB (l.getD j gu).path (l.getD i gu).path)=B)):Calls prog 157 #[.S p n c,.func (.func 158) #[] #[]] w (Rb (.bool B) w):=by
 have HR:=af λ(w':World)(hb:Bw w w')=>h.below hb;have yK:∀(vs:Array Value)(w:World),(callFunc 158 vs).run prog w=.ok (.enter 158 vs) w:=λvs w=>bg;have HCF:=af yK
 go_in
 go_wp2_with fail
 go_loopw[5](λiv wr=>∃k:Nat,1<=k/\(k<=n\/k=1)/\iv=.I k/\Hid ((List.range k).all (λi=>i==0||(λi j=>!leB (l.getD j gu).path (l.getD i gu).path) (i-1) i)=true)/\Bw w wr) (λiv _=>n-(intOf iv).toNat)
 exact⟨1,iP _,.inr rfl,rfl,bq,cR _ _⟩;{
 obtain⟨k,la,hkn,rfl,iV,aK⟩:=hrel;by_cases aT:k<n;{
 have bu:=aS k n;have fh:k<l.length:=aa en▸aT;obtain⟨j,ej⟩:∃j:Nat,(k:Int)-1=(j:Int):=⟨k-1,ae⟩;have Yd:k-1=j:=ae;have Ck:j<l.length:=ae;have hjm:=aS j n;have hj0:=dA 0 j;have wj:=fk j;obtain⟨yn',hy⟩:=mR fh;obtain⟨zn',hz⟩:=mR Ck;obtain⟨b,o,rfl,hA⟩:=(aa HR _ aK).at ae;obtain⟨yP,yV,yH,yU,ny⟩:=hA k _ hy;obtain⟨zP,zV,zH,zU,nz⟩:=hA j _ hz;have ey:(l.getD k gu).path=yn'.path:=by rw[gK,hy];rfl
 have ez:(l.getD j gu).path=zn'.path:=by rw[gK,hz];rfl
 obtain⟨yp,yc,yn,rfl,eyn⟩:=ny.r0.iK;obtain⟨zp,zc,zn,rfl,ezn⟩:=nz.r0.iK;have RY:=af ny.r0;have RZ:=af nz.r0;obtain⟨y0,y1,y2,y3,y4,y5,y6,y7,-,-,-,-,-⟩:=ny;obtain⟨z0,z1,z2,z3,z4,z5,z6,z7,-,-,-,-,-⟩:=nz;obtain⟨yo,ym,ye,yg,e1,e2,e3,e4⟩:∃a b c d,yn'.owner=a/\yn'.mode=b/\yn'.aJ=c/\yn'.gen=d:=⟨_,_,_,_,rfl,rfl,rfl,rfl⟩;obtain⟨zo,zm,ze,zg,f1,f2,f3,f4⟩:∃a b c d,zn'.owner=a/\zn'.mode=b/\zn'.aJ=c/\zn'.gen=d:=⟨_,_,_,_,rfl,rfl,rfl,rfl⟩;rw[e1]at y2;rw[e2]at y3;rw[e3]at y5;rw[e4]at y6;rw[f1]at z2;rw[f2]at z3;rw[f3]at z5;rw[f4]at z6;have K0:=af (ah z0 (ah z1 (ah z2 (ah z3 (ah z4 (ah z5 (ah z6 (ah z7 (ah y0 (ah y1 (ah y2 (ah y3 (ah y4 (ah y5 (ah y6 y7)))))))))))))));obtain⟨C,eC⟩:=aI (ar7 zn'.path yn'.path);have fT:((k==0)||(λi j=>!leB (l.getD j gu).path (l.getD i gu).path) (k-1) k)=!decide (0<=C):=by rw[show(k==0)=false by simp;omega,Kk,Yd];show(!leB (l.getD k gu).path (l.getD j gu).path)=_;rw[ey,ez,<-eC,aJ4]
 have hF:decide (0<=C)=true->B=false:=λh=>by rw[<-aa eB,kq];exact gJ aT (by rw[fT,h];rfl)
 have hT:decide (0<=C)=false->Hid ((List.range (k+1)).all (λi=>i==0||(λi j=>!leB (l.getD j gu).path (l.getD i gu).path) (i-1) i)=true):=λh=>dX (aa iV) (by rw[fT,h];rfl);have EC:=af eC;obtain⟨D,eD⟩:∃D,decide (0<=C)=D:=⟨_,rfl⟩;have HF:=af (λh:D=true=>hF (eD.trans h));have HT:=af (λh:D=false=>hT (eD.trans h));go_wp2_with fail
 go_cut[23](λrv wc=>rv=.bool D/\Bw w wc)
 case first=>(
 refine dC (λw'=>w'.cell? (Ad b (o+j*8))=some (.S zp zn zc)/\w'.cell? (Ad b (o+j*8+1))=some zV/\w'.cell? (Ad b (o+j*8+2))=some (.U zo)/\w'.cell? (Ad b (o+j*8+3))=some (.I zm)/\w'.cell? (Ad b (o+j*8+4))=some zH/\w'.cell? (Ad b (o+j*8+5))=some (.U ze)/\w'.cell? (Ad b (o+j*8+6))=some (.U zg)/\w'.cell? (Ad b (o+j*8+7))=some zU/\w'.cell? (Ad b (o+k*8))=some (.S yp yn yc)/\w'.cell? (Ad b (o+k*8+1))=some yV/\w'.cell? (Ad b (o+k*8+2))=some (.U yo)/\w'.cell? (Ad b (o+k*8+3))=some (.I ym)/\w'.cell? (Ad b (o+k*8+4))=some yH/\w'.cell? (Ad b (o+k*8+5))=some (.U ye)/\w'.cell? (Ad b (o+k*8+6))=some (.U yg)/\w'.cell? (Ad b (o+k*8+7))=some yU) (by exact K0) λhS=>?_;refine nK 0 1 2 3 4 5 6 7 hS ?_;refine kG 8 9 hS ?_;refine ry [10] ?_;refine cn (λKK hK=>?_) ?_;{refine uC aH aH aH aH aH (λ_=>aa HCF _ _) (aJ6 ezn eyn (RZ.below au.drew) (RY.below au.drew)) ?_;rintro r w2⟨rfl,aD⟩;refine⟨_,rfl,?_⟩;have bR:Bw wr w2:=aj (cR wr.heap.size wr).drew aD;rw[aa EC];refine gr hK (by obtain⟨k0,k1,k2,k3,k4,k5,k6,k7,k8,k9,k10,k11,k12,k13,k14,k15⟩:=aa K0;exact⟨ag k0 bR,ag k1 bR,ag k2 bR,ag k3 bR,ag k4 bR,ag k5 bR,ag k6 bR,ag k7 bR,ag k8 bR,ag k9 bR,ag k10 bR,ag k11 bR,ag k12 bR,ag k13 bR,ag k14 bR,ag k15 bR⟩) λhS=>?_;refine tn 11 hS ?_;refine dw ?_;go_wp2_with fail;go_meet;exact⟨rfl,aj aK bR⟩};exact eG)
 obtain⟨rfl,DA⟩:=hcut;cases D with
 |true=>
  have eF:=aa HF rfl;subst eF;go_wp2;go_ret;exact⟨rfl,DA⟩
 |false=>
  have vz:=aa HT rfl;go_wp2;go_roundw;exact⟨k+1,ae,.inl ae,by go_num,vz,DA⟩;exact bM};{
 have bu:=dm k n;have eT:B=true:=by rw[<-aa eB,kq];exact U9 iV ae
 subst eT;go_wp2;go_ret;exact⟨rfl,aK⟩}}
def rE(w:World)(v:Value)(es:List Ev):Prop:=
 ∃(p:OA)(c:Nat),v=.S p es.length c/\(es=[]\/∃b o,p=some (Ad b o)/\∀i e,es[i]?=some e->w.cell? (Ad b (o+i*2))=some (.I e.1)/\∃u,w.cell? (Ad b (o+i*2+1))=some u/\Rd w u e.2/\tQ u)
def rE.rd{w:World}(h:rE w v es):Oo w v es:=by
 obtain⟨p,c,rfl,h⟩:=h;refine⟨p,c,rfl,?_⟩;rcases h with h|⟨b,o,rfl,h⟩;{exact .inl h};{refine .inr ⟨b,o,rfl,λi e he=>?_⟩;obtain⟨h1,u,h2,h3,_⟩:=h i e he;exact⟨h1,u,h2,h3⟩}
def rE.below{w w':World}(h:rE w v es)(hb:Bw w w'):rE w' v es:=by
 obtain⟨p,c,rfl,h⟩:=h;refine⟨p,c,rfl,?_⟩;rcases h with h|⟨b,o,rfl,h⟩;{exact .inl h};{refine .inr ⟨b,o,rfl,λi e he=>?_⟩;obtain⟨h1,u,h2,h3,h4⟩:=h i e he;exact⟨ag h1 hb,u,ag h2 hb,h3.below hb,h4⟩}
def mg(w:World)(v:Value)(ss:List aP):Prop:=
 ∃(p:OA)(c:Nat),v=.S p ss.length c/\(ss=[]\/∃b o,p=some (Ad b o)/\∀i s,ss[i]?=some s->w.cell? (Ad b (o+i*3))=some (.U s.1)/\w.cell? (Ad b (o+i*3+1))=some (.I s.2.1)/\∃u,w.cell? (Ad b (o+i*3+2))=some u/\rE w u s.2.2)
def mg.rd{w:World}(h:mg w v ss):yL w v ss:=by
 obtain⟨p,c,rfl,h⟩:=h;refine⟨p,c,rfl,?_⟩;rcases h with h|⟨b,o,rfl,h⟩;{exact .inl h};{refine .inr ⟨b,o,rfl,λi e he=>?_⟩;obtain⟨h1,h2,u,h3,h4⟩:=h i e he;exact⟨h1,h2,u,h3,h4.rd⟩}
def mg.below{w w':World}(h:mg w v ss)(hb:Bw w w'):mg w' v ss:=by
 obtain⟨p,c,rfl,h⟩:=h;refine⟨p,c,rfl,?_⟩;rcases h with h|⟨b,o,rfl,h⟩;{exact .inl h};{refine .inr ⟨b,o,rfl,λi e he=>?_⟩;obtain⟨h1,h2,u,h3,h4⟩:=h i e he;exact⟨ag h1 hb,ag h2 hb,u,ag h3 hb,h4.below hb⟩}
def ML(w:World):Prop:=∃m,w.cell? (Ad 1 0)=some (.I m)
def ML.below{w w':World}(h:ML w)(hb:Bw w w'):ML w':=by
 obtain⟨m,h⟩:=h;exact⟨m,ag h hb⟩
def tQ.of{n c:Nat}(h:tQ (.S p n c)):n<=c/\c<=maxLen:=by
 obtain⟨p',n',c',e,h1,h2⟩:=h;obtain⟨rfl,rfl,rfl⟩:=js e;exact⟨h1,h2⟩
def FL(nx:Int)(s:aP):Bool:=decide (1<=s.1)&&(decide (s.1<=nx)&&(decide (0<=s.2.1)&&(decide (s.2.1<=1000015)&&nR s.2.2)))
def LD{I D x:Int}{c n:Nat}{Q:List Ev}(en:Hid (Q.length=n)){w:World}(h:rE w (.S p n c) Q)(hn:n<=0)(gq:Hid (∀e∈Q,aN e.2/\e.2.length<=1048576))(Ek:ML w)(eB:Hid (FL x (I,D,Q)=B)):Calls prog 152 #[.agg #[.U I,.I D,.S p n c],.U x] w (Rb (.bool B) w):=by
 have HR:=af λ(w':World)(hb:Bw w w')=>ah (h.below hb) (Ek.below hb);have b1:Bw w (w.alloc (.cells #[.U I,.I D,.S p n c] 84)):=au.alloc ao _;have hB:B=(decide (1<=I)&&(decide (I<=x)&&(decide (0<=D)&&(decide (D<=1000015)&&(decide (n<=8)&&(List.range n).all λi=>ap2 i (Q.getD i (0,[]))))))):=by rw[<-aa eB,FL,nR,aa en]
 have HB:=af hB;clear h Ek hB eB;by_cases h1:I<1;{
 have eF:B=false:=by rw[aa HB];simp;omega
 subst eF;clear HB
 go_in
 go_wp2;go_ret;exact⟨rfl,b1⟩};{
 by_cases h2:x<I;{
 have eF:B=false:=by rw[aa HB];simp;omega
 subst eF;clear HB
 go_in
 go_wp2;go_ret;exact⟨rfl,b1⟩};{
 by_cases h3:D<0;{
 have eF:B=false:=by rw[aa HB];simp;omega
 subst eF;clear HB
 go_in
 go_wp2;go_ret;exact⟨rfl,b1⟩};{
 by_cases h4:1000015<D;{
 have eF:B=false:=by rw[aa HB];simp;omega
 subst eF;clear HB
 go_in
 go_wp2;go_ret;exact⟨rfl,b1⟩};{
 by_cases h8:(8:Int)<(n:Int);{exact absurd h8 ae};{
 have Bf:Hid (B=(List.range n).all λi=>ap2 i (Q.getD i (0,[]))):=by show _=_;rw[aa HB];simp only[show decide (1<=I)=true by(rw[pL];omega),show decide (I<=x)=true by(rw[pL];omega),show decide (0<=D)=true by(rw[pL];omega),show decide (D<=1000015)=true by(rw[pL];omega),show decide (n<=8)=true by(rw[pL];omega),pM]
 clear HB
 go_in
 go_wp2_with fail;clear h1 h2 h3 h4 h8;obtain⟨W,hW⟩:=az (w.alloc (.cells #[.U I,.I D,.S p n c] 84));rw[<-hW]at b1⊢;clear hW
 go_loopw[35](λiv wr=>∃k:Nat,k<=n/\iv=.I k/\Hid ((List.range k).all (λi=>ap2 i (Q.getD i (0,[])))=true)/\Bw w wr) (λiv _=>n-(intOf iv).toNat)
 exact⟨0,fN _,rfl,bq,b1⟩;{
 obtain⟨k,hk,rfl,iV,aK⟩:=hrel;by_cases aT:k<n;{exact absurd aT ae};{
 have bu:=dm k n;have eT:B=true:=by
  rw[aa Bf];have:k=n:=by omega
  rw[<-this];exact iV
 subst eT;go_wp2;go_ret;exact⟨rfl,aK⟩}}}}}}}
structure Lf where
 b:Nat
 o:Nat
 k:IntKind
def db(w:World)(A:List Lf):Prop:=∀a∈A,(∃n,w.cell? (Ad a.b a.o)=some (.int a.k n))/\w.frozen? (Ad a.b a.o)=false
def mkV(kd:IntKind)(k:Int):Int:=match kd with| .u8=>k % 256|_=>k
structure Mk(w w':World)(A:List Lf)(k:Int):Prop where
 os:w'.os=w.os
 tape:w'.tape=w.tape
 output:w'.output=w.output
 size:w.heap.size<=w'.heap.size
 blk:∀b,b<w.heap.size->(∀a∈A,a.b≠b)->w'.heap[b]?=w.heap[b]?
 keep:∀b o,b<w.heap.size->(∀a∈A,¬(a.b=b/\a.o=o))->w'.cell? (Ad b o)=w.cell? (Ad b o)
 fz:∀b o,b<w.heap.size->w'.frozen? (Ad b o)=w.frozen? (Ad b o)
 int:∀a∈A,∃n,w'.cell? (Ad a.b a.o)=some (.int a.k n)
 val:(A.map λa=>(a.b,a.o)).Nodup->∀(i:Nat)(a:Lf),A[i]?=some a->w'.cell? (Ad a.b a.o)=some (.int a.k (mkV a.k (k+i)))
def db.lt{w:World}{A:List Lf}(h:db w A){a:Lf}(ha:a∈A):a.b<w.heap.size:=by
 obtain⟨⟨n,hn⟩,_⟩:=h a ha;exact nY w _ hn
def db.nil(w:World):db w []:=λa ha=>by simp at ha
def db.app{w:World}{A A':List Lf}:db w (A++A')↔db w A/\db w A':=by
 constructor;{intro h;exact⟨λa ha=>h a (De _ ha),λa ha=>h a (Gr _ ha)⟩};{rintro⟨h,k⟩a ha;rcases gM.1 ha with ha|ha;{exact h a ha};{exact k a ha}}
def db.sub{w:World}{A A':List Lf}(h:db w A)(hs:∀a∈A',a∈A):db w A':=λa ha=>h a (hs a ha)
def db.below{w w':World}{A:List Lf}(h:db w A)(hb:Bw w w'):db w' A:=λa ha=>by
 obtain⟨⟨n,hn⟩,hf⟩:=h a ha;exact⟨⟨n,ag hn hb⟩,(hb.frozen (p:=(Ad a.b a.o)) (h.lt ha)).trans hf⟩
def Mk.dY{w w':World}(h:Bw w w')(k:Int):Mk w w' [] k:=
 ⟨h.os,h.tape,h.output,h.size,λb hb _=>h.block b hb,λb o hb _=>h.cell (p:=(Ad b o)) hb,λb o hb=>h.frozen (p:=(Ad b o)) hb,λa ha=>by simp at ha,λ_ i a ha=>by simp at ha⟩
def Mk.refl(w:World)(k:Int):Mk w w [] k:=Mk.dY au k
theorem Mk.one{w:World}{k n:Int}(hc:w.cell? (Ad b o)=some (.int kd n)):Mk w (w.setCell (Ad b o) (.int kd (mkV kd k))) [⟨b,o,kd⟩] k:=by
 have hs:(w.setCell (Ad b o) (.int kd (mkV kd k))).cell? (Ad b o)=some (.int kd (mkV kd k)):=PX w _ _ (by rw[hc];rfl);refine⟨rfl,rfl,rfl,ai,λb' hb cg=>fW _ _ _ _ (λe=>cg ⟨b,o,kd⟩ ai e.symm),λb' o' hb cg=>?_,λb' o' hb=>?_,λa ha=>?_,λ_ i a ha=>?_⟩;{have h1:=cg ⟨b,o,kd⟩ ai;simp only at h1;exact CQ _ _ _ _ (λe=>h1 (by simpa using e))};{simp};{simp at ha;subst ha;exact⟨_,hs⟩};{
 cases i with
 |zero=>simp at ha;subst ha;simpa using hs
 |succ i=>simp at ha}
def Mk.trans{w w1 w2:World}{A A2:List Lf}(h:Mk w w1 A k)(h2:Mk w1 w2 A2 (k+A.length))(hA:db w A)(Uz:db w A2):Mk w w2 (A++A2) k:=by
 refine⟨h2.os.trans h.os,h2.tape.trans h.tape,h2.output.trans h.output,dQ h.size h2.size,λb hb cg=>?_,λb o hb cg=>?_,λb o hb=>?_,λa ha=>?_,λbj i a ha=>?_⟩;{exact(h2.blk b (gQ hb h.size) (λa ha=>cg a (Gr _ ha))).trans (h.blk b hb (λa ha=>cg a (De _ ha)))};{exact(h2.keep b o (gQ hb h.size) (λa ha=>cg a (Gr _ ha))).trans (h.keep b o hb (λa ha=>cg a (De _ ha)))};{exact(h2.fz b o (gQ hb h.size)).trans (h.fz b o hb)};{by_cases h3:∃a2∈A2,a2.b=a.b/\a2.o=a.o;{obtain⟨a2,m2,e1,e2⟩:=h3;obtain⟨n,hn⟩:=h2.int a2 m2;obtain⟨⟨n1,um⟩,_⟩:=Uz a2 m2;obtain⟨⟨n2,Jq⟩,_⟩:=db.app.2 ⟨hA,Uz⟩ a ha;rw[e1,e2]at hn um;rw[um]at Jq;simp only[kU,af0]at Jq;exact⟨n,by rw[hn,Jq.1]⟩};{rcases gM.1 ha with ha|ha;{obtain⟨n,hn⟩:=h.int a ha;refine⟨n,(h2.keep a.b a.o (gQ (hA.lt ha) h.size) (λa2 m2 e=>h3 ⟨a2,m2,e⟩)).trans hn⟩};{exact absurd ⟨a,ha,rfl,rfl⟩ h3}}};{
 rw[kT,BS]at bj;obtain⟨n1,n2,n3⟩:=bj;by_cases hi:i<A.length;{rw[lE hi]at ha;have hm:=aY ha;refine(h2.keep a.b a.o (gQ (hA.lt hm) h.size) (λa2 m2 e=>?_)).trans (h.val n1 i a ha);exact n3 (a.b,a.o) (Qn hm) (a2.b,a2.o) (Qn m2) (by rw[e.1,e.2])};{
 rw[nZ ae]at ha;have:=h2.val n2 (i-A.length) a ha;rw[this]
 congr 3
 omega}}
def db.mk{w w':World}{A A':List Lf}(h:db w A')(hm:Mk w w' A k)(hA:db w A):db w' A':=λa ha=>by
 obtain⟨⟨n,hn⟩,hf⟩:=h a ha;refine⟨?_,(hm.fz _ _ (h.lt ha)).trans hf⟩;by_cases h3:∃a2∈A,a2.b=a.b/\a2.o=a.o;{obtain⟨a2,m2,e1,e2⟩:=h3;obtain⟨n',hn'⟩:=hm.int a2 m2;obtain⟨⟨n1,um⟩,_⟩:=hA a2 m2;rw[e1,e2]at hn' um;rw[hn]at um;simp only[kU,af0]at um;exact⟨n',by rw[hn',um.1]⟩};{exact⟨n,(hm.keep _ _ (h.lt ha) (λa2 m2 e=>h3 ⟨a2,m2,e⟩)).trans hn⟩}
def Mk.head{w w':World}{A:List Lf}(hm:Mk w w' A k)(hA:db w A){n c:Nat}(h:w.cell? (Ad b o)=some (.S p n c)):w'.cell? (Ad b o)=some (.S p n c):=by
 refine(hm.keep b o (nY w _ h) (λa ha e=>?_)).trans h;obtain⟨⟨n',hn⟩,_⟩:=hA a ha;rw[e.1,e.2,h]at hn;simp at hn
def Mk.below{w w':World}{A:List Lf}{B:Nat}(hm:Mk w w' A k)(hB:∀a∈A,B<=a.b)(hz:B<=w.heap.size):Below B w w':=
 ⟨hm.os,hm.tape,hm.output,hm.size,λb hb=>hm.blk b ae (λa ha e=>aG (hB a ha))⟩
def JE{α:Type}(P:α->Nat->Nat->List Lf->Prop)(sz:Nat)(v:Value)(xs:List α)(A:List Lf):Prop:=
 ∃(p:OA)(c:Nat)(Ls:List (List Lf)),v=.S p xs.length c/\Ls.length=xs.length/\A=Ls.flatten/\(xs=[]\/∃b o,p=some (Ad b o)/\∀i x l,xs[i]?=some x->Ls[i]?=some l->P x b (o+i*sz) l)
def JE.imp{α:Type}{P P':α->Nat->Nat->List Lf->Prop}{sz:Nat}{xs:List α}{A:List Lf}(h:JE P sz v xs A)(hi:∀x b a l,x∈xs->(∀y∈l,y∈A)->P x b a l->P' x b a l):JE P' sz v xs A:=by
 obtain⟨p,c,Ls,h1,h2,h3,h4⟩:=h;refine⟨p,c,Ls,h1,h2,h3,?_⟩;rcases h4 with h4|⟨b,o,h5,h6⟩;{exact .inl h4};{refine .inr ⟨b,o,h5,λi x l hx hl=>hi _ _ _ _ (aY hx) (λy hy=>?_) (h6 i x l hx hl)⟩;rw[h3];exact Jc.2 ⟨l,aY hl,hy⟩}
def LvI(kd:IntKind)(x:Int)(b a:Nat)(l:List Lf):Prop:=l=[⟨b,a,kd⟩]
abbrev SK(v:Value)(xs:LI)(A:List Lf):Prop:=JE (LvI .u8) 1 v xs A
abbrev YC(v:Value)(xs:LI)(A:List Lf):Prop:=JE (LvI .u64) 1 v xs A
def Vf(w:World)(x:Ev)(b a:Nat)(l:List Lf):Prop:=
 ∃p c lb,l=⟨b,a,.i64⟩::lb/\w.cell? (Ad b (a+1))=some (.S p x.2.length c)/\SK (.S p x.2.length c) x.2 lb
abbrev Ep(w:World)(v:Value)(xs:List Ev)(A:List Lf):Prop:=JE (Vf w) 2 v xs A
def Iw(w:World)(x:aP)(b a:Nat)(l:List Lf):Prop:=
 ∃p c lq,l=⟨b,a,.u64⟩::⟨b,a+1,.i64⟩::lq/\w.cell? (Ad b (a+2))=some (.S p x.2.2.length c)/\Ep w (.S p x.2.2.length c) x.2.2 lq
abbrev wS(w:World)(v:Value)(xs:List aP)(A:List Lf):Prop:=JE (Iw w) 3 v xs A
def JD(w:World)(x:aC)(b a:Nat)(l:List Lf):Prop:=
 ∃p0 c0 p1 c1 p4 c4 p7 c7 l0 l1 l4 l7,l=l0++(l1++(⟨b,a+2,.u64⟩::⟨b,a+3,.i64⟩::(l4++(⟨b,a+5,.u64⟩::⟨b,a+6,.u64⟩::l7))))∧
  (w.cell? (Ad b a)=some (.S p0 x.path.length c0)/\SK (.S p0 x.path.length c0) x.path l0)∧
  (w.cell? (Ad b (a+1))=some (.S p1 x.value.length c1)/\SK (.S p1 x.value.length c1) x.value l1)∧
  (w.cell? (Ad b (a+4))=some (.S p4 x.holders.length c4)/\YC (.S p4 x.holders.length c4) x.holders l4)∧
  (w.cell? (Ad b (a+7))=some (.S p7 x.watchers.length c7)/\YC (.S p7 x.watchers.length c7) x.watchers l7)
abbrev xy(w:World)(v:Value)(xs:List aC)(A:List Lf):Prop:=JE (JD w) 8 v xs A
def Vf.mk{w w':World}{x:Ev}{l:List Lf}{A:List Lf}(h:Vf w x b a l)(hm:Mk w w' A k)(hA:db w A):Vf w' x b a l:=by
 obtain⟨p,c,lb,h1,h2,h3⟩:=h;exact⟨p,c,lb,h1,hm.head hA h2,h3⟩
def Ep.mk{w w':World}{l:List Lf}{A:List Lf}(h:Ep w v xs l)(hm:Mk w w' A k)(hA:db w A):Ep w' v xs l:=h.imp λ_ _ _ _ _ _ h=>h.mk hm hA
def Iw.mk{w w':World}{x:aP}{l:List Lf}{A:List Lf}(h:Iw w x b a l)(hm:Mk w w' A k)(hA:db w A):Iw w' x b a l:=by
 obtain⟨p,c,lb,h1,h2,h3⟩:=h;exact⟨p,c,lb,h1,hm.head hA h2,Ep.mk h3 hm hA⟩
def wS.mk{w w':World}{xs:List aP}{l:List Lf}{A:List Lf}(h:wS w v xs l)(hm:Mk w w' A k)(hA:db w A):wS w' v xs l:=h.imp λ_ _ _ _ _ _ h=>h.mk hm hA
def JD.mk{w w':World}{x:aC}{l:List Lf}{A:List Lf}(h:JD w x b a l)(hm:Mk w w' A k)(hA:db w A):JD w' x b a l:=by
 obtain⟨p0,c0,p1,c1,p4,c4,p7,c7,l0,l1,l4,l7,h1,⟨h2,h3⟩,⟨h4,h5⟩,⟨h6,h7⟩,⟨h8,h9⟩⟩:=h;exact⟨p0,c0,p1,c1,p4,c4,p7,c7,l0,l1,l4,l7,h1,⟨hm.head hA h2,h3⟩,⟨hm.head hA h4,h5⟩,⟨hm.head hA h6,h7⟩,⟨hm.head hA h8,h9⟩⟩
def xy.mk{w w':World}{xs:List aC}{l:List Lf}{A:List Lf}(h:xy w v xs l)(hm:Mk w w' A k)(hA:db w A):xy w' v xs l:=h.imp λ_ _ _ _ _ _ h=>h.mk hm hA
def JE.at{α:Type}{P:α->Nat->Nat->List Lf->Prop}{sz:Nat}{n c:Nat}{xs:List α}{A:List Lf}(h:JE P sz (.S p n c) xs A):∃Ls:List (List Lf),n=xs.length/\Ls.length=n/\A=Ls.flatten/\∀k,k<n->∃b o x l,p=some (Ad b o)/\xs[k]?=some x/\Ls[k]?=some l/\P x b (o+k*sz) l/\(Ls.take (k+1)).flatten=(Ls.take k).flatten++l/\∀y∈l,y∈A:=by
 obtain⟨p',c',Ls,h1,h2,h3,h4⟩:=h;obtain⟨rfl,rfl,rfl⟩:=js h1;refine⟨Ls,rfl,h2,h3,λk hk=>?_⟩;obtain⟨x,hx⟩:=mR hk;obtain⟨l,hl⟩:∃l,Ls[k]?=some l:=⟨_,bD ae⟩;rcases h4 with h4|⟨b,o,h5,h6⟩;{rw[h4]at hk;simp at hk};{refine⟨b,o,x,l,h5,hx,hl,h6 k x l hx hl,?_,λy hy=>?_⟩;{rw[ni,hl];simp};{rw[h3];exact Jc.2 ⟨l,aY hl,hy⟩}}
def br(Ls:List (List Lf))(k:Nat):(Ls.take k).flatten.length<=Ls.flatten.length:=by
 have h:Ls.flatten=(Ls.take k).flatten++(Ls.drop k).flatten:=by rw[<-Ko,Dg]
 rw[h,ir];omega
def gj{Ls:List (List Lf)}{k:Nat}{y:Lf}(h:y∈(Ls.take k).flatten):y∈Ls.flatten:=by
 obtain⟨l,hl,hy⟩:=Jc.1 h;exact Jc.2 ⟨l,GI hl,hy⟩
theorem JE.len{α:Type}{P:α->Nat->Nat->List Lf->Prop}{sz:Nat}{n c:Nat}{xs:List α}{A:List Lf}(h:JE P sz (.S p n c) xs A)(cg:∀x b a l,P x b a l->1<=l.length):n<=A.length:=by
 obtain⟨Ls,en,lL,eA,fT⟩:=h.at;have key:∀k,k<=n->k<=(Ls.take k).flatten.length:=by
  intro k
  induction k with
  |zero=>intro _;exact fN _
  |succ k ih=>
   intro hk;obtain⟨b,o,x,l,-,-,-,hP,sA,-⟩:=fT k ae;rw[sA,ir];have:=ih ae;have:=cg _ _ _ _ hP;omega
 have:=key n ao;rw[<-lL,ng,lL]at this;rw[eA];exact this
def Vf.pos{w:World}{x:Ev}{l:List Lf}(h:Vf w x b a l):1<=l.length:=by
 obtain⟨p,c,lb,rfl,-⟩:=h;simp
def Iw.pos{w:World}{x:aP}{l:List Lf}(h:Iw w x b a l):1<=l.length:=by
 obtain⟨p,c,lb,rfl,-⟩:=h;simp
def JD.pos{w:World}{x:aC}{l:List Lf}(h:JD w x b a l):1<=l.length:=by
 obtain⟨p0,c0,p1,c1,p4,c4,p7,c7,l0,l1,l4,l7,rfl,-⟩:=h;simp;omega
def zQ{c n:Nat}{xs:LI}{A:List Lf}{w:World}(h:SK (.S p n c) xs A)(hA:db w A)(k0:0<=k)(k1:k+A.length<=100000000):Calls prog 58 #[.S p n c,.I k] w λe w'=>e=.returned (.I (k+A.length))/\Mk w w' A k:=by
 have QU:=h.len (λx b a l hl=>by rw[show l=_ from hl];simp);obtain⟨Ls,en,lL,eA,fT⟩:=h.at;have yN:=af fT;have HA:=af hA;have EA:=af eA;have K1:k+(Ls.flatten.length:Int)<=100000000:=eA▸k1;have hn:n<=100000000:=ae;have LL:=af lL;clear h fT hA eA en lL QU
 go_in
 go_wp2
 go_loopw[1,5](λkk i wr=>∃j:Nat,j<=n/\i=.I j/\kk=.I (k+(((Ls.take j).flatten.length:Nat):Int))/\Hid (Mk w wr (Ls.take j).flatten k)) (λ_ i _=>n-(intOf i).toNat)
 exact⟨0,fN _,rfl,ai,Mk.refl _ _⟩;{
 obtain⟨j,hj,rfl,rfl,hM⟩:=hrel;have hle:=br Ls j;by_cases aT:j<n;{
 have bu:=aS j n;obtain⟨b,o,x,l,rfl,hx,hl,hP,sA,iE⟩:=aa yN j aT;obtain rfl:l=[⟨b,o+j,.u8⟩]:=by rw[show l=_ from hP,Dc]
 have qy:db w (Ls.take j).flatten:=HA.sub (λa ha=>by rw[aa EA];exact gj ha);obtain⟨⟨n0,wF⟩,hf0⟩:=HA.mk (aa hM) qy _ (iE ⟨b,o+j,.u8⟩ ai);dsimp only at wF hf0;have HT:Hid ((Ls.take (j+1)).flatten.length=(Ls.take j).flatten.length+1):=by show _=_;rw[sA];simp
 have uY:((Ls.take j).flatten.length:Int)+1<=100000000:=by have:=br Ls (j+1);have:=aa HT;omega
 have M1:Hid (Mk w (wr.setCell (Ad b (o+j)) (.int .u8 (mkV .u8 (k+((Ls.take j).flatten.length:Int))))) (Ls.take (j+1)).flatten k):=by show Mk _ _ _ _;rw[sA];exact hM.trans (Mk.one wF) qy (by intro a ha;exact HA a (iE a ha))
 generalize hT:(Ls.take j).flatten.length=T at*;clear hT hx hl hP sA iE qy hM;have hT0:0<=k+(T:Int):=ae;have hT1:k+(T:Int)<=100000000:=ae;go_wp2;go_roundw;exact⟨j+1,ae,by go_num,by rw[aa HT];go_num,M1⟩;exact bM};{
 have e:j=n:=ae;subst e;have e2:(Ls.take j).flatten=A:=by rw[<-aa LL,ng];exact EA.symm
 rw[e2]at hM⊢;clear hle yN HA;go_wp2;go_ret;exact⟨rfl,hM⟩}}
def uL(p:OA)(c n:Nat)(xs:LI)(A:List Lf)(k:Int)(w:World)(h:YC (.S p n c) xs A)(hA:db w A)(k0:0<=k)(k1:k+A.length<=100000000):Calls prog 115 #[.S p n c,.I k] w λe w'=>e=.returned (.I (k+A.length))/\Mk w w' A k:=by
 have QU:=h.len (λx b a l hl=>by rw[show l=_ from hl];simp);obtain⟨Ls,en,lL,eA,fT⟩:=h.at;have yN:=af fT;have HA:=af hA;have EA:=af eA;have K1:k+(Ls.flatten.length:Int)<=100000000:=eA▸k1;have hn:n<=100000000:=ae;have LL:=af lL;clear h fT hA eA en lL QU
 go_in
 go_wp2
 go_loopw[1,5](λkk i wr=>∃j:Nat,j<=n/\i=.I j/\kk=.I (k+(((Ls.take j).flatten.length:Nat):Int))/\Hid (Mk w wr (Ls.take j).flatten k)) (λ_ i _=>n-(intOf i).toNat)
 exact⟨0,fN _,rfl,ai,Mk.refl _ _⟩;{
 obtain⟨j,hj,rfl,rfl,hM⟩:=hrel;have hle:=br Ls j;by_cases aT:j<n;{
 have bu:=aS j n;obtain⟨b,o,x,l,rfl,hx,hl,hP,sA,iE⟩:=aa yN j aT;obtain rfl:l=[⟨b,o+j,.u64⟩]:=by rw[show l=_ from hP,Dc]
 have qy:db w (Ls.take j).flatten:=HA.sub (λa ha=>by rw[aa EA];exact gj ha);obtain⟨⟨n0,wF⟩,hf0⟩:=HA.mk (aa hM) qy _ (iE ⟨b,o+j,.u64⟩ ai);dsimp only at wF hf0;have HT:Hid ((Ls.take (j+1)).flatten.length=(Ls.take j).flatten.length+1):=by show _=_;rw[sA];simp
 have uY:((Ls.take j).flatten.length:Int)+1<=100000000:=by have:=br Ls (j+1);have:=aa HT;omega
 have M1:Hid (Mk w (wr.setCell (Ad b (o+j)) (.U (mkV .u64 (k+((Ls.take j).flatten.length:Int))))) (Ls.take (j+1)).flatten k):=by show Mk _ _ _ _;rw[sA];exact hM.trans (Mk.one wF) qy (by intro a ha;exact HA a (iE a ha))
 generalize hT:(Ls.take j).flatten.length=T at*;clear hT hx hl hP sA iE qy hM;have hT0:0<=k+(T:Int):=ae;have hT1:k+(T:Int)<=100000000:=ae;go_wp2;go_roundw;exact⟨j+1,ae,by go_num,by rw[aa HT];go_num,M1⟩;exact bM};{
 have e:j=n:=ae;subst e;have e2:(Ls.take j).flatten=A:=by rw[<-aa LL,ng];exact EA.symm
 rw[e2]at hM⊢;clear hle yN HA;go_wp2;go_ret;exact⟨rfl,hM⟩}}
def Mk.trans'{w w1 w2:World}{A A2:List Lf}(h:Mk w w1 A k)(h2:Mk w1 w2 A2 K)(e:K=k+A.length)(hA:db w A)(Uz:db w A2):Mk w w2 (A++A2) k:=by
 subst e;exact h.trans h2 hA Uz
def Mk.set{acc l:List Lf}(h:Mk wr V acc k0)(ka:db wr l)(aG5:∀a∈acc,a∈l)(hm:Lf.mk b o kd∈l)(e:K=k0+acc.length):Mk wr (V.setCell (Ad b o) (.int kd (mkV kd K))) (acc++[⟨b,o,kd⟩]) k0:=by
 obtain⟨⟨n,hn⟩,hf⟩:=ka.mk h (ka.sub aG5) _ hm;exact h.trans' (Mk.one hn) e (ka.sub aG5) (λa ha=>ka a (by simp at ha;rw[ha];exact hm))
def Mk.call{V':World}{acc lf l:List Lf}(h:Mk wr V acc k0)(h2:Mk V V' lf K)(ka:db wr l)(aG5:∀a∈acc,a∈l)(hlf:∀a∈lf,a∈l)(e:K=k0+acc.length):Mk wr V' (acc++lf) k0:=
 h.trans' h2 e (ka.sub aG5) (ka.sub hlf)
def I5{c n:Nat}{A:List Lf}{w:World}(h:Ep w (.S p n c) xs A)(hA:db w A)(hn:n<=0)(k0:0<=k)(k1:k+A.length<=100000000):Calls prog 114 #[.S p n c,.I k] w λe w'=>e=.returned (.I (k+A.length))/\Mk w w' A k:=by
 have QU:=h.len (λx b a l hl=>hl.pos);obtain⟨Ls,en,lL,eA,fT⟩:=h.at;have yN:=af fT;have HA:=af hA;have EA:=af eA;have K1:k+(Ls.flatten.length:Int)<=100000000:=eA▸k1;have hn:n<=100000000:=ae;have LL:=af lL;clear h fT hA eA en lL QU
 go_in
 go_wp2
 go_loopw[1,5](λkk i wr=>∃j:Nat,j<=n/\i=.I j/\kk=.I (k+(((Ls.take j).flatten.length:Nat):Int))/\Hid (Mk w wr (Ls.take j).flatten k)) (λ_ i _=>n-(intOf i).toNat)
 exact⟨0,fN _,rfl,ai,Mk.refl _ _⟩;{
 obtain⟨j,hj,rfl,rfl,hM⟩:=hrel;have hle:=br Ls j;by_cases aT:j<n;{exact absurd aT ae};{
 have e:j=n:=ae;subst e;have e2:(Ls.take j).flatten=A:=by rw[<-aa LL,ng];exact EA.symm
 rw[e2]at hM⊢;clear hle yN HA;go_wp2;go_ret;exact⟨rfl,hM⟩}}
def DW(p:OA)(c n:Nat)(xs:List aP)(A:List Lf)(k:Int)(w:World)(h:wS w (.S p n c) xs A)(hA:db w A)(hq:Hid (∀s∈xs,s.2.2.length<=0))(k0:0<=k)(k1:k+A.length<=100000000):Calls prog 59 #[.S p n c,.I k] w λe w'=>e=.returned (.I (k+A.length))/\Mk w w' A k:=by
 have QU:=h.len (λx b a l hl=>hl.pos);obtain⟨Ls,en,lL,eA,fT⟩:=h.at;have yN:=af fT;have HA:=af hA;have EA:=af eA;have K1:k+(Ls.flatten.length:Int)<=100000000:=eA▸k1;have hn:n<=100000000:=ae;have LL:=af lL;clear h fT hA eA en lL QU
 go_in
 go_wp2
 go_loopw[1,5](λkk i wr=>∃j:Nat,j<=n/\i=.I j/\kk=.I (k+(((Ls.take j).flatten.length:Nat):Int))/\Hid (Mk w wr (Ls.take j).flatten k)) (λ_ i _=>n-(intOf i).toNat)
 exact⟨0,fN _,rfl,ai,Mk.refl _ _⟩;{
 obtain⟨j,hj,rfl,rfl,hM⟩:=hrel;have hle:=br Ls j;by_cases aT:j<n;{
 have bu:=aS j n;obtain⟨b,o,x,l,rfl,hx,hl,hP,sA,iE⟩:=aa yN j aT;have HQ:=af (aa hq x (aY hx));have qy:db w (Ls.take j).flatten:=HA.sub (λa ha=>by rw[aa EA];exact gj ha);have XI:db w l:=HA.sub iE;have ka:db wr l:=XI.mk hM qy;have hP':=hP.mk hM qy;have Ux:(Ls.take (j+1)).flatten.length=(Ls.take j).flatten.length+l.length:=by rw[sA,ir]
 have uY:k+((Ls.take j).flatten.length:Int)+(l.length:Int)<=100000000:=by have:=br Ls (j+1);omega
 have HT:=af Ux;have HPW:Hid (∀w',Mk wr w' l (k+((Ls.take j).flatten.length:Int))->Mk w w' (Ls.take (j+1)).flatten k):=by intro w' hw';rw[sA];exact hM.trans hw' qy XI
 generalize hT:(Ls.take j).flatten.length=T at*;clear hT hx hl hP sA iE qy hM Ux XI;have hT0:0<=k+(T:Int):=ae;obtain⟨q,d,lb,rfl,hd,hlv⟩:=hP';have HD:=af hd;have NQ:=af hlv;clear hd hlv;have hlen:k+(T:Int)+(2+(lb.length:Int))<=100000000:=by simp only[ir,iT]at uY;omega
 clear uY;have rH:=af ka;have AC0:Hid (Mk wr wr [] (k+(T:Int))):=Mk.refl _ _;clear ka;have IN0:db wr (⟨b,o+j*3,.u64⟩::⟨b,o+j*3+1,.i64⟩::lb):=rH.mk (aa AC0) (rH.sub me);obtain⟨⟨m0,wF⟩,hf0⟩:=IN0 ⟨b,o+j*3,.u64⟩ ai;obtain⟨⟨m1,iW⟩,Of⟩:=IN0 ⟨b,o+j*3+1,.i64⟩ ai;dsimp only at wF hf0 iW Of;have hh2:wr.cell? (Ad b (o+j*3+2))=some (.S q x.2.2.length d):=AC0.head (rH.sub me) (aa HD);have AX0:Hid (Mk wr ((wr.setCell (Ad b (o+j*3)) (.U (k+(T:Int)))).setCell (Ad b (o+j*3+1)) (.I (k+(T:Int)+1))) (([]++[⟨b,o+j*3,.u64⟩])++[⟨b,o+j*3+1,.i64⟩]) (k+(T:Int))):=(Mk.set (Mk.set (aa AC0) (aa rH) me (b:=b) (o:=o+j*3) (kd:=.u64) ai (K:=k+(T:Int)) ai) (aa rH) me (b:=b) (o:=o+j*3+1) (kd:=.i64) ai (K:=k+(T:Int)+1) (by simp;try omega));have HV0:Hid (db ((wr.setCell (Ad b (o+j*3)) (.U (k+(T:Int)))).setCell (Ad b (o+j*3+1)) (.I (k+(T:Int)+1))) lb):=(rH.sub (by intro a ha;simp[ha])).mk (aa AX0) (rH.sub me);clear IN0;go_wp2_with fail;clear wF hf0 iW Of hh2;refine(I5 (NQ.mk (aa AX0) (rH.sub me)) (aa HV0) (aa HQ) ae ae).mono ?_;rintro e v0⟨rfl,N0⟩;have AC1:Hid (Mk wr v0 ((([]++[⟨b,o+j*3,.u64⟩])++[⟨b,o+j*3+1,.i64⟩])++lb) (k+(T:Int))):=Mk.call (aa AX0) N0 (aa rH) me (by intro a ha;simp[ha]) (by simp;try omega);clear N0 AX0 HV0;have FIN:=af (aa HPW _ (by simpa using aa AC1));go_wp2;go_roundw;exact⟨j+1,ae,by go_num,by rw[aa HT];first|(simp;omega)|(congr 1;simp;omega),FIN⟩;exact bM};{
 have e:j=n:=ae;subst e;have e2:(Ls.take j).flatten=A:=by rw[<-aa LL,ng];exact EA.symm
 rw[e2]at hM⊢;clear hle yN HA;go_wp2;go_ret;exact⟨rfl,hM⟩}}
def Tryz.infoU64:(Tryz.prog.info? 31).map (λi=>(i.zero,i.size,i.bytes))=some (some (.U 0),1,8):=by kernel_rfl
def Tryz.infoEv:(Tryz.prog.info? 190).map (λi=>(i.zero,i.size,i.bytes))=some (some (.agg #[.I 0,.S none 0 0]),2,32):=by kernel_rfl
def Tryz.infoSes:(Tryz.prog.info? 84).map (λi=>(i.zero,i.size,i.bytes))=some (some (.agg #[.U 0,.I 0,.S none 0 0]),3,40):=by kernel_rfl
def Tryz.infoNod:(Tryz.prog.info? 119).map (λi=>(i.zero,i.size,i.bytes))=some (some (.agg #[.S none 0 0,.S none 0 0,.U 0,.I 0,.S none 0 0,.U 0,.U 0,.S none 0 0]),8,128):=by kernel_rfl
def UC{w w':World}(h:Bw w w'):w.grownBy w' none:=⟨h.os,h.tape,h.output,h.size,λi hi _=>h.block i hi⟩
structure nI(B:Nat)(w:World)(A:List Lf):Prop where
 nd:(A.map λa=>(a.b,a.o)).Nodup
 lo:∀a∈A,B<=a.b
 uV:db w A
def nI.nil(B:Nat)(w:World):nI B w []:=⟨by simp,λa ha=>by simp at ha,db.nil w⟩
def nI.mono{B B':Nat}{w:World}{A:List Lf}(h:nI B w A)(hB:B'<=B):nI B' w A:=⟨h.nd,λa ha=>dQ hB (h.lo a ha),h.uV⟩
def nI.app{B M:Nat}{w:World}{A A2:List Lf}(h:nI B w A)(h2:nI M w A2)(hB:B<=M)(hM:∀a∈A,a.b<M):nI B w (A++A2):=by
 refine⟨?_,λa ha=>?_,db.app.2 ⟨h.uV,h2.uV⟩⟩;{rw[kT,BS];refine⟨h.nd,h2.nd,λx hx y hy=>?_⟩;obtain⟨a,ha,rfl⟩:=ji.1 hx;obtain⟨a2,Ax,rfl⟩:=ji.1 hy;intro e;have:=hM a ha;have:=h2.lo a2 Ax;simp only[fQ]at e;omega};{rcases gM.1 ha with ha|ha;{exact h.lo a ha};{exact dQ hB (h2.lo a ha)}}
def db.keep{w w':World}{A:List Lf}(h:db w A)(hk:∀a∈A,w'.heap[a.b]?=w.heap[a.b]?):db w' A:=λa ha=>by
 obtain⟨⟨n,hn⟩,hf⟩:=h a ha;exact⟨⟨n,(tJ (w:=w) (a:=(Ad a.b a.o)) (hk a ha)).trans hn⟩,(sj (w:=w) (a:=(Ad a.b a.o)) (hk a ha)).trans hf⟩
def nI.keep{B:Nat}{w w':World}{A:List Lf}(h:nI B w A)(hk:∀a∈A,w'.heap[a.b]?=w.heap[a.b]?):nI B w' A:=⟨h.nd,h.lo,h.uV.keep hk⟩
def OwnT{α:Type}(el:World->α->List Value->List Lf->Prop)(ty:TypeId)(sz B:Nat)(w:World)(v:Value)(xs:List α)(Ls:List (List Lf)):Prop:=
 ∃cs:List (List Value),cs.length=xs.length/\Ls.length=xs.length/\(∀c∈cs,c.length=sz)/\w.ownsRow B ty sz v xs.length cs.flatten∧
  (∀(i:Nat)(x:α)(c:List Value)(l:List Lf),xs[i]?=some x->cs[i]?=some c->Ls[i]?=some l->el w x c l)/\nI B w Ls.flatten/\∀a∈Ls.flatten,v.ownBlock≠some a.b
def OwnT.nil{α:Type}(el:World->α->List Value->List Lf->Prop)(ty:TypeId)(sz B:Nat)(w:World):OwnT el ty sz B w (.S none 0 0) [] []:=
 ⟨[],rfl,rfl,λc hc=>by simp at hc,by simpa using gC w B ty sz,λi x c l hx=>by simp at hx,by simpa using nI.nil B w,λa ha=>by simp at ha⟩
def OwnT.keep{α:Type}{el:World->α->List Value->List Lf->Prop}{sz B:Nat}{w w':World}{xs:List α}{Ls:List (List Lf)}(h:OwnT el ty sz B w v xs Ls)(cX:∀x c l,el w x c l->(∀a∈l,w'.heap[a.b]?=w.heap[a.b]?)->el w' x c l)(hz:w.heap.size<=w'.heap.size)(hr:∀b,v.ownBlock=some b->w'.heap[b]?=w.heap[b]?)(hl:∀a∈Ls.flatten,w'.heap[a.b]?=w.heap[a.b]?):OwnT el ty sz B w' v xs Ls:=by
 obtain⟨cs,h1,h2,h3,h4,h5,h6,h7⟩:=h;refine⟨cs,h1,h2,h3,?_,λi x c l hx hc EP=>cX _ _ _ (h5 i x c l hx hc EP) (λa ha=>hl a (Jc.2 ⟨l,aY EP,ha⟩)),h6.keep hl,h7⟩;refine⟨h4.1,?_⟩;rcases h4.2 with hn|⟨g,cap,cur,rfl,hb,hg,rest⟩;{exact .inl hn};{exact .inr ⟨g,cap,cur,rfl,hb,(hr g rfl).trans hg,rest⟩}
def OwnT.below{α:Type}{el:World->α->List Value->List Lf->Prop}{sz B:Nat}{w w':World}{xs:List α}{Ls:List (List Lf)}(h:OwnT el ty sz B w v xs Ls)(cX:∀w w' x c l,el w x c l->(∀a∈l,w'.heap[a.b]?=w.heap[a.b]?)->el w' x c l)(hb:Bw w w'):OwnT el ty sz B w' v xs Ls:=by
 have h':=h;obtain⟨cs,h1,h2,h3,h4,h5,h6,h7⟩:=h';exact h.keep (cX w w') hb.size (λb hv=>hb.block b (h4.lt b hv).2) (λa ha=>hb.block _ (h6.uV.lt ha))
def OwnT.snoc{α:Type}{el:World->α->List Value->List Lf->Prop}{sz B M:Nat}{w w':World}{v':Value}{xs:List α}{Ls:List (List Lf)}{x:α}{c:List Value}{l:List Lf} (h1:cs.length=xs.length)(h2:Ls.length=xs.length)(h3:∀c∈cs,c.length=sz)(h5:∀(i:Nat)(x:α)(c:List Value)(l:List Lf),xs[i]?=some x->cs[i]?=some c->Ls[i]?=some l->el w x c l)(h6:nI B w Ls.flatten)(h7:∀a∈Ls.flatten,v.ownBlock≠some a.b)(cX:∀w w' x c l,el w x c l->(∀a∈l,w'.heap[a.b]?=w.heap[a.b]?)->el w' x c l)(hx:el w x c l)(hc:c.length=sz)(hA:nI M w l)(hBM:B<=M)(hM:∀a∈Ls.flatten,a.b<M)(hvM:∀b,v.ownBlock=some b->b<M)(du:w'.ownsRow B ty sz v' (xs.length+1) (cs.flatten++c))(hg:w.grownBy w' v.ownBlock)(mX:∀g,v'.ownBlock=some g->v.ownBlock=some g\/w.heap.size<=g):OwnT el ty sz B w' v' (xs++[x]) (Ls++[l]):=by
 have hk:∀a∈Ls.flatten++l,w'.heap[a.b]?=w.heap[a.b]?:=λa ha=>by rcases gM.1 ha with ha|ha;{exact hg.block _ (h6.uV.lt ha) (λe=>h7 a ha e.symm)};{exact hg.block _ (hA.uV.lt ha) (λe=>by have:=hvM a.b e.symm;have:=hA.lo a ha;omega)}
 refine⟨cs++[c],by simp[h1],by simp[h2],λc' ri=>?_,?_,λi y c' l' hy ri EP=>?_,?_,λa ha=>?_⟩;{rcases gM.1 ri with ri|ri;{exact h3 c' ri};{simp at ri;subst ri;exact hc}};{simpa using du};{
 by_cases hi:i<xs.length;{rw[lE hi]at hy;rw[lE ae]at ri EP;exact cX w w' _ _ _ (h5 i y c' l' hy ri EP) (λa ha=>hk a (De _ (Jc.2 ⟨l',aY EP,ha⟩)))};{
 have ei:i=xs.length:=by have:=(bf.1 hy).1;simp at this;omega
 subst ei;simp at hy;rw[<-h1]at ri;simp at ri;rw[<-h2]at EP;simp at EP;subst hy ri EP;exact cX w w' _ _ _ hx (λa ha=>hk a (Gr _ ha))}};{
 have:(Ls++[l]).flatten=Ls.flatten++l:=by simp
 rw[this];exact(h6.app hA hBM hM).keep hk};{
 have:(Ls++[l]).flatten=Ls.flatten++l:=by simp
 rw[this]at ha;intro e;rcases mX _ e with e1|e1;{rcases gM.1 ha with ha|ha;{exact h7 a ha e1};{have:=hvM a.b e1;have:=hA.lo a ha;omega}};{
 have:a.b<w.heap.size:=by rcases gM.1 ha with ha|ha;{exact h6.uV.lt ha};{exact hA.uV.lt ha}
 omega}}
def OwnT.lt{α:Type}{el:World->α->List Value->List Lf->Prop}{sz B:Nat}{w:World}{xs:List α}{Ls:List (List Lf)}(h:OwnT el ty sz B w v xs Ls):(∀b,v.ownBlock=some b->B<=b/\b<w.heap.size)/\∀a∈Ls.flatten,B<=a.b/\a.b<w.heap.size:=by
 obtain⟨cs,h1,h2,h3,h4,h5,h6,h7⟩:=h;exact⟨λb hb=>h4.lt b hb,λa ha=>⟨h6.lo a ha,h6.uV.lt ha⟩⟩
theorem AD{sz:Nat}(h:∀c∈cs,c.length=sz){i:Nat}{c:List Value}(hc:cs[i]?=some c){j:Nat}(hj:j<sz):cs.flatten[i*sz+j]?=c[j]?:=by
 induction cs generalizing i with
 |nil=>simp at hc
 | cons d cs ih=>
  cases i with
  |zero=>
   simp at hc;subst hc;rw[tY,lE (by rw[h d ai];omega)];simp
  |succ i=>
   rw[tY,nZ (by rw[h d ai,Ml];omega),h d ai];have:=ih (λc hc=>h c (by simp[hc])) (by simpa using hc);rw[<-this]
   congr 1
   rw[Ml];omega
theorem OwnT.lv{α:Type}{el:World->α->List Value->List Lf->Prop}{sz B:Nat}{w:World}{xs:List α}{Ls:List (List Lf)}(h:OwnT el ty sz B w v xs Ls)(P:α->Nat->Nat->List Lf->Prop)(vd:∀x c l b a,el w x c l->(∀j u,c[j]?=some u->w.cell? (Ad b (a+j))=some u)->(∀o,w.frozen? (Ad b o)=false)->(∀y∈l,y.b≠b)->db w l->(l.map λa=>(a.b,a.o)).Nodup→
   ∃L,P x b a L/\(L.map λa=>(a.b,a.o)).Nodup/\db w L/\∀y∈L,y∈l\/y.b=b/\a<=y.o/\y.o<a+sz):∃A,JE P sz v xs A/\nI B w A:=by
 obtain⟨cs,h1,h2,h3,h4,h5,h6,h7⟩:=h;rcases id h4.2 with⟨rfl,h0⟩|⟨g,cap,cur,rfl,hb,hg,-,-,-,-⟩;{have e0:xs=[]:=sV.1 h0;subst e0;exact⟨[],⟨none,0,[],ai,rfl,rfl,.inl rfl⟩,nI.nil _ _⟩};{
 have hfz:∀o,w.frozen? (Ad g o)=false:=λo=>by simp[World.frozen?,hg]
 have key:∀k,k<=xs.length->∃LL:List (List Lf),LL.length=k/\(∀(i:Nat)(x:α)(l:List Lf),i<k->xs[i]?=some x->LL[i]?=some l->P x g (0+i*sz) l)/\(LL.flatten.map λa=>(a.b,a.o)).Nodup/\db w LL.flatten∧
   ∀y∈LL.flatten,y∈(Ls.take k).flatten\/y.b=g/\y.o<k*sz:=by
  intro k
  induction k with
  |zero=>intro _;exact⟨[],rfl,λi x l hi=>ae,ai,db.nil w,λy hy=>by simp at hy⟩
  | succ k ih=>
   intro hk;obtain⟨LL,q1,q2,q3,q4,q5⟩:=ih ae;obtain⟨x,hx⟩:∃x,xs[k]?=some x:=⟨_,bD ae⟩;obtain⟨c,hc⟩:∃x,cs[k]?=some x:=⟨_,bD ae⟩;obtain⟨l,hl⟩:∃x,Ls[k]?=some x:=⟨_,bD ae⟩;have Uk:∀y∈l,y∈Ls.flatten:=λy hy=>Jc.2 ⟨l,aY hl,hy⟩;have hlen:c.length=sz:=h3 c (aY hc);have bj:(Ls.take (k+1)).flatten=(Ls.take k).flatten++l:=by rw[ni,hl];simp
   have qy:(((Ls.take (k+1)).flatten.map λa=>(a.b,a.o))).Nodup:=by
    have:=h6.nd;have e:Ls.flatten=(Ls.take (k+1)).flatten++(Ls.drop (k+1)).flatten:=by rw[<-Ko,Dg]
    rw[e,kT,BS]at this;exact this.1
   rw[bj,kT,BS]at qy;obtain⟨n1,n2,n3⟩:=qy;obtain⟨L,r1,r2,r3,r4⟩:=vd x c l g (0+k*sz) (h5 k x c l hx hc hl) (λj u hu=>by
    have hj:j<sz:=aG (bf.1 hu).1;have hks:k*sz+sz<=xs.length*sz:=by rw[<-Ml];exact Qp _ hk
    rw[kS,h4.cellAt (k*sz+j) ae,AD h3 hc hj];exact hu) hfz (λy hy e=>h7 y (Uk y hy) (by simp[Value.ownBlock,e])) (h6.uV.sub Uk) n2
   refine⟨LL++[L],by simp[q1],λi y m hi hy hm=>?_,?_,?_,λy hy=>?_⟩;{
 by_cases hik:i<k;{rw[lE ae]at hm;exact q2 i y m hik hy hm};{
 have:i=k:=by omega
 subst this;rw[hx]at hy;cases hy;rw[<-q1]at hm;simp at hm;subst hm;exact r1}};{have e:(LL++[L]).flatten=LL.flatten++L:=ai;rw[e,kT,BS];refine⟨q3,r2,λy hy z hz=>?_⟩;obtain⟨a1,m1,rfl⟩:=ji.1 hy;obtain⟨a2,m2,rfl⟩:=ji.1 hz;intro ee;simp only[fQ]at ee;rcases q5 a1 m1 with u1|⟨u1,u2⟩;{rcases r4 a2 m2 with v1|⟨v1,v2,v3⟩;{exact n3 (a1.b,a1.o) (Qn u1) (a2.b,a2.o) (Qn v1) (by rw[ee.1,ee.2])};{exact h7 a1 (gj u1) (by simp[Value.ownBlock,ee.1,v1])}};{rcases r4 a2 m2 with v1|⟨v1,v2,v3⟩;{exact h7 a2 (Uk a2 v1) (by simp[Value.ownBlock,<-ee.1,u1])};{omega}}};{have e:(LL++[L]).flatten=LL.flatten++L:=ai;rw[e];exact db.app.2 ⟨q4,r3⟩};{have e:(LL++[L]).flatten=LL.flatten++L:=ai;rw[e]at hy;rcases gM.1 hy with hy|hy;{rcases q5 y hy with u1|⟨u1,u2⟩;{exact .inl (by rw[bj];exact De _ u1)};{exact .inr ⟨u1,by rw[Ml];omega⟩}};{rcases r4 y hy with v1|⟨v1,v2,v3⟩;{exact .inl (by rw[bj];exact Gr _ v1)};{exact .inr ⟨v1,by rw[Ml];omega⟩}}}
 obtain⟨LL,q1,q2,q3,q4,q5⟩:=key xs.length ao;refine⟨LL.flatten,⟨some (Ad g 0),cap,LL,rfl,q1,rfl,.inr ⟨g,0,rfl,λi x l hx hl=>q2 i x l (bf.1 hx).1 hx hl⟩⟩,q3,λa ha=>?_,q4⟩;rcases q5 a ha with u1|⟨u1,u2⟩;{exact h6.lo a (gj u1)};{rw[u1];exact hb}}
theorem BI{e:TypeId}{B:Nat}{w:World}{n c:Nat}(h:w.ownsRow B e 1 (.S p n c) l.length (l.map (Value.int kd))):∃A,JE (LvI kd) 1 (.S p n c) l A/\nI B w A/\A.length=l.length/\∀a∈A,(Value.slice p n c).ownBlock=some a.b:=by
 rcases id h.2 with⟨ee,h0⟩|⟨g,cap,cur,ee,hb,hg,hr⟩;{obtain⟨rfl,rfl,rfl⟩:=js ee;have e0:=sV.1 h0;subst e0;exact⟨[],⟨none,0,[],rfl,rfl,rfl,.inl rfl⟩,nI.nil _ _,rfl,λa ha=>by simp at ha⟩};{
 obtain⟨rfl,rfl,rfl⟩:=js ee;refine⟨(List.range l.length).map λi=>⟨g,0+i,kd⟩,⟨some (Ad g 0),c,(List.range l.length).map λi=>[⟨g,0+i,kd⟩],rfl,ai,?_,.inr ⟨g,0,rfl,λi x l' hx hl=>?_⟩⟩,⟨?_,λa ha=>?_,λa ha=>?_⟩,ai,λa ha=>?_⟩;{
 induction(List.range l.length)with
 |nil=>rfl
 |cons i r ih=>rw[iM,iM,tY,<-ih];rfl}
 {
 obtain⟨hi,e⟩:=bf.1 hl;simp at e;rw[<-e,Dc,kS]
 rfl}
 {rw[qX,List.Nodup,D7];exact ae8.imp (λ{i j}kr=>by simpa using kr)};{obtain⟨i,hi,rfl⟩:=ji.1 ha;exact hb};{
 obtain⟨i,hi,rfl⟩:=ji.1 ha;have hi':i<l.length:=by simpa using hi
 refine⟨⟨l[i],?_⟩,by simp[World.frozen?,hg]⟩;have:=Gu h i ae;simp only[kS];rw[this];simp[hi']};{
 obtain⟨i,hi,rfl⟩:=ji.1 ha
 rfl}}
def Rd.dR{w w':World}{xs:LI}{A:List Lf}(h:Rd w v xs)(hl:SK v xs A)(hk:∀a∈A,w'.heap[a.b]?=w.heap[a.b]?):Rd w' v xs:=by
 obtain⟨p,c,rfl,hd⟩:=h;refine⟨p,c,rfl,?_⟩;rcases hd with hd|⟨b,o,rfl,hd⟩;{exact .inl hd};{refine .inr ⟨b,o,rfl,λi hi=>?_⟩;obtain⟨Ls,en,lL,eA,fT⟩:=hl.at;obtain⟨b',o',x,l,e1,-,EP,hP,-,iE⟩:=fT i hi;obtain⟨rfl,rfl⟩:=yD e1;have:w'.heap[b]?=w.heap[b]?:=hk ⟨b,o+i*1,.u8⟩ (iE _ (by rw[show l=_ from hP];simp));exact(aF this _).trans (hd i hi)}
def rD.dR{w w':World}{xs:LI}{A:List Lf}(h:rD w v xs)(hl:YC v xs A)(hk:∀a∈A,w'.heap[a.b]?=w.heap[a.b]?):rD w' v xs:=by
 obtain⟨p,c,rfl,hd⟩:=h;refine⟨p,c,rfl,?_⟩;rcases hd with hd|⟨b,o,rfl,hd⟩;{exact .inl hd};{refine .inr ⟨b,o,rfl,λi hi=>?_⟩;obtain⟨Ls,en,lL,eA,fT⟩:=hl.at;obtain⟨b',o',x,l,e1,-,EP,hP,-,iE⟩:=fT i hi;obtain⟨rfl,rfl⟩:=yD e1;have:w'.heap[b]?=w.heap[b]?:=hk ⟨b,o+i*1,.u64⟩ (iE _ (by rw[show l=_ from hP];simp));exact(aF this _).trans (hd i hi)}
def bI9(w:World)(x:Ev)(c:List Value)(l:List Lf):Prop:=
 ∃p cc,c=[.I x.1,.S p x.2.length cc]/\Rd w (.S p x.2.length cc) x.2/\tQ (.S p x.2.length cc)/\SK (.S p x.2.length cc) x.2 l
def Ep.keep{w w':World}{A:List Lf}(h:Ep w v xs A)(hk:∀a∈A,w'.heap[a.b]?=w.heap[a.b]?):Ep w' v xs A:=by
 refine h.imp λx b a l hx iE hP=>?_;obtain⟨p,c,lb,h1,h2,h3⟩:=hP;refine⟨p,c,lb,h1,?_,h3⟩;have:w'.heap[b]?=w.heap[b]?:=hk ⟨b,a,.i64⟩ (iE _ (by rw[h1];simp));exact(aF this _).trans h2
def rE.dR{w w':World}{A:List Lf}(h:rE w v xs)(hl:Ep w v xs A)(hk:∀a∈A,w'.heap[a.b]?=w.heap[a.b]?):rE w' v xs:=by
 obtain⟨p,c,rfl,hd⟩:=h;refine⟨p,c,rfl,?_⟩;rcases hd with hd|⟨b,o,rfl,hd⟩;{exact .inl hd};{
 refine .inr ⟨b,o,rfl,λi e he=>?_⟩;obtain⟨Ls,en,lL,eA,fT⟩:=hl.at;obtain⟨b',o',x,l,e1,hx,EP,hP,-,iE⟩:=fT i (bf.1 he).1;obtain⟨rfl,rfl⟩:=yD e1;rw[he]at hx;cases hx;obtain⟨q,cc,lb,e2,h2,h3⟩:=hP;have hb:w'.heap[b]?=w.heap[b]?:=hk ⟨b,o+i*2,.i64⟩ (iE _ (by rw[e2];simp));obtain⟨r1,u,r2,r3,r4⟩:=hd i e he;have:u=.S q e.2.length cc:=by rw[h2]at r2;exact(DZ r2).symm
 subst this;exact⟨(aF hb _).trans r1,_,(aF hb _).trans r2,r3.dR h3 (λa ha=>hk a (iE a (by rw[e2];simp[ha]))),r4⟩}
def lp(w:World)(x:aP)(c:List Value)(l:List Lf):Prop:=
 ∃p cc,c=[.U x.1,.I x.2.1,.S p x.2.2.length cc]/\rE w (.S p x.2.2.length cc) x.2.2/\Ep w (.S p x.2.2.length cc) x.2.2 l
def lp.keep(w w':World)(x:aP)(c:List Value)(l:List Lf)(h:lp w x c l)(hk:∀a∈l,w'.heap[a.b]?=w.heap[a.b]?):lp w' x c l:=by
 obtain⟨p,cc,h1,h2,h3⟩:=h;exact⟨p,cc,h1,h2.dR h3 hk,Ep.keep h3 hk⟩
def jC(w:World)(x:aC)(c:List Value)(l:List Lf):Prop:=
 ∃p0 c0 p1 c1 p4 c4 p7 c7 l0 l1 l4 l7,l=l0++(l1++(l4++l7))/\c=[.S p0 x.path.length c0,.S p1 x.value.length c1,.U x.owner,.I x.mode,.S p4 x.holders.length c4,.U x.aJ,.U x.gen,.S p7 x.watchers.length c7]∧
  (Rd w (.S p0 x.path.length c0) x.path/\tQ (.S p0 x.path.length c0)/\SK (.S p0 x.path.length c0) x.path l0)/\(Rd w (.S p1 x.value.length c1) x.value/\SK (.S p1 x.value.length c1) x.value l1)∧
  (rD w (.S p4 x.holders.length c4) x.holders/\YC (.S p4 x.holders.length c4) x.holders l4)/\(rD w (.S p7 x.watchers.length c7) x.watchers/\YC (.S p7 x.watchers.length c7) x.watchers l7)
def jC.keep(w w':World)(x:aC)(c:List Value)(l:List Lf)(h:jC w x c l)(hk:∀a∈l,w'.heap[a.b]?=w.heap[a.b]?):jC w' x c l:=by
 obtain⟨p0,c0,p1,c1,p4,c4,p7,c7,l0,l1,l4,l7,rfl,h2,⟨h3,h4,h5⟩,⟨h6,h7⟩,⟨h8,h9⟩,⟨h10,h11⟩⟩:=h;exact⟨p0,c0,p1,c1,p4,c4,p7,c7,l0,l1,l4,l7,rfl,h2,⟨h3.dR h5 (λa ha=>hk a (by simp[ha])),h4,h5⟩,⟨h6.dR h7 (λa ha=>hk a (by simp[ha])),h7⟩,⟨h8.dR h9 (λa ha=>hk a (by simp[ha])),h9⟩,⟨h10.dR h11 (λa ha=>hk a (by simp[ha])),h11⟩⟩
structure SD where
 e:Int
 g:Int
 x:Int
 t:Int
 ss:List aP
 ns:List aC
def qT(ids:LI)(id:Int):LI:=ids.filter λx=>!(x==id)
def xA:LI->Int->LI
 |[],id=>[id]
 |x::r,id=>if id<=x then id::qT (x::r) id else x::xA r id
def aa1(q:List Ev)(ev:Ev):List Ev:=if q.length<7 then q++[ev]else if q.length=7 then q++[(4,[])]else q
def KO(ss:List aP)(id:Int)(ev:Ev):List aP:=ss.map λs=>if s.1=id then(s.1,s.2.1,aa1 s.2.2 ev)else s
def uA(ss:List aP)(ids:LI)(ev:Ev):List aP:=ids.foldl (λss id=>KO ss id ev) ss
def dV(D:SD)(k:Nat)(kind:Int):SD:=match D.ns[k]? with
 |none=>D
 |some nd=>{D with ss:=uA D.ss nd.watchers (kind,nd.path),ns:=D.ns.set k {nd with watchers:=[]}}
def Sk(D:SD)(k:Nat):SD:={D with ns:=D.ns.eraseIdx k}
def dO(D:SD)(k:Nat)(id:Int):SD:=match D.ns[k]? with
 |none=>D
 |some nd=>if nd.holders.contains id then(if qT nd.holders id=[]then dV {D with ns:=D.ns.set k {nd with holders:=[],mode:=0,aJ:=0,gen:=0}} k 3 else{D with ns:=D.ns.set k {nd with holders:=qT nd.holders id}})else D
end Go.Proofs.YtkakbcaiplggiaaGreatDoor
