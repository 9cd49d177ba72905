import Derived.Test.YtnhnbpkfpaondaaGreatDoorK2
import Derived.Lib.BytesEntry
import Derived.Laws.Externs
import Derived.Lib.BitFns
import Derived.Lib.Walk
import Derived.Lib.Small
import Derived.Lib.Strings
import Derived.Lib.Slices
import Derived.Laws.Bits64
import Derived.Laws.Bits64b
namespace Go.Proofs.YtnhnbpkfpaondaaGreatDoor
set_option maxHeartbeats 6400000
set_option linter.all false
set_option maxRecDepth 100000
set_option linter.unusedVariables false
open Go.ChangeShapes Go.WideShapes Go.ChangeAt Go.RowKit Go.Proofs.Tryz
def kG(e g x t:Int)(ss:List aQ)(ns:List aD):Bool:=
 decide (e<=2^62/\g<=2^62/\x<=2^62/\0<=t/\t<=1000000/\ss.length<=50/\ns.length<=200)&&((List.range ss.length).all (mF x ss)&&(List.range ns.length).all (lI e g ss ns))
variable {x y k k0 S:Int}{p q pp:OA}{c n m i b sz a M j g N base:Nat}{ss:List aQ}{ns:List aD}{w w' w1 w2 wr V:World}{B:Bool}{l l1 l2 lm l0:LI}{P:Program}{ops:Array Oper}{o:Oper}{K:Act->World->Prop}{E:Prop}{R:Ending->World->Prop}{Lw:Array TypeId}{v1 v2 v v0:Value}{f:Nat->Bool}{es xs:List Ev}{kd k1 k2:IntKind}{ty e:TypeId}{cs:List (List Value)}{vs news:List Value}{d:Array Int}{row:Option Nat}{rest:List Oper}{s:Operand}
theorem Ug{e g t:Int}{d:Nat}(en:Le ss n)(em:Le ns m)(h:vk w (.S p n c) ss)(hN:lM w (.S q m d) ns)(hn:Mg n)(hm:Mg m)(qg:Hid (∀s∈ss,s.2.2.length<=1048576/\∀e∈s.2.2,aN e.2/\e.2.length<=1048576))(gh:Hid (∀nd∈ns,aN nd.path/\nd.path.length<=1048576/\nd.value.length<=1048576/\nd.holders.length<=1048576/\nd.watchers.length<=1048576))(eB:Hid (kG e g x t ss ns=B)):Calls prog 32 #[dZ e g x t (.S p n c) (.S q m d)] w (Rb (.bool B) w):=by
 have HR:=ag λ(w':World)(hb:Bw w w')=>ai (h.below hb) (hN.below hb);have b1:Bw w (w.alloc (.cells #[.U e,.U g,.U x,.I t,.S p n c,.S q m d] 41)):=aA.alloc ay _;have hB:B=(decide (e<=2^62/\g<=2^62/\x<=2^62/\0<=t/\t<=1000000/\n<=50/\m<=200)&&((List.range n).all (mF x ss)&&(List.range m).all (lI e g ss ns))):=by rw[<-ae eB,kG,ae en,ae em]
 have HB:=ag hB;clear h hN hB eB;by_cases h0:4611686018427387904<e;{
 have eF:B=false:=by rw[ae HB,uM];exact .inl (tW (λhh=>af))
 subst eF;clear HB
 go_in
 go_wp2;go_ret;exact⟨rfl,b1⟩};{
 have q0:e<=2^62:=af;by_cases h1:4611686018427387904<g;{
 have eF:B=false:=by rw[ae HB,uM];exact .inl (tW (λhh=>af))
 subst eF;clear HB
 go_in
 go_wp2;go_ret;exact⟨rfl,b1⟩};{
 have q1:g<=2^62:=af;by_cases h2:4611686018427387904<x;{
 have eF:B=false:=by rw[ae HB,uM];exact .inl (tW (λhh=>af))
 subst eF;clear HB
 go_in
 go_wp2;go_ret;exact⟨rfl,b1⟩};{
 have q2:x<=2^62:=af;by_cases h3:t<0;{
 have eF:B=false:=by rw[ae HB,uM];exact .inl (tW (λhh=>af))
 subst eF;clear HB
 go_in
 go_wp2;go_ret;exact⟨rfl,b1⟩};{
 have q3:0<=t:=af;by_cases h4:1000000<t;{
 have eF:B=false:=by rw[ae HB,uM];exact .inl (tW (λhh=>af))
 subst eF;clear HB
 go_in
 go_wp2;go_ret;exact⟨rfl,b1⟩};{
 have q4:t<=1000000:=af;by_cases h5:(50:Int)<(n:Int);{
 have eF:B=false:=by rw[ae HB,uM];exact .inl (tW (λhh=>af))
 subst eF;clear HB
 go_in
 go_wp2;go_ret;exact⟨rfl,b1⟩};{
 have q5:n<=50:=af;by_cases h6:(200:Int)<(m:Int);{
 have eF:B=false:=by rw[ae HB,uM];exact .inl (tW (λhh=>af))
 subst eF;clear HB
 go_in
 go_wp2;go_ret;exact⟨rfl,b1⟩};{
 have q6:m<=200:=af;have AO:Hid (B=((List.range n).all (mF x ss)&&(List.range m).all (lI e g ss ns))):=by show _=_;rw[ae HB,BJ ⟨q0,q1,q2,q3,q4,q5,q6⟩,pQ]
 clear HB
 go_in
 go_wp2_with fail
 let⟨W,hW⟩:=aB (w.alloc (.cells #[.U e,.U g,.U x,.I t,.S p n c,.S q m d] 41))
 have yF:jD W w.heap.size e g x t (.S p n c) (.S q m d):=by rw[hW];simp[jD]
 rw[<-hW]at b1⊢;clear hW;have BW:=ag b1;have HC6:=ag yF;clear b1 yF
 go_loopw[3](λiv wr=>∃k:Nat,k<=n/\iv=.I k/\Hid ((List.range k).all (mF x ss)=true)/\Bw W wr) (λiv _=>n-(intOf iv).toNat)
 exact⟨0,gr _,rfl,bD,cQ _ _⟩;{
 obtain⟨k,hk,rfl,iI,aM⟩:=hrel;have BB:=aj BW aM
 let⟨i0,i1,i2,i3,i4,i5⟩:=HC6.below aM
 by_cases bf:k<n;{
 have bL:=aU k n
 let⟨T,eT⟩:=aL (mF x ss k)
 have ET:=ag eT;go_wp2_with fail;refine(Eh en (ae HR _ BB).1 hn bf qg ET).mono ?_;rintro r w2⟨rfl,aK⟩;cases T with
 |false=>
  have eF:B=false:=by rw[ae AO,ft bf eT];rfl
  subst eF;have b2:=aj BB aK;go_wp2;go_ret;exact⟨rfl,b2⟩
 |true=>
  have tQ:=ag (dz iI eT);have b2:=aj aM aK;go_wp2;go_roundw;exact⟨k+1,af,by go_num,tQ,b2⟩;exact cg};{
 have bL:=dB k n;have Cu:k=n:=af;have AM:Hid (B=(List.range m).all (lI e g ss ns)):=by show _=_;rw[ae AO,show(List.range n).all (mF x ss)=true from Cu▸ae iI,pQ]
 have HC7:=ag (HC6.below aM);go_wp2_with fail
 let⟨Y,eY⟩:=aB wr
 subst eY;have BY:=ag BB
 go_loopw[4](λiv wr=>∃k:Nat,k<=m/\iv=.I k/\Hid ((List.range k).all (lI e g ss ns)=true)/\Bw Y wr) (λiv _=>m-(intOf iv).toNat)
 exact⟨0,gr _,rfl,bD,cQ _ _⟩;{
 obtain⟨j,hk,rfl,iI,aM⟩:=hrel;have BB:=aj BY aM
 let⟨i0,i1,i2,i3,i4,i5⟩:=HC7.below aM
 by_cases bf:j<m;{
 have bL:=aU j m
 let⟨T,eT⟩:=aL (lI e g ss ns j)
 have ET:=ag eT;go_wp2_with fail;refine(MR en em (ae HR _ BB).1 (ae HR _ BB).2 hn hm bf gh ET).mono ?_;rintro r w2⟨rfl,aK⟩;cases T with
 |false=>
  have eF:B=false:=ae AM▸ft bf eT;subst eF;have b2:=aj BB aK;go_wp2;go_ret;exact⟨rfl,b2⟩
 |true=>
  have tQ:=ag (dz iI eT);have b2:=aj aM aK;go_wp2;go_roundw;exact⟨j+1,af,by go_num,tQ,b2⟩;exact cg};{
 have bL:=dB j m;have ekm:j=m:=af;have eT:B=true:=by rw[ae AM,<-ekm];exact ae iI
 subst eT;go_wp2;go_ret;exact⟨rfl,BB⟩}}}}}}}}}}}
def JG(x y:Int):Int:=if x<y then -1 else if y<x then 1 else 0
def KF:Calls prog 196 #[.U x] w λe w'=>e=.returned (.bool false)/\w'=w:=by
 go_in
 go_wp2;go_ret;refine⟨?_,rfl⟩;simp
def Ax:Calls prog 153 #[.U x,.U y] w λe w'=>e=.returned (.I (JG x y))/\w'=w:=by
 let⟨C,eC⟩:=aL (JG x y)
 rw[eC];have EC:=ag eC;clear eC
 go_in
 go_wp2_with fail;refine(KF).mono ?_;rintro e w1⟨rfl,rfl⟩;go_wp2_with fail;refine(KF).mono ?_;rintro e w2⟨rfl,rfl⟩;by_cases h1:x<y;{
 have e1:C=-1:=by rw[<-ae EC];rw[JG,bO h1]
 subst e1;go_wp2;go_ret;exact⟨rfl,rfl⟩};{
 by_cases h2:y<x;{
 have e1:C=1:=by rw[<-ae EC];rw[JG,bH h1,bO h2]
 subst e1;go_wp2;go_ret;exact⟨rfl,rfl⟩};{
 have e1:C=0:=by rw[<-ae EC];rw[JG,bH h1,bH h2]
 subst e1;go_wp2;go_ret;exact⟨rfl,rfl⟩}}
theorem CO(h:Rd w (.S p l.length c) l):(Extern.Bytes.bytesOf (.S p l.length c)).run prog w=.ok ⟨(Lib.bytesOf l).toArray⟩ w:=by
 cases p with
 |none=>
  have e:=h.rY;subst e;simp only[Extern.Bytes.bytesOf,Qy]
  rfl
 |some a=>
  let⟨n1,n2,n3⟩:=h.news
  have:=Lib.run_loadBytesX (P:=prog) w l a .empty (λj x hj=>n2 j _ (by rw[nG,hj];rfl));simp only[Extern.Bytes.bytesOf];rw[this]
  congr 1
  apply aU0;simp
def af1{d:Nat}{m:LI}(h:Rd w (.S p l.length c) l)(k:Rd w (.S q m.length d) m):(Extern.BytealgCompare.compare #[.S p l.length c,.S q m.length d]).run prog w=.ok (.I (Lib.compareBytes (Lib.bytesOf l) (Lib.bytesOf m))) w:=by
 change Sem.run prog (do pure (goInt (Extern.BytealgCompare.cmp (<-Extern.Bytes.bytesOf (.S p l.length c)) (<-Extern.Bytes.bytesOf (.S q m.length d))))) w=_
 simp only[ai7,CO h,CO k,Qy,Result.andThen];rw[Lib.cmp_eq]
 rfl
def ax9(l m:LI):Int:=Lib.compareBytes (Lib.bytesOf l) (Lib.bytesOf m)
theorem Sn:∀(a b:List UInt8),(0<=Lib.compareBytes a b)=(Op.bytesLess b a=true\/b=a)
 |[],[]=>by simp[Lib.compareBytes]
 |[],_::_=>by simp[Lib.compareBytes,Op.bytesLess]
 |_::_,[]=>by simp[Lib.compareBytes,Op.bytesLess]
 |x::a,y::b=>by
  have ih:=Sn a b;rw[Lib.compareBytes,Op.bytesLess];by_cases h1:x<y;{
 have h2:¬y<x:=λh=>al0 _ (UInt8.lt_trans h1 h);have h3:¬y=x:=λh=>by subst h;exact al0 _ h1
 simp[h1,h2,h3]};{by_cases h2:y<x;{simp[h1,h2]};{have h3:y=x:=UInt8.le_antisymm (ak9.1 h1) (ak9.1 h2);subst h3;simp only[h1,Cb,ih];simp}}
def aQ2(l m:LI):decide (0<=ax9 l m)=leB m l:=by
 rw[leB,fE,fE,GO,pO,ax9,Sn];simp only[Kq,MF];exact Iff.rfl
def ND{d k:Nat}{m:LI}(el:Le l n)(em:Le m k)(h1:Rd w (.S p n c) l)(h2:Rd w (.S q k d) m):Calls prog 157 #[.S p n c,.S q k d] w λe w'=>e=.returned (.I (ax9 l m))/\w'=w:=by
 have e1:=ae el;have e2:=ae em;subst e1 e2
 go_in
 go_wp2;rw[run_callFunc_extern func200 bg bg bg (e:=Extern.BytealgCompare.compare) bg,af1 h1 h2];simp only[Result.andThen];rw[Oper.upon_value];go_wp2;go_ret;exact⟨rfl,rfl⟩
def uC{a:Act}{Q:Exit->Act->World->Prop}(ng:o.guard=none){f:FuncId}{x0 x1 x2:Operand} (ho:o.op=.call {callee:=.value x0,args:=#[x1,x2],argTypes:=Lw})(h0:a.eval x0=.func (.func f) #[] #[])(h1:a.eval x1=v1)(h2:a.eval x2=v2)(ua:∀vs,(callFunc f vs).run P w=.ok (.enter f vs) w)(hc:Calls P f #[v1,v2] w R)(hR:∀e w',R e w'->∃v,e=.returned v/\K (a.put o.dst v) w'):if Region.wanted o (yielded ops a.tmps)=true then Oper.wp P o a w K Q else E:=by
 have hw:Region.wanted o (yielded ops a.tmps)=true:=by simp[Region.wanted,ng]
 rw[bO hw];have dK:(execOp a.eval o).run P w=.ok (.enter f #[v1,v2]) w:=by subst h1 h2;unfold execOp;simp[ho,resolve,invoke,ua,h0,Deferred.ofValue,ai7,Qy,Result.andThen]
 show o.upon P a K Q _;rw[dK,Ki];refine hc.mono ?_;intro e w' h;obtain⟨v,rfl,hk⟩:=hR e w' h;exact hk
def ke(n:Nat)(lt:Nat->Nat->Bool):Bool:=(List.range n).all λi=>i==0||lt (i-1) i
def VY{k:Nat}(h:(List.range k).all f=true)(hn:n<=k):(List.range n).all f=true:=by
 rw[jw]at h⊢;exactλi hi=>h i (Cc.2 (iq (Cc.1 hi) hn))
def aQ3{i1 d1 i2 d2:Int}{q1 q2:Value}:Calls prog 152 #[.agg #[.U i1,.I d1,q1],.agg #[.U i2,.I d2,q2]] w (Rb (.I (JG i1 i2)) w):=by
 go_in
 go_wp2_with fail;refine(Ax).mono ?_;rintro e w1⟨rfl,rfl⟩;go_wp2;go_ret;exact⟨rfl,(aA.alloc ay _).alloc al _⟩
def aQ4{p1 p2:OA}{c1 c2 n1 n2:Nat}(e1:Le l1 n1)(e2:Le l2 n2){V1 V2 H1 H2 U1 U2:Value}{o1 o2 m1 m2 x1 x2 g1 g2:Int}(h1:Rd w (.S p1 n1 c1) l1)(h2:Rd w (.S p2 n2 c2) l2):Calls prog 156 #[Yt (.S p1 n1 c1) V1 o1 m1 H1 x1 g1 U1,Yt (.S p2 n2 c2) V2 o2 m2 H2 x2 g2 U2] w (Rb (.I (ax9 l1 l2)) w):=by
 have HR:=ag λ(w':World)(hb:Bw w w')=>ai (h1.below hb) (h2.below hb)
 go_in
 go_wp2_with fail;have b1:Bw w ((w.alloc (.cells #[.S p1 n1 c1,V1,.U o1,.I m1,H1,.U x1,.U g1,U1] 133)).alloc (.cells #[.S p2 n2 c2,V2,.U o2,.I m2,H2,.U x2,.U g2,U2] 133)):=(aA.alloc ay _).alloc al _;refine(ND e1 e2 (ae HR _ b1).1 (ae HR _ b1).2).mono ?_;rintro e w1⟨rfl,rfl⟩;go_wp2;go_ret;exact⟨rfl,b1⟩
theorem Sz(en:Le l n)(h:oK w (.S p n c) l)(hn:Mg n)(eB:Hid (ke n (λi j=>decide (l.getD i 0<l.getD j 0))=B)):Calls prog 199 #[.S p n c,.func (.func 153) #[] #[]] w (Rb (.bool B) w):=by
 have HR:=ag λ(w':World)(hb:Bw w w')=>h.below hb;have ua:∀(vs:Array Value)(w:World),(callFunc 153 vs).run prog w=.ok (.enter 153 vs) w:=λvs w=>bg;have HCF:=ag ua
 go_in
 go_wp2_with fail
 go_loopw[5](λiv wr=>∃k:Nat,1<=k/\(k<=n\/k=1)/\iv=.I k/\Hid ((List.range k).all (λi=>i==0||(λi j=>decide (l.getD i 0<l.getD j 0)) (i-1) i)=true)/\Bw w wr) (λiv _=>n-(intOf iv).toNat)
 exact⟨1,iD _,.inr rfl,rfl,bD,cQ _ _⟩;{
 obtain⟨k,mT,hkn,rfl,iI,aM⟩:=hrel;by_cases bf:k<n;{
 have bL:=aU k n;have dT:k<l.length:=ae en▸bf;obtain⟨j,ej⟩:∃j:Nat,(k:Int)-1=(j:Int):=⟨k-1,af⟩;have Y8:k-1=j:=af;have Al:j<l.length:=af;have hjm:=aU j n;have hj0:=dC 0 j;have wj:=e8 j;obtain⟨b,o,rfl,cT⟩:∃b o,p=some (Ad b o)/\∀i,i<n->wr.cell? (Ad b (o+i))=some (.U (l.getD i 0)):=by
  let⟨p',c',ev,hd⟩:=ae HR _ aM
  obtain⟨rfl,-,-⟩:=ir ev;rcases hd with h0|⟨b,o,h1,h2⟩;{rw[h0]at dT;simp at dT};{exact⟨b,o,h1,λi hi=>h2 i (ae en▸hi)⟩}
 have Dz:=cT k bf;have hcz:=cT j af
 let⟨y,ey⟩:=aL (l.getD k 0)
 let⟨z,ez⟩:=aL (l.getD j 0)
 rw[ey]at Dz;rw[ez]at hcz;have K0:=ag (ai hcz Dz)
 let⟨C,eC⟩:=aL (JG z y)
 have iM:((k==0)||(λi j=>decide (l.getD i 0<l.getD j 0)) (k-1) k)=!decide (0<=C):=by rw[show(k==0)=false by simp;omega,Ks,Y8];show decide (l.getD j 0<l.getD k 0)=_;rw[ey,ez,<-eC,JG];by_cases h1:z<y;{simp[h1]};{by_cases h2:y<z;{simp[h1,h2]};{simp[h1,h2]}}
 have hF:decide (0<=C)=true->B=false:=λh=>by rw[<-ae eB,ke];exact ft bf (by rw[iM,h];rfl)
 have hT:decide (0<=C)=false->Hid ((List.range (k+1)).all (λi=>i==0||(λi j=>decide (l.getD i 0<l.getD j 0)) (i-1) i)=true):=λh=>dz (ae iI) (by rw[iM,h];rfl);have EC:=ag eC;obtain⟨D,eD⟩:∃D,decide (0<=C)=D:=⟨_,rfl⟩;have HF:=ag (λh:D=true=>hF (eD.trans h));have HT:=ag (λh:D=false=>hT (eD.trans h));go_wp2_with fail
 go_cut[23](λrv wc=>rv=.bool D/\Bw w wc)
 case first=>(
 refine du (λw'=>w'.cell? (Ad b (o+j))=some (.U z)/\w'.cell? (Ad b (o+k))=some (.U y)) (by exact K0) λhS=>?_;refine mj 0 1 2 3 4 5 6 7 hS ?_;refine jR 8 9 hS ?_;refine ry [10] ?_;refine cn (λKK hK=>?_) ?_;{refine uC aJ aJ aJ aJ aJ (λ_=>ae HCF _ _) (Ax) ?_;rintro r w2⟨rfl,rfl⟩;refine⟨_,rfl,?_⟩;have bN:Bw wr wr.drew:=aA.drew;rw[ae EC];refine fh hK hS λhS=>?_;refine tn 11 hS ?_;refine cY ?_;go_wp2_with fail;go_meet;exact⟨rfl,aj aM bN⟩};exact eh)
 obtain⟨rfl,En⟩:=hcut;cases D with
 |true=>
  have eF:=ae HF rfl;subst eF;go_wp2;go_ret;exact⟨rfl,En⟩
 |false=>
  have tQ:=ae HT rfl;go_wp2;go_roundw;exact⟨k+1,af,.inl af,by go_num,tQ,En⟩;exact cg};{
 have bL:=dB k n;have eT:B=true:=by rw[<-ae eB,ke];exact VY iI af
 subst eT;go_wp2;go_ret;exact⟨rfl,aM⟩}}
theorem az0{l:List aQ}(en:Le l n)(h:vk w (.S p n c) l)(hn:Mg n)(eB:Hid (ke n (λi j=>decide ((l.getD i (0,0,[])).1<(l.getD j (0,0,[])).1))=B)):Calls prog 151 #[.S p n c,.func (.func 152) #[] #[]] w (Rb (.bool B) w):=by
 have HR:=ag λ(w':World)(hb:Bw w w')=>h.below hb;have ua:∀(vs:Array Value)(w:World),(callFunc 152 vs).run prog w=.ok (.enter 152 vs) w:=λvs w=>bg;have HCF:=ag ua
 go_in
 go_wp2_with fail
 go_loopw[5](λiv wr=>∃k:Nat,1<=k/\(k<=n\/k=1)/\iv=.I k/\Hid ((List.range k).all (λi=>i==0||(λi j=>decide ((l.getD i (0,0,[])).1<(l.getD j (0,0,[])).1)) (i-1) i)=true)/\Bw w wr) (λiv _=>n-(intOf iv).toNat)
 exact⟨1,iD _,.inr rfl,rfl,bD,cQ _ _⟩;{
 obtain⟨k,mT,hkn,rfl,iI,aM⟩:=hrel;by_cases bf:k<n;{
 have bL:=aU k n;have dT:k<l.length:=ae en▸bf;obtain⟨j,ej⟩:∃j:Nat,(k:Int)-1=(j:Int):=⟨k-1,af⟩;have Y8:k-1=j:=af;have Al:j<l.length:=af;have hjm:=aU j n;have hj0:=dC 0 j;have wj:=e8 j
 let⟨⟨y,yd,yq⟩,hy⟩:=lE dT
 let⟨⟨z,zd,zq⟩,hz⟩:=lE Al
 obtain⟨b,o,rfl,⟨y1,y2,yu,y3,-⟩,z1,z2,zu,z3,-⟩:∃b o,p=some (Ad b o)/\(wr.cell? (Ad b (o+k*3))=some (.U y)/\wr.cell? (Ad b (o+k*3+1))=some (.I yd)/\∃u,wr.cell? (Ad b (o+k*3+2))=some u/\DS wr u yq)/\(wr.cell? (Ad b (o+j*3))=some (.U z)/\wr.cell? (Ad b (o+j*3+1))=some (.I zd)/\∃u,wr.cell? (Ad b (o+j*3+2))=some u/\DS wr u zq):=by
  let⟨p',c',ev,hd⟩:=ae HR _ aM
  obtain⟨rfl,-,-⟩:=ir ev;rcases hd with h0|⟨b,o,h1,h2⟩;{rw[h0]at dT;simp at dT};{exact⟨b,o,h1,h2 k _ hy,h2 j _ hz⟩}
 have ey:(l.getD k (0,0,[])).1=y:=by rw[gj,hy];rfl
 have ez:(l.getD j (0,0,[])).1=z:=by rw[gj,hz];rfl
 have K0:=ag (ai z1 (ai z2 (ai z3 (ai y1 (ai y2 y3)))))
 let⟨C,eC⟩:=aL (JG z y)
 have iM:((k==0)||(λi j=>decide ((l.getD i (0,0,[])).1<(l.getD j (0,0,[])).1)) (k-1) k)=!decide (0<=C):=by rw[show(k==0)=false by simp;omega,Ks,Y8];show decide ((l.getD j (0,0,[])).1<(l.getD k (0,0,[])).1)=_;rw[ey,ez,<-eC,JG];by_cases h1:z<y;{simp[h1]};{by_cases h2:y<z;{simp[h1,h2]};{simp[h1,h2]}}
 have hF:decide (0<=C)=true->B=false:=λh=>by rw[<-ae eB,ke];exact ft bf (by rw[iM,h];rfl)
 have hT:decide (0<=C)=false->Hid ((List.range (k+1)).all (λi=>i==0||(λi j=>decide ((l.getD i (0,0,[])).1<(l.getD j (0,0,[])).1)) (i-1) i)=true):=λh=>dz (ae iI) (by rw[iM,h];rfl);have EC:=ag eC;obtain⟨D,eD⟩:∃D,decide (0<=C)=D:=⟨_,rfl⟩;have HF:=ag (λh:D=true=>hF (eD.trans h));have HT:=ag (λh:D=false=>hT (eD.trans h));go_wp2_with fail
 go_cut[23](λrv wc=>rv=.bool D/\Bw w wc)
 case first=>(
 refine du (λw'=>w'.cell? (Ad b (o+j*3))=some (.U z)/\w'.cell? (Ad b (o+j*3+1))=some (.I zd)/\w'.cell? (Ad b (o+j*3+2))=some zu/\w'.cell? (Ad b (o+k*3))=some (.U y)/\w'.cell? (Ad b (o+k*3+1))=some (.I yd)/\w'.cell? (Ad b (o+k*3+2))=some yu) (by exact K0) λhS=>?_;refine mj 0 1 2 3 4 5 6 7 hS ?_;refine jR 8 9 hS ?_;refine ry [10] ?_;refine cn (λKK hK=>?_) ?_;{refine uC aJ aJ aJ aJ aJ (λ_=>ae HCF _ _) (aQ3) ?_;rintro r w2⟨rfl,aK⟩;refine⟨_,rfl,?_⟩;have bN:Bw wr w2:=aj (cQ wr.heap.size wr).drew aK;rw[ae EC];refine fh hK (by obtain⟨k1,k2,k3,k4,k5,k6⟩:=ae K0;exact⟨ah k1 bN,ah k2 bN,ah k3 bN,ah k4 bN,ah k5 bN,ah k6 bN⟩) λhS=>?_;refine tn 11 hS ?_;refine cY ?_;go_wp2_with fail;go_meet;exact⟨rfl,aj aM bN⟩};exact eh)
 obtain⟨rfl,En⟩:=hcut;cases D with
 |true=>
  have eF:=ae HF rfl;subst eF;go_wp2;go_ret;exact⟨rfl,En⟩
 |false=>
  have tQ:=ae HT rfl;go_wp2;go_roundw;exact⟨k+1,af,.inl af,by go_num,tQ,En⟩;exact cg};{
 have bL:=dB k n;have eT:B=true:=by rw[<-ae eB,ke];exact VY iI af
 subst eT;go_wp2;go_ret;exact⟨rfl,aM⟩}}
theorem az1{l:List aD}(en:Le l n)(h:lM w (.S p n c) l)(hn:Mg n)(eB:Hid (ke n (λi j=>!leB (l.getD j fU).path (l.getD i fU).path)=B)):Calls prog 155 #[.S p n c,.func (.func 156) #[] #[]] w (Rb (.bool B) w):=by
 have HR:=ag λ(w':World)(hb:Bw w w')=>h.below hb;have ua:∀(vs:Array Value)(w:World),(callFunc 156 vs).run prog w=.ok (.enter 156 vs) w:=λvs w=>bg;have HCF:=ag ua
 go_in
 go_wp2_with fail
 go_loopw[5](λiv wr=>∃k:Nat,1<=k/\(k<=n\/k=1)/\iv=.I k/\Hid ((List.range k).all (λi=>i==0||(λi j=>!leB (l.getD j fU).path (l.getD i fU).path) (i-1) i)=true)/\Bw w wr) (λiv _=>n-(intOf iv).toNat)
 exact⟨1,iD _,.inr rfl,rfl,bD,cQ _ _⟩;{
 obtain⟨k,mT,hkn,rfl,iI,aM⟩:=hrel;by_cases bf:k<n;{
 have bL:=aU k n;have dT:k<l.length:=ae en▸bf;obtain⟨j,ej⟩:∃j:Nat,(k:Int)-1=(j:Int):=⟨k-1,af⟩;have Y8:k-1=j:=af;have Al:j<l.length:=af;have hjm:=aU j n;have hj0:=dC 0 j;have wj:=e8 j
 let⟨yn',hy⟩:=lE dT
 let⟨zn',hz⟩:=lE Al
 obtain⟨b,o,rfl,hA⟩:=(ae HR _ aM).at af
 let⟨yP,yV,yH,yU,ny⟩:=hA k _ hy
 let⟨zP,zV,zH,zU,nz⟩:=hA j _ hz
 have ey:(l.getD k fU).path=yn'.path:=by rw[gj,hy];rfl
 have ez:(l.getD j fU).path=zn'.path:=by rw[gj,hz];rfl
 obtain⟨yp,yc,yn,rfl,eyn⟩:=ny.r0.gF;obtain⟨zp,zc,zn,rfl,ezn⟩:=nz.r0.gF;have RY:=ag ny.r0;have RZ:=ag nz.r0;obtain⟨y0,y1,y2,y3,y4,y5,y6,y7,-,-,-,-,-⟩:=ny;obtain⟨z0,z1,z2,z3,z4,z5,z6,z7,-,-,-,-,-⟩:=nz;obtain⟨yo,ym,ye,yg,e1,e2,e3,e4⟩:∃a b c d,yn'.owner=a/\yn'.mode=b/\yn'.aE=c/\yn'.gen=d:=⟨_,_,_,_,rfl,rfl,rfl,rfl⟩;obtain⟨zo,zm,ze,zg,f1,f2,f3,f4⟩:∃a b c d,zn'.owner=a/\zn'.mode=b/\zn'.aE=c/\zn'.gen=d:=⟨_,_,_,_,rfl,rfl,rfl,rfl⟩;rw[e1]at y2;rw[e2]at y3;rw[e3]at y5;rw[e4]at y6;rw[f1]at z2;rw[f2]at z3;rw[f3]at z5;rw[f4]at z6;have K0:=ag (ai z0 (ai z1 (ai z2 (ai z3 (ai z4 (ai z5 (ai z6 (ai z7 (ai y0 (ai y1 (ai y2 (ai y3 (ai y4 (ai y5 (ai y6 y7)))))))))))))))
 let⟨C,eC⟩:=aL (ax9 zn'.path yn'.path)
 have iM:((k==0)||(λi j=>!leB (l.getD j fU).path (l.getD i fU).path) (k-1) k)=!decide (0<=C):=by rw[show(k==0)=false by simp;omega,Ks,Y8];show(!leB (l.getD k fU).path (l.getD j fU).path)=_;rw[ey,ez,<-eC,aQ2]
 have hF:decide (0<=C)=true->B=false:=λh=>by rw[<-ae eB,ke];exact ft bf (by rw[iM,h];rfl)
 have hT:decide (0<=C)=false->Hid ((List.range (k+1)).all (λi=>i==0||(λi j=>!leB (l.getD j fU).path (l.getD i fU).path) (i-1) i)=true):=λh=>dz (ae iI) (by rw[iM,h];rfl);have EC:=ag eC;obtain⟨D,eD⟩:∃D,decide (0<=C)=D:=⟨_,rfl⟩;have HF:=ag (λh:D=true=>hF (eD.trans h));have HT:=ag (λh:D=false=>hT (eD.trans h));go_wp2_with fail
 go_cut[23](λrv wc=>rv=.bool D/\Bw w wc)
 case first=>(
 refine du (λw'=>w'.cell? (Ad b (o+j*8))=some (.S zp zn zc)/\w'.cell? (Ad b (o+j*8+1))=some zV/\w'.cell? (Ad b (o+j*8+2))=some (.U zo)/\w'.cell? (Ad b (o+j*8+3))=some (.I zm)/\w'.cell? (Ad b (o+j*8+4))=some zH/\w'.cell? (Ad b (o+j*8+5))=some (.U ze)/\w'.cell? (Ad b (o+j*8+6))=some (.U zg)/\w'.cell? (Ad b (o+j*8+7))=some zU/\w'.cell? (Ad b (o+k*8))=some (.S yp yn yc)/\w'.cell? (Ad b (o+k*8+1))=some yV/\w'.cell? (Ad b (o+k*8+2))=some (.U yo)/\w'.cell? (Ad b (o+k*8+3))=some (.I ym)/\w'.cell? (Ad b (o+k*8+4))=some yH/\w'.cell? (Ad b (o+k*8+5))=some (.U ye)/\w'.cell? (Ad b (o+k*8+6))=some (.U yg)/\w'.cell? (Ad b (o+k*8+7))=some yU) (by exact K0) λhS=>?_;refine mj 0 1 2 3 4 5 6 7 hS ?_;refine jR 8 9 hS ?_;refine ry [10] ?_;refine cn (λKK hK=>?_) ?_;{refine uC aJ aJ aJ aJ aJ (λ_=>ae HCF _ _) (aQ4 ezn eyn (RZ.below aA.drew) (RY.below aA.drew)) ?_;rintro r w2⟨rfl,aK⟩;refine⟨_,rfl,?_⟩;have bN:Bw wr w2:=aj (cQ wr.heap.size wr).drew aK;rw[ae EC];refine fh hK (by obtain⟨k0,k1,k2,k3,k4,k5,k6,k7,k8,k9,k10,k11,k12,k13,k14,k15⟩:=ae K0;exact⟨ah k0 bN,ah k1 bN,ah k2 bN,ah k3 bN,ah k4 bN,ah k5 bN,ah k6 bN,ah k7 bN,ah k8 bN,ah k9 bN,ah k10 bN,ah k11 bN,ah k12 bN,ah k13 bN,ah k14 bN,ah k15 bN⟩) λhS=>?_;refine tn 11 hS ?_;refine cY ?_;go_wp2_with fail;go_meet;exact⟨rfl,aj aM bN⟩};exact eh)
 obtain⟨rfl,En⟩:=hcut;cases D with
 |true=>
  have eF:=ae HF rfl;subst eF;go_wp2;go_ret;exact⟨rfl,En⟩
 |false=>
  have tQ:=ae HT rfl;go_wp2;go_roundw;exact⟨k+1,af,.inl af,by go_num,tQ,En⟩;exact cg};{
 have bL:=dB k n;have eT:B=true:=by rw[<-ae eB,ke];exact VY iI af
 subst eT;go_wp2;go_ret;exact⟨rfl,aM⟩}}
def qG(w:World)(v:Value)(es:List Ev):Prop:=
 ∃(p:OA)(c:Nat),v=.S p es.length c/\(es=[]\/∃b o,p=some (Ad b o)/\∀i e,es[i]?=some e->w.cell? (Ad b (o+i*2))=some (.I e.1)/\∃u,w.cell? (Ad b (o+i*2+1))=some u/\Rd w u e.2/\nR u)
def qG.rd(h:qG w v es):DS w v es:=by
 obtain⟨p,c,rfl,h⟩:=h;refine⟨p,c,rfl,?_⟩;rcases h with h|⟨b,o,rfl,h⟩;{exact .inl h};{
 refine .inr ⟨b,o,rfl,λi e he=>?_⟩
 let⟨h1,u,h2,h3,_⟩:=h i e he
 exact⟨h1,u,h2,h3⟩}
def qG.below(h:qG w v es)(hb:Bw w w'):qG w' v es:=by
 obtain⟨p,c,rfl,h⟩:=h;refine⟨p,c,rfl,?_⟩;rcases h with h|⟨b,o,rfl,h⟩;{exact .inl h};{
 refine .inr ⟨b,o,rfl,λi e he=>?_⟩
 let⟨h1,u,h2,h3,h4⟩:=h i e he
 exact⟨ah h1 hb,u,ah h2 hb,h3.below hb,h4⟩}
def kr(w:World)(v:Value)(ss:List aQ):Prop:=
 ∃(p:OA)(c:Nat),v=.S p ss.length c/\(ss=[]\/∃b o,p=some (Ad b o)/\∀i s,ss[i]?=some s->w.cell? (Ad b (o+i*3))=some (.U s.1)/\w.cell? (Ad b (o+i*3+1))=some (.I s.2.1)/\∃u,w.cell? (Ad b (o+i*3+2))=some u/\qG w u s.2.2)
def kr.rd(h:kr w v ss):vk w v ss:=by
 obtain⟨p,c,rfl,h⟩:=h;refine⟨p,c,rfl,?_⟩;rcases h with h|⟨b,o,rfl,h⟩;{exact .inl h};{
 refine .inr ⟨b,o,rfl,λi e he=>?_⟩
 let⟨h1,h2,u,h3,h4⟩:=h i e he
 exact⟨h1,h2,u,h3,h4.rd⟩}
def kr.below(h:kr w v ss)(hb:Bw w w'):kr w' v ss:=by
 obtain⟨p,c,rfl,h⟩:=h;refine⟨p,c,rfl,?_⟩;rcases h with h|⟨b,o,rfl,h⟩;{exact .inl h};{
 refine .inr ⟨b,o,rfl,λi e he=>?_⟩
 let⟨h1,h2,u,h3,h4⟩:=h i e he
 exact⟨ah h1 hb,ah h2 hb,u,ah h3 hb,h4.below hb⟩}
def ML(w:World):Prop:=∃m,w.cell? (Ad 0 0)=some (.I m)
def ML.below(h:ML w)(hb:Bw w w'):ML w':=by
 obtain⟨m,h⟩:=h;exact⟨m,ah h hb⟩
def nR.of(h:nR (.S p n c)):n<=c/\c<=maxLen:=by
 obtain⟨p',n',c',e,h1,h2⟩:=h;obtain⟨rfl,rfl,rfl⟩:=ir e;exact⟨h1,h2⟩
variable {K:Int}
def OO{pc:Nat}{P:LI}(em:Le P m)(hR:Rd w (.S pp m pc) P)(hB:Hid (aN P))(hm:Mg m)(ud:nR (.S pp m pc))(IK:ML w)(eB:Hid (nI i (K,P)=B)):Calls prog 195 #[.agg #[.I K,.S pp m pc],.I i] w (Rb (.bool B) w):=by
 let⟨jt,ku⟩:=ud.of
 have b1:Bw w (w.alloc (.cells #[.I K,.S pp m pc] 189)):=aA.alloc ay _;have HR:=ag (hR.below b1);have HM:=ag (IK.below b1);by_cases h7:i=7;{
 subst h7;by_cases h4:K=4;{
 subst h4;by_cases MY:m=0;{
 subst MY;have eT:B=true:=by rw[<-ae eB,nI,bO rfl];simp[ae em]
 subst eT
 go_in
 go_wp2;go_ret;exact⟨rfl,b1⟩};{
 have bJ0:((m:Int)==0)=false:=by simp;omega
 have eT:B=false:=by rw[<-ae eB,nI,bO rfl];simp[ae em,MY]
 subst eT
 go_in
 go_wp2;go_ret;exact⟨rfl,b1⟩}};{
 have h4d:(K==4)=false:=by simp[h4]
 have eT:B=false:=by rw[<-ae eB,nI,bO rfl];simp[h4]
 subst eT
 go_in
 go_wp2;go_ret;exact⟨rfl,b1⟩}};{
 have h7d:((i:Int)==7)=false:=by simp;omega
 by_cases h1:1<=K;{
 by_cases h3:K<=3;{
 have eV:Hid (vp P=B):=by show _=_;rw[<-ae eB,nI,bH h7];simp[h1,h3]
 go_in
 go_wp2_with fail;refine(UR em HR hB hm jt ku HM eV).mono ?_;rintro r w2⟨rfl,aK⟩;have b2:=aj b1 aK;go_wp2;go_ret;exact⟨rfl,b2⟩};{
 have eT:B=false:=by rw[<-ae eB,nI,bH h7];simp[h3]
 subst eT
 go_in
 go_wp2;go_ret;exact⟨rfl,b1⟩}};{
 have eT:B=false:=by rw[<-ae eB,nI,bH h7];simp[h1]
 subst eT
 go_in
 go_wp2;go_ret;exact⟨rfl,b1⟩}}
def FR(nx:Int)(s:aQ):Bool:=decide (1<=s.1)&&(decide (s.1<=nx)&&(decide (0<=s.2.1)&&(decide (s.2.1<=1000015)&&kK s.2.2)))
theorem Mb{I D:Int}{Q:List Ev}(en:Le Q n)(h:qG w (.S p n c) Q)(hn:Mg n)(gh:Hid (∀e∈Q,aN e.2/\e.2.length<=1048576))(IK:ML w)(eB:Hid (FR x (I,D,Q)=B)):Calls prog 150 #[.agg #[.U I,.I D,.S p n c],.U x] w (Rb (.bool B) w):=by
 have HR:=ag λ(w':World)(hb:Bw w w')=>ai (h.below hb) (IK.below hb);have b1:Bw w (w.alloc (.cells #[.U I,.I D,.S p n c] 132)):=aA.alloc ay _;have hB:B=(decide (1<=I)&&(decide (I<=x)&&(decide (0<=D)&&(decide (D<=1000015)&&(decide (n<=8)&&(List.range n).all λi=>nI i (Q.getD i (0,[]))))))):=by rw[<-ae eB,FR,kK,ae en]
 have HB:=ag hB;clear h IK hB eB;by_cases h1:I<1;{
 have eF:B=false:=by rw[ae HB];simp;omega
 subst eF;clear HB
 go_in
 go_wp2;go_ret;exact⟨rfl,b1⟩};{
 by_cases h2:x<I;{
 have eF:B=false:=by rw[ae HB];simp;omega
 subst eF;clear HB
 go_in
 go_wp2;go_ret;exact⟨rfl,b1⟩};{
 by_cases h3:D<0;{
 have eF:B=false:=by rw[ae HB];simp;omega
 subst eF;clear HB
 go_in
 go_wp2;go_ret;exact⟨rfl,b1⟩};{
 by_cases h4:1000015<D;{
 have eF:B=false:=by rw[ae HB];simp;omega
 subst eF;clear HB
 go_in
 go_wp2;go_ret;exact⟨rfl,b1⟩};{
 by_cases h8:(8:Int)<(n:Int);{
 have eF:B=false:=by rw[ae HB];simp;omega
 subst eF;clear HB
 go_in
 go_wp2;go_ret;exact⟨rfl,b1⟩};{
 have AO:Hid (B=(List.range n).all λi=>nI i (Q.getD i (0,[]))):=by show _=_;rw[ae HB];simp only[show decide (1<=I)=true by(rw[pO];omega),show decide (I<=x)=true by(rw[pO];omega),show decide (0<=D)=true by(rw[pO];omega),show decide (D<=1000015)=true by(rw[pO];omega),show decide (n<=8)=true by(rw[pO];omega),pQ]
 clear HB
 go_in
 go_wp2_with fail;clear h1 h2 h3 h4 h8
 let⟨W,hW⟩:=aB (w.alloc (.cells #[.U I,.I D,.S p n c] 132))
 rw[<-hW]at b1⊢;clear hW
 go_loopw[35](λiv wr=>∃k:Nat,k<=n/\iv=.I k/\Hid ((List.range k).all (λi=>nI i (Q.getD i (0,[])))=true)/\Bw w wr) (λiv _=>n-(intOf iv).toNat)
 exact⟨0,gr _,rfl,bD,b1⟩;{
 obtain⟨k,hk,rfl,iI,aM⟩:=hrel;by_cases bf:k<n;{
 have bL:=aU k n;have dT:k<Q.length:=ae en▸bf
 let⟨⟨K,P⟩,hy⟩:=lE dT
 have Ri:Q.getD k (0,[])=(K,P):=by rw[gj,hy];rfl
 obtain⟨b,o,rfl,hcK,u,hcP,YJ,ud⟩:∃b o,p=some (Ad b o)/\wr.cell? (Ad b (o+k*2))=some (.I K)/\∃u,wr.cell? (Ad b (o+k*2+1))=some u/\Rd wr u P/\nR u:=by
  let⟨p',c',ev,hd⟩:=(ae HR _ aM).1
  obtain⟨rfl,-,-⟩:=ir ev;rcases hd with h0|⟨b,o,h1,h2⟩;{rw[h0]at dT;simp at dT};{exact⟨b,o,h1,h2 k _ hy⟩}
 let⟨hBP,hPl⟩:=ae gh _ (aT hy)
 obtain⟨pp,pc,m,rfl,em⟩:=YJ.gF;have hm:m<=1048576:=ae em▸hPl;have HBP:Hid (aN P):=hBP
 let⟨V,eV⟩:=aL (nI k (K,P))
 have EV:=ag eV;have hF:V=false->B=false:=λh=>by rw[ae AO];exact ft bf (by rw[Ri,eV];exact h)
 have hT:V=true->Hid ((List.range (k+1)).all (λi=>nI i (Q.getD i (0,[])))=true):=λh=>dz (ae iI) (by rw[Ri,eV];exact h);have HF:=ag hF;have HT:=ag hT;have b2:Bw wr ((wr.alloc (.cells #[.I K,.S pp m pc] 189))):=aA.alloc ay _;have HRP:=ag (YJ.below b2);have HML:=ag ((ae HR _ aM).2.below b2);have cY3:=ag ud;clear dT hy Ri hBP hPl YJ eV hF hT ud;go_wp2_with fail;refine(OO em (by exact HRP) HBP hm cY3 (by exact HML) EV).mono ?_;rintro r w2⟨rfl,aK⟩;have b3:=aj aM (aj b2 aK);clear aK b2;cases V with
 |false=>
  have eF:=ae HF rfl;subst eF;go_wp2;go_ret;exact⟨rfl,b3⟩
 |true=>
  have tQ:=ae HT rfl;go_wp2;go_roundw;exact⟨k+1,af,by go_num,tQ,b3⟩;exact cg};{
 have bL:=dB k n;have eT:B=true:=by
  rw[ae AO];have:k=n:=by omega
  rw[<-this];exact iI
 subst eT;go_wp2;go_ret;exact⟨rfl,aM⟩}}}}}}}
structure Lf where
 b:Nat
 o:Nat
 k:IntKind
def dt(w:World)(A:List Lf):Prop:=∀a∈A,(∃n,w.cell? (Ad a.b a.o)=some (.int a.k n))/\w.frozen? (Ad a.b a.o)=false
def mkV(kd:IntKind)(k:Int):Int:=match kd with| .u8=>k % 256|_=>k
structure Mk(w w':World)(A:List Lf)(k:Int):Prop where
 os:w'.os=w.os
 tape:w'.tape=w.tape
 output:w'.output=w.output
 size:w.heap.size<=w'.heap.size
 blk:∀b,b<w.heap.size->(∀a∈A,a.b≠b)->w'.heap[b]?=w.heap[b]?
 keep:∀b o,b<w.heap.size->(∀a∈A,¬(a.b=b/\a.o=o))->w'.cell? (Ad b o)=w.cell? (Ad b o)
 fz:∀b o,b<w.heap.size->w'.frozen? (Ad b o)=w.frozen? (Ad b o)
 int:∀a∈A,∃n,w'.cell? (Ad a.b a.o)=some (.int a.k n)
 val:(A.map λa=>(a.b,a.o)).Nodup->∀(i:Nat)(a:Lf),A[i]?=some a->w'.cell? (Ad a.b a.o)=some (.int a.k (mkV a.k (k+i)))
def dt.lt{A:List Lf}(h:dt w A){a:Lf}(ha:a∈A):a.b<w.heap.size:=by
 let⟨⟨n,hn⟩,_⟩:=h a ha
 exact nZ w _ hn
def dt.nil(w:World):dt w []:=λa ha=>by simp at ha
def dt.app{A A':List Lf}:dt w (A++A')↔dt w A/\dt w A':=by
 constructor;{intro h;exact⟨λa ha=>h a (Dj _ ha),λa ha=>h a (Gw _ ha)⟩};{rintro⟨h,k⟩a ha;rcases gu.1 ha with ha|ha;{exact h a ha};{exact k a ha}}
def dt.sub{A A':List Lf}(h:dt w A)(hs:∀a∈A',a∈A):dt w A':=λa ha=>h a (hs a ha)
def dt.below{A:List Lf}(h:dt w A)(hb:Bw w w'):dt w' A:=λa ha=>by
 let⟨⟨n,hn⟩,hf⟩:=h a ha
 exact⟨⟨n,ah hn hb⟩,(hb.frozen (p:=(Ad a.b a.o)) (h.lt ha)).trans hf⟩
def Mk.dR(h:Bw w w')(k:Int):Mk w w' [] k:=
 ⟨h.os,h.tape,h.output,h.size,λb hb _=>h.block b hb,λb o hb _=>h.cell (p:=(Ad b o)) hb,λb o hb=>h.frozen (p:=(Ad b o)) hb,λa ha=>by simp at ha,λ_ i a ha=>by simp at ha⟩
def Mk.refl(w:World)(k:Int):Mk w w [] k:=Mk.dR aA k
theorem Mk.one{o:Nat}{n:Int}(hc:w.cell? (Ad b o)=some (.int kd n)):Mk w (w.setCell (Ad b o) (.int kd (mkV kd k))) [⟨b,o,kd⟩] k:=by
 have hs:(w.setCell (Ad b o) (.int kd (mkV kd k))).cell? (Ad b o)=some (.int kd (mkV kd k)):=Qt w _ _ (by rw[hc];rfl);refine⟨rfl,rfl,rfl,al,λb' hb bS=>ga _ _ _ _ (λe=>bS ⟨b,o,kd⟩ al e.symm),λb' o' hb bS=>?_,λb' o' hb=>?_,λa ha=>?_,λ_ i a ha=>?_⟩;{have h1:=bS ⟨b,o,kd⟩ al;simp only at h1;exact De _ _ _ _ (λe=>h1 (by simpa using e))};{simp};{simp at ha;subst ha;exact⟨_,hs⟩};{
 cases i with
 |zero=>simp at ha;subst ha;simpa using hs
 |succ i=>simp at ha}
def Mk.trans{A A2:List Lf}(h:Mk w w1 A k)(h2:Mk w1 w2 A2 (k+A.length))(hA:dt w A)(Vp:dt w A2):Mk w w2 (A++A2) k:=by
 refine⟨h2.os.trans h.os,h2.tape.trans h.tape,h2.output.trans h.output,fu h.size h2.size,λb hb bS=>?_,λb o hb bS=>?_,λb o hb=>?_,λa ha=>?_,λbu i a ha=>?_⟩;{exact(h2.blk b (iq hb h.size) (λa ha=>bS a (Gw _ ha))).trans (h.blk b hb (λa ha=>bS a (Dj _ ha)))};{exact(h2.keep b o (iq hb h.size) (λa ha=>bS a (Gw _ ha))).trans (h.keep b o hb (λa ha=>bS a (Dj _ ha)))};{exact(h2.fz b o (iq hb h.size)).trans (h.fz b o hb)};{
 by_cases h3:∃a2∈A2,a2.b=a.b/\a2.o=a.o;{
 obtain⟨a2,m2,e1,e2⟩:=h3
 let⟨n,hn⟩:=h2.int a2 m2
 let⟨⟨n1,xw⟩,_⟩:=Vp a2 m2
 let⟨⟨n2,KR⟩,_⟩:=dt.app.2 ⟨hA,Vp⟩ a ha
 rw[e1,e2]at hn xw;rw[xw]at KR;simp only[kV,ak8]at KR;exact⟨n,by rw[hn,KR.1]⟩};{
 rcases gu.1 ha with ha|ha;{
 let⟨n,hn⟩:=h.int a ha
 refine⟨n,(h2.keep a.b a.o (iq (hA.lt ha) h.size) (λa2 m2 e=>h3 ⟨a2,m2,e⟩)).trans hn⟩};{exact absurd ⟨a,ha,rfl,rfl⟩ h3}}};{
 rw[l8,BN]at bu;obtain⟨n1,n2,n3⟩:=bu;by_cases hi:i<A.length;{rw[kR hi]at ha;have hm:=aT ha;refine(h2.keep a.b a.o (iq (hA.lt hm) h.size) (λa2 m2 e=>?_)).trans (h.val n1 i a ha);exact n3 (a.b,a.o) (QJ hm) (a2.b,a2.o) (QJ m2) (by rw[e.1,e.2])};{
 rw[nF af]at ha;have:=h2.val n2 (i-A.length) a ha;rw[this]
 congr 3
 omega}}
def dt.mk{A A':List Lf}(h:dt w A')(hm:Mk w w' A k)(hA:dt w A):dt w' A':=λa ha=>by
 let⟨⟨n,hn⟩,hf⟩:=h a ha
 refine⟨?_,(hm.fz _ _ (h.lt ha)).trans hf⟩;by_cases h3:∃a2∈A,a2.b=a.b/\a2.o=a.o;{
 obtain⟨a2,m2,e1,e2⟩:=h3
 let⟨n',ZQ⟩:=hm.int a2 m2
 let⟨⟨n1,xw⟩,_⟩:=hA a2 m2
 rw[e1,e2]at ZQ xw;rw[hn]at xw;simp only[kV,ak8]at xw;exact⟨n',by rw[ZQ,xw.1]⟩};{exact⟨n,(hm.keep _ _ (h.lt ha) (λa2 m2 e=>h3 ⟨a2,m2,e⟩)).trans hn⟩}
def Mk.head{A:List Lf}(hm:Mk w w' A k)(hA:dt w A){o:Nat}(h:w.cell? (Ad b o)=some (.S p n c)):w'.cell? (Ad b o)=some (.S p n c):=by
 refine(hm.keep b o (nZ w _ h) (λa ha e=>?_)).trans h
 let⟨⟨n',hn⟩,_⟩:=hA a ha
 rw[e.1,e.2,h]at hn;simp at hn
variable {B:Nat}
def Mk.below{A:List Lf}(hm:Mk w w' A k)(hB:∀a∈A,B<=a.b)(hz:B<=w.heap.size):Below B w w':=
 ⟨hm.os,hm.tape,hm.output,hm.size,λb hb=>hm.blk b af (λa ha e=>aI (hB a ha))⟩
def JI{α:Type}(P:α->Nat->Nat->List Lf->Prop)(sz:Nat)(v:Value)(xs:List α)(A:List Lf):Prop:=
 ∃(p:OA)(c:Nat)(Ls:List (List Lf)),v=.S p xs.length c/\Ls.length=xs.length/\A=Ls.flatten/\(xs=[]\/∃b o,p=some (Ad b o)/\∀i x l,xs[i]?=some x->Ls[i]?=some l->P x b (o+i*sz) l)
def JI.imp{α:Type}{P P':α->Nat->Nat->List Lf->Prop}{xs:List α}{A:List Lf}(h:JI P sz v xs A)(hi:∀x b a l,x∈xs->(∀y∈l,y∈A)->P x b a l->P' x b a l):JI P' sz v xs A:=by
 obtain⟨p,c,Ls,h1,h2,h3,h4⟩:=h;refine⟨p,c,Ls,h1,h2,h3,?_⟩;rcases h4 with h4|⟨b,o,h5,h6⟩;{exact .inl h4};{refine .inr ⟨b,o,h5,λi x l hx hl=>hi _ _ _ _ (aT hx) (λy hy=>?_) (h6 i x l hx hl)⟩;rw[h3];exact Gu.2 ⟨l,aT hl,hy⟩}
def LvI(kd:IntKind)(x:Int)(b a:Nat)(l:List Lf):Prop:=l=[⟨b,a,kd⟩]
abbrev SQ(v:Value)(xs:LI)(A:List Lf):Prop:=JI (LvI .u8) 1 v xs A
abbrev ZA(v:Value)(xs:LI)(A:List Lf):Prop:=JI (LvI .u64) 1 v xs A
def Et(w:World)(x:Ev)(b a:Nat)(l:List Lf):Prop:=
 ∃p c lb,l=⟨b,a,.i64⟩::lb/\w.cell? (Ad b (a+1))=some (.S p x.2.length c)/\SQ (.S p x.2.length c) x.2 lb
abbrev CD(w:World)(v:Value)(xs:List Ev)(A:List Lf):Prop:=JI (Et w) 2 v xs A
def Cz(w:World)(x:aQ)(b a:Nat)(l:List Lf):Prop:=
 ∃p c lq,l=⟨b,a,.u64⟩::⟨b,a+1,.i64⟩::lq/\w.cell? (Ad b (a+2))=some (.S p x.2.2.length c)/\CD w (.S p x.2.2.length c) x.2.2 lq
abbrev uj(w:World)(v:Value)(xs:List aQ)(A:List Lf):Prop:=JI (Cz w) 3 v xs A
def Es(w:World)(x:aD)(b a:Nat)(l:List Lf):Prop:=
 ∃p0 c0 p1 c1 p4 c4 p7 c7 l0 l1 l4 l7,l=l0++(l1++(⟨b,a+2,.u64⟩::⟨b,a+3,.i64⟩::(l4++(⟨b,a+5,.u64⟩::⟨b,a+6,.u64⟩::l7))))∧
  (w.cell? (Ad b a)=some (.S p0 x.path.length c0)/\SQ (.S p0 x.path.length c0) x.path l0)∧
  (w.cell? (Ad b (a+1))=some (.S p1 x.value.length c1)/\SQ (.S p1 x.value.length c1) x.value l1)∧
  (w.cell? (Ad b (a+4))=some (.S p4 x.holders.length c4)/\ZA (.S p4 x.holders.length c4) x.holders l4)∧
  (w.cell? (Ad b (a+7))=some (.S p7 x.watchers.length c7)/\ZA (.S p7 x.watchers.length c7) x.watchers l7)
abbrev vQ(w:World)(v:Value)(xs:List aD)(A:List Lf):Prop:=JI (Es w) 8 v xs A
def Et.mk{x:Ev}{l:List Lf}{A:List Lf}(h:Et w x b a l)(hm:Mk w w' A k)(hA:dt w A):Et w' x b a l:=by
 obtain⟨p,c,lb,h1,h2,h3⟩:=h;exact⟨p,c,lb,h1,hm.head hA h2,h3⟩
def CD.mk{l:List Lf}{A:List Lf}(h:CD w v xs l)(hm:Mk w w' A k)(hA:dt w A):CD w' v xs l:=h.imp λ_ _ _ _ _ _ h=>h.mk hm hA
def Cz.mk{x:aQ}{l:List Lf}{A:List Lf}(h:Cz w x b a l)(hm:Mk w w' A k)(hA:dt w A):Cz w' x b a l:=by
 obtain⟨p,c,lb,h1,h2,h3⟩:=h;exact⟨p,c,lb,h1,hm.head hA h2,CD.mk h3 hm hA⟩
def uj.mk{xs:List aQ}{l:List Lf}{A:List Lf}(h:uj w v xs l)(hm:Mk w w' A k)(hA:dt w A):uj w' v xs l:=h.imp λ_ _ _ _ _ _ h=>h.mk hm hA
variable {x:aD}
def Es.mk{l:List Lf}{A:List Lf}(h:Es w x b a l)(hm:Mk w w' A k)(hA:dt w A):Es w' x b a l:=by
 obtain⟨p0,c0,p1,c1,p4,c4,p7,c7,l0,l1,l4,l7,h1,⟨h2,h3⟩,⟨h4,h5⟩,⟨h6,h7⟩,⟨h8,h9⟩⟩:=h;exact⟨p0,c0,p1,c1,p4,c4,p7,c7,l0,l1,l4,l7,h1,⟨hm.head hA h2,h3⟩,⟨hm.head hA h4,h5⟩,⟨hm.head hA h6,h7⟩,⟨hm.head hA h8,h9⟩⟩
def vQ.mk{xs:List aD}{l:List Lf}{A:List Lf}(h:vQ w v xs l)(hm:Mk w w' A k)(hA:dt w A):vQ w' v xs l:=h.imp λ_ _ _ _ _ _ h=>h.mk hm hA
def JI.at{α:Type}{P:α->Nat->Nat->List Lf->Prop}{xs:List α}{A:List Lf}(h:JI P sz (.S p n c) xs A):∃Ls:List (List Lf),n=xs.length/\Ls.length=n/\A=Ls.flatten/\∀k,k<n->∃b o x l,p=some (Ad b o)/\xs[k]?=some x/\Ls[k]?=some l/\P x b (o+k*sz) l/\(Ls.take (k+1)).flatten=(Ls.take k).flatten++l/\∀y∈l,y∈A:=by
 obtain⟨p',c',Ls,h1,h2,h3,h4⟩:=h;obtain⟨rfl,rfl,rfl⟩:=ir h1;refine⟨Ls,rfl,h2,h3,λk hk=>?_⟩
 let⟨x,hx⟩:=lE hk
 obtain⟨l,hl⟩:∃l,Ls[k]?=some l:=⟨_,aY af⟩;rcases h4 with h4|⟨b,o,h5,h6⟩;{rw[h4]at hk;simp at hk};{refine⟨b,o,x,l,h5,hx,hl,h6 k x l hx hl,?_,λy hy=>?_⟩;{rw[od,hl];simp};{rw[h3];exact Gu.2 ⟨l,aT hl,hy⟩}}
def jP(Ls:List (List Lf))(k:Nat):(Ls.take k).flatten.length<=Ls.flatten.length:=by
 have h:Ls.flatten=(Ls.take k).flatten++(Ls.drop k).flatten:=by rw[<-GG,Dn]
 rw[h,gU];omega
def lZ{Ls:List (List Lf)}{k:Nat}{y:Lf}(h:y∈(Ls.take k).flatten):y∈Ls.flatten:=by
 let⟨l,hl,hy⟩:=Gu.1 h
 exact Gu.2 ⟨l,GR hl,hy⟩
theorem JI.len{α:Type}{P:α->Nat->Nat->List Lf->Prop}{xs:List α}{A:List Lf}(h:JI P sz (.S p n c) xs A)(bS:∀x b a l,P x b a l->1<=l.length):n<=A.length:=by
  let⟨Ls,en,lL,eA,iM⟩:=h.at
  have key:∀k,k<=n->k<=(Ls.take k).flatten.length:=by
    intro k
    induction k with
    |zero=>intro _;exact gr _
    | succ k ih=>
      intro hk;obtain⟨b,o,x,l,-,-,-,hP,M8,-⟩:=iM k af;rw[M8,gU];have:=ih af;have:=bS _ _ _ _ hP;omega
  have:=key n ay;rw[<-lL,rr,lL]at this;rw[eA];exact this
def Et.pos{x:Ev}{l:List Lf}(h:Et w x b a l):1<=l.length:=by
  obtain⟨p,c,lb,rfl,-⟩:=h;simp
def Cz.pos{x:aQ}{l:List Lf}(h:Cz w x b a l):1<=l.length:=by
  obtain⟨p,c,lb,rfl,-⟩:=h;simp
def Es.pos{l:List Lf}(h:Es w x b a l):1<=l.length:=by
  obtain⟨p0,c0,p1,c1,p4,c4,p7,c7,l0,l1,l4,l7,rfl,-⟩:=h;simp;omega
def Mk.trans'{A A2:List Lf}(h:Mk w w1 A k)(h2:Mk w1 w2 A2 K)(e:K=k+A.length)(hA:dt w A)(Vp:dt w A2):Mk w w2 (A++A2) k:=by
  subst e;exact h.trans h2 hA Vp
def Mk.set{acc l:List Lf}{o:Nat}(h:Mk wr V acc k0)(jq:dt wr l)(aN5:∀a∈acc,a∈l)(hm:Lf.mk b o kd∈l)(e:K=k0+acc.length):Mk wr (V.setCell (Ad b o) (.int kd (mkV kd K))) (acc++[⟨b,o,kd⟩]) k0:=by
  let⟨⟨n,hn⟩,hf⟩:=jq.mk h (jq.sub aN5) _ hm
  exact h.trans' (Mk.one hn) e (jq.sub aN5) (λa ha=>jq a (by simp at ha;rw[ha];exact hm))
def Mk.call{V':World}{acc lf l:List Lf}(h:Mk wr V acc k0)(h2:Mk V V' lf K)(jq:dt wr l)(aN5:∀a∈acc,a∈l)(hlf:∀a∈lf,a∈l)(e:K=k0+acc.length):Mk wr V' (acc++lf) k0:=
  h.trans' h2 e (jq.sub aN5) (jq.sub hlf)
def wW{A B:List Lf}(h:∀a∈A,a∈B:=by(intro a ha;first|(simp at ha;done)|(simp only[gu,jv,GF,D9,xl]at ha⊢;grind))):∀a∈A,a∈B:=h
theorem mkW{q:Prop}(h':q:=by
    have hnA:=h.len (λx b a l hl=>by first|exact hl.pos|(rw[show l=_ from hl];simp))
    let⟨Ls,en,lL,eA,iM⟩:=h.at
    have HAT:=ag iM;have HA:=ag hA;have EA:=ag eA;have K1:k+(Ls.flatten.length:Int)<=100000000:=eA▸k1;have hn:n<=100000000:=af;have LL:=ag lL;clear h iM hA eA en lL hnA;show Calls _ _ _ _ _
    go_in
    go_wp2
    go_loopw[1,5](λkk i wr=>∃j:Nat,j<=n/\i=.I j/\kk=.I (k+(((Ls.take j).flatten.length:Nat):Int))/\Hid (Mk w wr (Ls.take j).flatten k)) (λ_ i _=>n-(intOf i).toNat)
    exact⟨0,gr _,rfl,al,Mk.refl _ _⟩;{
 obtain⟨j,hj,rfl,rfl,hM⟩:=hrel;have hle:=jP Ls j;by_cases bf:j<n;{
 have bL:=aU j n;obtain⟨b,o,x,l,rfl,hx,hl,hP,M8,oy⟩:=ae HAT j bf;have yi:dt w (Ls.take j).flatten:=HA.sub (λa ha=>by rw[ae EA];exact lZ ha);have Tl:dt w l:=HA.sub oy;have jq:dt wr l:=Tl.mk hM yi;have hTl:(Ls.take (j+1)).flatten.length=(Ls.take j).flatten.length+l.length:=by rw[M8,gU]
 have ti:k+((Ls.take j).flatten.length:Int)+(l.length:Int)<=100000000:=by have:=jP Ls (j+1);omega
 have HT:=ag hTl;have HPW:Hid (∀w',Mk wr w' l (k+((Ls.take j).flatten.length:Int))->Mk w w' (Ls.take (j+1)).flatten k):=by intro w' hw';rw[M8];exact hM.trans hw' yi Tl
 generalize hT:(Ls.take j).flatten.length=T at*;clear hT hx hl M8 oy hTl;have hT0:0<=k+(T:Int):=af
 first
   | (have e1:l=[⟨b,o+j*1,.u8⟩]:=hP
      rw[zL]at e1;subst e1
      let⟨⟨n0,tv⟩,hf0⟩:=jq ⟨b,o+j,.u8⟩ al
      dsimp only at tv hf0;have FIN:=ag (ae HPW _ (Mk.one tv));have hT1:k+(T:Int)<=100000000:=by simp at ti;omega
      clear hP yi hM Tl jq)
   | (have e1:l=[⟨b,o+j*1,.u64⟩]:=hP
      rw[zL]at e1;subst e1
      let⟨⟨n0,tv⟩,hf0⟩:=jq ⟨b,o+j,.u64⟩ al
      dsimp only at tv hf0;have FIN:=ag (ae HPW _ (Mk.one tv));have hT1:k+(T:Int)<=100000000:=by simp at ti;omega
      clear hP yi hM Tl jq)
   | (have YQ:Et wr x b _ l:=hP.mk hM yi
      obtain⟨q,d,lb,rfl,hd,U9⟩:=YQ;have HD:=ag hd;have Ta:=ag U9;clear hd U9;clear hP yi hM Tl;have hlen:k+(T:Int)+(1+(lb.length:Int))<=100000000:=by simp only[gU,iS]at ti;omega
      clear ti;have nK:=ag jq;have AC0:Hid (Mk wr wr [] (k+(T:Int))):=Mk.refl _ _;clear jq;have IN0:dt wr (⟨b,o+j*2,.i64⟩::lb):=nK.mk AC0 (nK.sub wW)
      let⟨⟨m0,tv⟩,hf0⟩:=IN0 ⟨b,o+j*2,.i64⟩ al
      dsimp only at tv hf0;have yD:wr.cell? (Ad b (o+j*2+1))=some (.S q x.2.length d):=AC0.head (nK.sub wW) HD;have AX0:Hid (Mk wr (wr.setCell (Ad b (o+j*2)) (.I (k+(T:Int)))) ([]++[⟨b,o+j*2,.i64⟩]) (k+(T:Int))):=(Mk.set (ae AC0) (ae nK) wW (b:=b) (o:=o+j*2) (kd:=.i64) al (K:=k+(T:Int)) al);have HV0:Hid (dt (wr.setCell (Ad b (o+j*2)) (.I (k+(T:Int)))) lb):=(nK.sub (by intro a ha;simp[ha])).mk (ae AX0) (nK.sub wW);clear IN0;go_wp2_with fail;clear tv hf0 yD;refine(sQ Ta HV0 af af).mono ?_;rintro e v0⟨rfl,N0⟩;have AC1:Hid (Mk wr v0 (([]++[⟨b,o+j*2,.i64⟩])++lb) (k+(T:Int))):=Mk.call (ae AX0) N0 (ae nK) wW (by intro a ha;simp[ha]) (by simp;try omega);clear N0 AX0 HV0;have FIN:=ag (ae HPW _ (by simpa using ae AC1)))
   | (have YQ:Cz wr x b _ l:=hP.mk hM yi
      obtain⟨q,d,lb,rfl,hd,U9⟩:=YQ;have HD:=ag hd;have Ta:=ag U9;clear hd U9;clear hP yi hM Tl;have hlen:k+(T:Int)+(2+(lb.length:Int))<=100000000:=by simp only[gU,iS]at ti;omega
      clear ti;have nK:=ag jq;have AC0:Hid (Mk wr wr [] (k+(T:Int))):=Mk.refl _ _;clear jq;have IN0:dt wr (⟨b,o+j*3,.u64⟩::⟨b,o+j*3+1,.i64⟩::lb):=nK.mk AC0 (nK.sub wW)
      let⟨⟨m0,tv⟩,hf0⟩:=IN0 ⟨b,o+j*3,.u64⟩ al
      let⟨⟨m1,jt⟩,YO⟩:=IN0 ⟨b,o+j*3+1,.i64⟩ al
      dsimp only at tv hf0 jt YO;have hh2:wr.cell? (Ad b (o+j*3+2))=some (.S q x.2.2.length d):=AC0.head (nK.sub wW) HD;have AX0:Hid (Mk wr ((wr.setCell (Ad b (o+j*3)) (.U (k+(T:Int)))).setCell (Ad b (o+j*3+1)) (.I (k+(T:Int)+1))) (([]++[⟨b,o+j*3,.u64⟩])++[⟨b,o+j*3+1,.i64⟩]) (k+(T:Int))):=(Mk.set (Mk.set (ae AC0) (ae nK) wW (b:=b) (o:=o+j*3) (kd:=.u64) al (K:=k+(T:Int)) al) (ae nK) wW (b:=b) (o:=o+j*3+1) (kd:=.i64) al (K:=k+(T:Int)+1) (by simp;try omega));have HV0:Hid (dt ((wr.setCell (Ad b (o+j*3)) (.U (k+(T:Int)))).setCell (Ad b (o+j*3+1)) (.I (k+(T:Int)+1))) lb):=(nK.sub (by intro a ha;simp[ha])).mk (ae AX0) (nK.sub wW);clear IN0;go_wp2_with fail;clear tv hf0 jt YO hh2;refine(Jc (Ta.mk AX0 (nK.sub wW)) HV0 af af).mono ?_;rintro e v0⟨rfl,N0⟩;have AC1:Hid (Mk wr v0 ((([]++[⟨b,o+j*3,.u64⟩])++[⟨b,o+j*3+1,.i64⟩])++lb) (k+(T:Int))):=Mk.call (ae AX0) N0 (ae nK) wW (by intro a ha;simp[ha]) (by simp;try omega);clear N0 AX0 HV0;have FIN:=ag (ae HPW _ (by simpa using ae AC1)))
   | (have YQ:Es wr x b _ l:=hP.mk hM yi
      obtain⟨p0,c0,p1,c1,p4,c4,p7,c7,l0,l1,l4,l7,rfl,⟨h1,h2⟩,⟨h3,h4⟩,⟨h5,h6⟩,⟨h7,h8⟩⟩:=YQ;have HD:=ag (ai h1 (ai h3 (ai h5 h7)));have Ta:=ag (ai h2 (ai h4 (ai h6 h8)));clear h1 h2 h3 h4 h5 h6 h7 h8;clear hP yi hM Tl;have hlen:k+(T:Int)+(4+(l0.length:Int)+(l1.length:Int)+(l4.length:Int)+(l7.length:Int))<=100000000:=by simp only[gU,iS]at ti;omega
      clear ti;have nK:=ag jq;have AC0:Hid (Mk wr wr [] (k+(T:Int))):=Mk.refl _ _;clear jq;have IN0:dt wr (l0++(l1++(⟨b,o+j*8+2,.u64⟩::⟨b,o+j*8+3,.i64⟩::(l4++(⟨b,o+j*8+5,.u64⟩::⟨b,o+j*8+6,.u64⟩::l7))))):=nK.mk AC0 (nK.sub wW);have hh0:wr.cell? (Ad b (o+j*8))=some (.S p0 x.path.length c0):=AC0.head (nK.sub wW) HD.1;have AX0:Hid (Mk wr wr [] (k+(T:Int))):=(ae AC0);have HV0:Hid (dt wr l0):=(nK.sub (by intro a ha;simp[ha])).mk (ae AX0) (nK.sub wW);clear IN0;go_wp2_with fail;clear hh0;refine(sQ Ta.1 HV0 af af).mono ?_;rintro e v0⟨rfl,N0⟩;have AC1:Hid (Mk wr v0 ([]++l0) (k+(T:Int))):=Mk.call (ae AX0) N0 (ae nK) wW (by intro a ha;simp[ha]) (by simp;try omega);clear N0 AX0 HV0;have IN1:dt v0 (l0++(l1++(⟨b,o+j*8+2,.u64⟩::⟨b,o+j*8+3,.i64⟩::(l4++(⟨b,o+j*8+5,.u64⟩::⟨b,o+j*8+6,.u64⟩::l7))))):=nK.mk AC1 (nK.sub wW);have yD:v0.cell? (Ad b (o+j*8+1))=some (.S p1 x.value.length c1):=AC1.head (nK.sub wW) HD.2.1;have AX1:Hid (Mk wr v0 ([]++l0) (k+(T:Int))):=(ae AC1);have HV1:Hid (dt v0 l1):=(nK.sub (by intro a ha;simp[ha])).mk (ae AX1) (nK.sub wW);clear IN1;go_wp2_with fail;clear yD;refine(sQ Ta.2.1 HV1 af af).mono ?_;rintro e v1⟨rfl,N1⟩;have AC2:Hid (Mk wr v1 (([]++l0)++l1) (k+(T:Int))):=Mk.call (ae AX1) N1 (ae nK) wW (by intro a ha;simp[ha]) (by simp;try omega);clear N1 AX1 HV1;have IN2:dt v1 (l0++(l1++(⟨b,o+j*8+2,.u64⟩::⟨b,o+j*8+3,.i64⟩::(l4++(⟨b,o+j*8+5,.u64⟩::⟨b,o+j*8+6,.u64⟩::l7))))):=nK.mk AC2 (nK.sub wW)
      let⟨⟨m2,ku⟩,Xq⟩:=IN2 ⟨b,o+j*8+2,.u64⟩ al
      let⟨⟨m3,Jw⟩,Ht⟩:=IN2 ⟨b,o+j*8+3,.i64⟩ al
      dsimp only at ku Xq Jw Ht;have hh4:v1.cell? (Ad b (o+j*8+4))=some (.S p4 x.holders.length c4):=AC2.head (nK.sub wW) HD.2.2.1;have AX2:Hid (Mk wr ((v1.setCell (Ad b (o+j*8+2)) (.U (k+(T:Int)+(l0.length:Int)+(l1.length:Int)))).setCell (Ad b (o+j*8+3)) (.I (k+(T:Int)+(l0.length:Int)+(l1.length:Int)+1))) (((([]++l0)++l1)++[⟨b,o+j*8+2,.u64⟩])++[⟨b,o+j*8+3,.i64⟩]) (k+(T:Int))):=(Mk.set (Mk.set (ae AC2) (ae nK) wW (b:=b) (o:=o+j*8+2) (kd:=.u64) al (K:=k+(T:Int)+(l0.length:Int)+(l1.length:Int)) (by simp;try omega)) (ae nK) wW (b:=b) (o:=o+j*8+3) (kd:=.i64) al (K:=k+(T:Int)+(l0.length:Int)+(l1.length:Int)+1) (by simp;try omega));have HV2:Hid (dt ((v1.setCell (Ad b (o+j*8+2)) (.U (k+(T:Int)+(l0.length:Int)+(l1.length:Int)))).setCell (Ad b (o+j*8+3)) (.I (k+(T:Int)+(l0.length:Int)+(l1.length:Int)+1))) l4):=(nK.sub (by intro a ha;simp[ha])).mk (ae AX2) (nK.sub wW);clear IN2;go_wp2_with fail;clear ku Xq Jw Ht hh4;refine(uJ p4 c4 x.holders.length (x.holders) l4 (k+(T:Int)+(l0.length:Int)+(l1.length:Int)+1+1) _ Ta.2.2.1 HV2 af af).mono ?_;rintro e v2⟨rfl,N2⟩;have AC3:Hid (Mk wr v2 ((((([]++l0)++l1)++[⟨b,o+j*8+2,.u64⟩])++[⟨b,o+j*8+3,.i64⟩])++l4) (k+(T:Int))):=Mk.call (ae AX2) N2 (ae nK) wW (by intro a ha;simp[ha]) (by simp;try omega);clear N2 AX2 HV2;have IN3:dt v2 (l0++(l1++(⟨b,o+j*8+2,.u64⟩::⟨b,o+j*8+3,.i64⟩::(l4++(⟨b,o+j*8+5,.u64⟩::⟨b,o+j*8+6,.u64⟩::l7))))):=nK.mk AC3 (nK.sub wW)
      let⟨⟨m5,DC⟩,hf5⟩:=IN3 ⟨b,o+j*8+5,.u64⟩ al
      let⟨⟨m6,yF⟩,hf6⟩:=IN3 ⟨b,o+j*8+6,.u64⟩ al
      dsimp only at DC hf5 yF hf6;have hh7:v2.cell? (Ad b (o+j*8+7))=some (.S p7 x.watchers.length c7):=AC3.head (nK.sub wW) HD.2.2.2;have AX3:Hid (Mk wr ((v2.setCell (Ad b (o+j*8+5)) (.U (k+(T:Int)+(l0.length:Int)+(l1.length:Int)+1+1+(l4.length:Int)))).setCell (Ad b (o+j*8+6)) (.U (k+(T:Int)+(l0.length:Int)+(l1.length:Int)+1+1+(l4.length:Int)+1))) ((((((([]++l0)++l1)++[⟨b,o+j*8+2,.u64⟩])++[⟨b,o+j*8+3,.i64⟩])++l4)++[⟨b,o+j*8+5,.u64⟩])++[⟨b,o+j*8+6,.u64⟩]) (k+(T:Int))):=(Mk.set (Mk.set (ae AC3) (ae nK) wW (b:=b) (o:=o+j*8+5) (kd:=.u64) al (K:=k+(T:Int)+(l0.length:Int)+(l1.length:Int)+1+1+(l4.length:Int)) (by simp;try omega)) (ae nK) wW (b:=b) (o:=o+j*8+6) (kd:=.u64) al (K:=k+(T:Int)+(l0.length:Int)+(l1.length:Int)+1+1+(l4.length:Int)+1) (by simp;try omega));have HV3:Hid (dt ((v2.setCell (Ad b (o+j*8+5)) (.U (k+(T:Int)+(l0.length:Int)+(l1.length:Int)+1+1+(l4.length:Int)))).setCell (Ad b (o+j*8+6)) (.U (k+(T:Int)+(l0.length:Int)+(l1.length:Int)+1+1+(l4.length:Int)+1))) l7):=(nK.sub (by intro a ha;simp[ha])).mk (ae AX3) (nK.sub wW);clear IN3;go_wp2_with fail;clear DC hf5 yF hf6 hh7;refine(uJ p7 c7 x.watchers.length (x.watchers) l7 (k+(T:Int)+(l0.length:Int)+(l1.length:Int)+1+1+(l4.length:Int)+1+1) _ Ta.2.2.2 HV3 af af).mono ?_;rintro e v3⟨rfl,N3⟩;have AC4:Hid (Mk wr v3 (((((((([]++l0)++l1)++[⟨b,o+j*8+2,.u64⟩])++[⟨b,o+j*8+3,.i64⟩])++l4)++[⟨b,o+j*8+5,.u64⟩])++[⟨b,o+j*8+6,.u64⟩])++l7) (k+(T:Int))):=Mk.call (ae AX3) N3 (ae nK) wW (by intro a ha;simp[ha]) (by simp;try omega);clear N3 AX3 HV3;have FIN:=ag (ae HPW _ (by simpa using ae AC4)))
 go_wp2;go_roundw;exact⟨j+1,af,by go_num,by rw[ae HT];first|go_num|(simp;omega)|(congr 1;simp;omega),FIN⟩;exact cg};{
 have e:j=n:=af;subst e;have e2:(Ls.take j).flatten=A:=by rw[<-ae LL,rr];exact EA.symm
 rw[e2]at hM⊢;clear hle HAT HA;go_wp2;go_ret;exact⟨rfl,hM⟩}}):q:=h'
def sQ{xs:LI}{A:List Lf}(h:SQ (.S p n c) xs A)(hA:dt w A)(k0:0<=k)(k1:k+A.length<=100000000):Cp 122 #[.S p n c,.I k] w λe w'=>e=.returned (.I (k+A.length))/\Mk w w' A k:=mkW
def uJ(p:OA)(c n:Nat)(xs:LI)(A:List Lf)(k:Int)(w:World)(h:ZA (.S p n c) xs A)(hA:dt w A)(k0:0<=k)(k1:k+A.length<=100000000):Cp 124 #[.S p n c,.I k] w λe w'=>e=.returned (.I (k+A.length))/\Mk w w' A k:=mkW
def Jc{A:List Lf}(h:CD w (.S p n c) xs A)(hA:dt w A)(k0:0<=k)(k1:k+A.length<=100000000):Cp 123 #[.S p n c,.I k] w λe w'=>e=.returned (.I (k+A.length))/\Mk w w' A k:=mkW
def D6(p:OA)(c n:Nat)(xs:List aQ)(A:List Lf)(k:Int)(w:World)(h:uj w (.S p n c) xs A)(hA:dt w A)(k0:0<=k)(k1:k+A.length<=100000000):Cp 58 #[.S p n c,.I k] w λe w'=>e=.returned (.I (k+A.length))/\Mk w w' A k:=mkW
def MA(p:OA)(c n:Nat)(xs:List aD)(A:List Lf)(k:Int)(w:World)(h:vQ w (.S p n c) xs A)(hA:dt w A)(k0:0<=k)(k1:k+A.length<=100000000):Cp 59 #[.S p n c,.I k] w λe w'=>e=.returned (.I (k+A.length))/\Mk w w' A k:=mkW
def Tryz.infoU64:(Tryz.prog.info? 27).map (λi=>(i.zero,i.size,i.bytes))=some (some (.U 0),1,8):=by kernel_rfl
def Tryz.infoEv:(Tryz.prog.info? 189).map (λi=>(i.zero,i.size,i.bytes))=some (some (.agg #[.I 0,aq]),2,32):=by kernel_rfl
def Tryz.infoSes:(Tryz.prog.info? 132).map (λi=>(i.zero,i.size,i.bytes))=some (some (.agg #[.U 0,.I 0,aq]),3,40):=by kernel_rfl
def Tryz.infoNod:(Tryz.prog.info? 133).map (λi=>(i.zero,i.size,i.bytes))=some (some (.agg #[aq,aq,.U 0,.I 0,aq,.U 0,.U 0,aq]),8,128):=by kernel_rfl
def Vq(h:Bw w w'):w.grownBy w' none:=⟨h.os,h.tape,h.output,h.size,λi hi _=>h.block i hi⟩
structure jE(B:Nat)(w:World)(A:List Lf):Prop where
 nd:(A.map λa=>(a.b,a.o)).Nodup
 lo:∀a∈A,B<=a.b
 tf:dt w A
def jE.nil(B:Nat)(w:World):jE B w []:=⟨by simp,λa ha=>by simp at ha,dt.nil w⟩
def jE.mono{B':Nat}{A:List Lf}(h:jE B w A)(hB:B'<=B):jE B' w A:=⟨h.nd,λa ha=>fu hB (h.lo a ha),h.tf⟩
def jE.app{A A2:List Lf}(h:jE B w A)(h2:jE M w A2)(hB:B<=M)(hM:∀a∈A,a.b<M):jE B w (A++A2):=by
 refine⟨?_,λa ha=>?_,dt.app.2 ⟨h.tf,h2.tf⟩⟩;{rw[l8,BN];refine⟨h.nd,h2.nd,λx hx y hy=>?_⟩;obtain⟨a,ha,rfl⟩:=iR.1 hx;obtain⟨a2,Aq,rfl⟩:=iR.1 hy;intro e;have:=hM a ha;have:=h2.lo a2 Aq;simp only[gy]at e;omega};{rcases gu.1 ha with ha|ha;{exact h.lo a ha};{exact fu hB (h2.lo a ha)}}
def dt.keep{A:List Lf}(h:dt w A)(hk:∀a∈A,w'.heap[a.b]?=w.heap[a.b]?):dt w' A:=λa ha=>by
 let⟨⟨n,hn⟩,hf⟩:=h a ha
 exact⟨⟨n,(xi (w:=w) (a:=(Ad a.b a.o)) (hk a ha)).trans hn⟩,(tM (w:=w) (a:=(Ad a.b a.o)) (hk a ha)).trans hf⟩
def jE.keep{A:List Lf}(h:jE B w A)(hk:∀a∈A,w'.heap[a.b]?=w.heap[a.b]?):jE B w' A:=⟨h.nd,h.lo,h.tf.keep hk⟩
def OwnT{α:Type}(el:World->α->List Value->List Lf->Prop)(ty:TypeId)(sz B:Nat)(w:World)(v:Value)(xs:List α)(Ls:List (List Lf)):Prop:=
 ∃cs:List (List Value),cs.length=xs.length/\Ls.length=xs.length/\(∀c∈cs,c.length=sz)/\w.ownsRow B ty sz v xs.length cs.flatten∧
  (∀(i:Nat)(x:α)(c:List Value)(l:List Lf),xs[i]?=some x->cs[i]?=some c->Ls[i]?=some l->el w x c l)/\jE B w Ls.flatten/\∀a∈Ls.flatten,v.ownBlock≠some a.b
def OwnT.nil{α:Type}(el:World->α->List Value->List Lf->Prop)(ty:TypeId)(sz B:Nat)(w:World):OwnT el ty sz B w aq [] []:=
 ⟨[],rfl,rfl,λc hc=>by simp at hc,by simpa using gm w B ty sz,λi x c l hx=>by simp at hx,by simpa using jE.nil B w,λa ha=>by simp at ha⟩
def OwnT.keep{α:Type}{el:World->α->List Value->List Lf->Prop}{xs:List α}{Ls:List (List Lf)}(h:OwnT el ty sz B w v xs Ls)(db:∀x c l,el w x c l->(∀a∈l,w'.heap[a.b]?=w.heap[a.b]?)->el w' x c l)(hz:w.heap.size<=w'.heap.size)(hr:∀b,v.ownBlock=some b->w'.heap[b]?=w.heap[b]?)(hl:∀a∈Ls.flatten,w'.heap[a.b]?=w.heap[a.b]?):OwnT el ty sz B w' v xs Ls:=by
 obtain⟨cs,h1,h2,h3,h4,h5,h6,h7⟩:=h;refine⟨cs,h1,h2,h3,?_,λi x c l hx hc Fb=>db _ _ _ (h5 i x c l hx hc Fb) (λa ha=>hl a (Gu.2 ⟨l,aT Fb,ha⟩)),h6.keep hl,h7⟩;refine⟨h4.1,?_⟩;rcases h4.2 with hn|⟨g,cap,cur,rfl,hb,hg,rest⟩;{exact .inl hn};{exact .inr ⟨g,cap,cur,rfl,hb,(hr g rfl).trans hg,rest⟩}
def OwnT.below{α:Type}{el:World->α->List Value->List Lf->Prop}{xs:List α}{Ls:List (List Lf)}(h:OwnT el ty sz B w v xs Ls)(db:∀w w' x c l,el w x c l->(∀a∈l,w'.heap[a.b]?=w.heap[a.b]?)->el w' x c l)(hb:Bw w w'):OwnT el ty sz B w' v xs Ls:=by
 have h':=h;obtain⟨cs,h1,h2,h3,h4,h5,h6,h7⟩:=h';exact h.keep (db w w') hb.size (λb hv=>hb.block b (h4.lt b hv).2) (λa ha=>hb.block _ (h6.tf.lt ha))
variable {c:List Value}
def OwnT.snoc{α:Type}{el:World->α->List Value->List Lf->Prop}{v':Value}{xs:List α}{Ls:List (List Lf)}{x:α}{l:List Lf} (h1:cs.length=xs.length)(h2:Ls.length=xs.length)(h3:∀c∈cs,c.length=sz)(h5:∀(i:Nat)(x:α)(c:List Value)(l:List Lf),xs[i]?=some x->cs[i]?=some c->Ls[i]?=some l->el w x c l)(h6:jE B w Ls.flatten)(h7:∀a∈Ls.flatten,v.ownBlock≠some a.b)(db:∀w w' x c l,el w x c l->(∀a∈l,w'.heap[a.b]?=w.heap[a.b]?)->el w' x c l)(hx:el w x c l)(hc:c.length=sz)(hA:jE M w l)(hBM:B<=M)(hM:∀a∈Ls.flatten,a.b<M)(hvM:∀b,v.ownBlock=some b->b<M)(fo:w'.ownsRow B ty sz v' (xs.length+1) (cs.flatten++c))(hg:w.grownBy w' v.ownBlock)(qz:∀g,v'.ownBlock=some g->v.ownBlock=some g\/w.heap.size<=g):OwnT el ty sz B w' v' (xs++[x]) (Ls++[l]):=by
 have hk:∀a∈Ls.flatten++l,w'.heap[a.b]?=w.heap[a.b]?:=λa ha=>by rcases gu.1 ha with ha|ha;{exact hg.block _ (h6.tf.lt ha) (λe=>h7 a ha e.symm)};{exact hg.block _ (hA.tf.lt ha) (λe=>by have:=hvM a.b e.symm;have:=hA.lo a ha;omega)}
 refine⟨cs++[c],by simp[h1],by simp[h2],λc' rA=>?_,?_,λi y c' l' hy rA Fb=>?_,?_,λa ha=>?_⟩;{rcases gu.1 rA with rA|rA;{exact h3 c' rA};{simp at rA;subst rA;exact hc}};{simpa using fo};{
 by_cases hi:i<xs.length;{rw[kR hi]at hy;rw[kR af]at rA Fb;exact db w w' _ _ _ (h5 i y c' l' hy rA Fb) (λa ha=>hk a (Dj _ (Gu.2 ⟨l',aT Fb,ha⟩)))};{
 have ei:i=xs.length:=by have:=(aV.1 hy).1;simp at this;omega
 subst ei;simp at hy;rw[<-h1]at rA;simp at rA;rw[<-h2]at Fb;simp at Fb;subst hy rA Fb;exact db w w' _ _ _ hx (λa ha=>hk a (Gw _ ha))}};{
 have:(Ls++[l]).flatten=Ls.flatten++l:=by simp
 rw[this];exact(h6.app hA hBM hM).keep hk};{
 have:(Ls++[l]).flatten=Ls.flatten++l:=by simp
 rw[this]at ha;intro e;rcases qz _ e with e1|e1;{rcases gu.1 ha with ha|ha;{exact h7 a ha e1};{have:=hvM a.b e1;have:=hA.lo a ha;omega}};{
 have:a.b<w.heap.size:=by rcases gu.1 ha with ha|ha;{exact h6.tf.lt ha};{exact hA.tf.lt ha}
 omega}}
def OwnT.lt{α:Type}{el:World->α->List Value->List Lf->Prop}{xs:List α}{Ls:List (List Lf)}(h:OwnT el ty sz B w v xs Ls):(∀b,v.ownBlock=some b->B<=b/\b<w.heap.size)/\∀a∈Ls.flatten,B<=a.b/\a.b<w.heap.size:=by
 obtain⟨cs,h1,h2,h3,h4,h5,h6,h7⟩:=h;exact⟨λb hb=>h4.lt b hb,λa ha=>⟨h6.lo a ha,h6.tf.lt ha⟩⟩
theorem Au(h:∀c∈cs,c.length=sz)(hc:cs[i]?=some c)(hj:j<sz):cs.flatten[i*sz+j]?=c[j]?:=by
 induction cs generalizing i with
 |nil=>simp at hc
 | cons d cs ih=>
  cases i with
  |zero=>
   simp at hc;subst hc;rw[sV,kR (by rw[h d al];omega)];simp
  |succ i=>
   rw[sV,nF (by rw[h d al,D7];omega),h d al];have:=ih (λc hc=>h c (by simp[hc])) (by simpa using hc);rw[<-this]
   congr 1
   rw[D7];omega
theorem OwnT.lv{α:Type}{el:World->α->List Value->List Lf->Prop}{xs:List α}{Ls:List (List Lf)}(h:OwnT el ty sz B w v xs Ls)(P:α->Nat->Nat->List Lf->Prop)(oz:∀x c l b a,el w x c l->(∀j u,c[j]?=some u->w.cell? (Ad b (a+j))=some u)->(∀o,w.frozen? (Ad b o)=false)->(∀y∈l,y.b≠b)->dt w l->(l.map λa=>(a.b,a.o)).Nodup→
   ∃L,P x b a L/\(L.map λa=>(a.b,a.o)).Nodup/\dt w L/\∀y∈L,y∈l\/y.b=b/\a<=y.o/\y.o<a+sz):∃A,JI P sz v xs A/\jE B w A:=by
 obtain⟨cs,h1,h2,h3,h4,h5,h6,h7⟩:=h;rcases id h4.2 with⟨rfl,h0⟩|⟨g,cap,cur,rfl,hb,hg,-,-,-,-⟩;{have e0:xs=[]:=r8.1 h0;subst e0;exact⟨[],⟨none,0,[],al,rfl,rfl,.inl rfl⟩,jE.nil _ _⟩};{
 have hfz:∀o,w.frozen? (Ad g o)=false:=λo=>by simp[World.frozen?,hg]
 have key:∀k,k<=xs.length->∃LL:List (List Lf),LL.length=k/\(∀(i:Nat)(x:α)(l:List Lf),i<k->xs[i]?=some x->LL[i]?=some l->P x g (0+i*sz) l)/\(LL.flatten.map λa=>(a.b,a.o)).Nodup/\dt w LL.flatten∧
   ∀y∈LL.flatten,y∈(Ls.take k).flatten\/y.b=g/\y.o<k*sz:=by
  intro k
  induction k with
  |zero=>intro _;exact⟨[],rfl,λi x l hi=>af,al,dt.nil w,λy hy=>by simp at hy⟩
  | succ k ih=>
   intro hk
   let⟨LL,q1,q2,q3,q4,q5⟩:=ih af
   obtain⟨x,hx⟩:∃x,xs[k]?=some x:=⟨_,aY af⟩;obtain⟨c,hc⟩:∃x,cs[k]?=some x:=⟨_,aY af⟩;obtain⟨l,hl⟩:∃x,Ls[k]?=some x:=⟨_,aY af⟩;have Va:∀y∈l,y∈Ls.flatten:=λy hy=>Gu.2 ⟨l,aT hl,hy⟩;have hlen:c.length=sz:=h3 c (aT hc);have bu:(Ls.take (k+1)).flatten=(Ls.take k).flatten++l:=by rw[od,hl];simp
   have yi:(((Ls.take (k+1)).flatten.map λa=>(a.b,a.o))).Nodup:=by
    have:=h6.nd;have e:Ls.flatten=(Ls.take (k+1)).flatten++(Ls.drop (k+1)).flatten:=by rw[<-GG,Dn]
    rw[e,l8,BN]at this;exact this.1
   rw[bu,l8,BN]at yi;obtain⟨n1,n2,n3⟩:=yi
   let⟨L,r1,r2,r3,r4⟩:=oz x c l g (0+k*sz) (h5 k x c l hx hc hl) (λj u hu=>by
    have hj:j<sz:=aI (aV.1 hu).1;have hks:k*sz+sz<=xs.length*sz:=by rw[<-D7];exact GC _ hk
    rw[ly,h4.cellAt (k*sz+j) af,Au h3 hc hj];exact hu) hfz (λy hy e=>h7 y (Va y hy) (by simp[Value.ownBlock,e])) (h6.tf.sub Va) n2
   refine⟨LL++[L],by simp[q1],λi y m hi hy hm=>?_,?_,?_,λy hy=>?_⟩;{
 by_cases hik:i<k;{rw[kR af]at hm;exact q2 i y m hik hy hm};{
 have:i=k:=by omega
 subst this;rw[hx]at hy;cases hy;rw[<-q1]at hm;simp at hm;subst hm;exact r1}};{have e:(LL++[L]).flatten=LL.flatten++L:=al;rw[e,l8,BN];refine⟨q3,r2,λy hy z hz=>?_⟩;obtain⟨a1,m1,rfl⟩:=iR.1 hy;obtain⟨a2,m2,rfl⟩:=iR.1 hz;intro ee;simp only[gy]at ee;rcases q5 a1 m1 with u1|⟨u1,u2⟩;{rcases r4 a2 m2 with v1|⟨v1,v2,v3⟩;{exact n3 (a1.b,a1.o) (QJ u1) (a2.b,a2.o) (QJ v1) (by rw[ee.1,ee.2])};{exact h7 a1 (lZ u1) (by simp[Value.ownBlock,ee.1,v1])}};{rcases r4 a2 m2 with v1|⟨v1,v2,v3⟩;{exact h7 a2 (Va a2 v1) (by simp[Value.ownBlock,<-ee.1,u1])};{omega}}};{have e:(LL++[L]).flatten=LL.flatten++L:=al;rw[e];exact dt.app.2 ⟨q4,r3⟩};{have e:(LL++[L]).flatten=LL.flatten++L:=al;rw[e]at hy;rcases gu.1 hy with hy|hy;{rcases q5 y hy with u1|⟨u1,u2⟩;{exact .inl (by rw[bu];exact Dj _ u1)};{exact .inr ⟨u1,by rw[D7];omega⟩}};{rcases r4 y hy with v1|⟨v1,v2,v3⟩;{exact .inl (by rw[bu];exact Gw _ v1)};{exact .inr ⟨v1,by rw[D7];omega⟩}}}
 let⟨LL,q1,q2,q3,q4,q5⟩:=key xs.length ay
 refine⟨LL.flatten,⟨some (Ad g 0),cap,LL,rfl,q1,rfl,.inr ⟨g,0,rfl,λi x l hx hl=>q2 i x l (aV.1 hx).1 hx hl⟩⟩,q3,λa ha=>?_,q4⟩;rcases q5 a ha with u1|⟨u1,u2⟩;{exact h6.lo a (lZ u1)};{rw[u1];exact hb}}
theorem Gc{c:Nat}(h:w.ownsRow B e 1 (.S p n c) l.length (l.map (Value.int kd))):∃A,JI (LvI kd) 1 (.S p n c) l A/\jE B w A/\A.length=l.length/\∀a∈A,(Value.slice p n c).ownBlock=some a.b:=by
 rcases id h.2 with⟨ee,h0⟩|⟨g,cap,cur,ee,hb,hg,hr⟩;{obtain⟨rfl,rfl,rfl⟩:=ir ee;have e0:=r8.1 h0;subst e0;exact⟨[],⟨none,0,[],rfl,rfl,rfl,.inl rfl⟩,jE.nil _ _,rfl,λa ha=>by simp at ha⟩};{
 obtain⟨rfl,rfl,rfl⟩:=ir ee;refine⟨(List.range l.length).map λi=>⟨g,0+i,kd⟩,⟨some (Ad g 0),c,(List.range l.length).map λi=>[⟨g,0+i,kd⟩],rfl,al,?_,.inr ⟨g,0,rfl,λi x l' hx hl=>?_⟩⟩,⟨?_,λa ha=>?_,λa ha=>?_⟩,al,λa ha=>?_⟩;{
 induction(List.range l.length)with
 |nil=>rfl
 |cons i r ih=>rw[iH,iH,sV,<-ih];rfl}
 {
 let⟨hi,e⟩:=aV.1 hl
 simp at e;rw[<-e,zL,ly]
 rfl}
 {rw[sR,List.Nodup,Ef];exact ak6.imp (λ{i j}ld=>by simpa using ld)};{obtain⟨i,hi,rfl⟩:=iR.1 ha;exact hb};{
 obtain⟨i,hi,rfl⟩:=iR.1 ha;have hi':i<l.length:=by simpa using hi
 refine⟨⟨l[i],?_⟩,by simp[World.frozen?,hg]⟩;have:=Gz h i af;simp only[ly];rw[this];simp[hi']};{
 obtain⟨i,hi,rfl⟩:=iR.1 ha
 rfl}}
def elU(w:World)(x:Int)(c:List Value)(l:List Lf):Prop:=c=[.U x]/\l=[]
def elU.keep(w w':World)(x:Int)(c:List Value)(l:List Lf)(h:elU w x c l)(_:∀a∈l,w'.heap[a.b]?=w.heap[a.b]?):elU w' x c l:=h
def Rd.dw{xs:LI}{A:List Lf}(h:Rd w v xs)(hl:SQ v xs A)(hk:∀a∈A,w'.heap[a.b]?=w.heap[a.b]?):Rd w' v xs:=by
 obtain⟨p,c,rfl,hd⟩:=h;refine⟨p,c,rfl,?_⟩;rcases hd with hd|⟨b,o,rfl,hd⟩;{exact .inl hd};{
 refine .inr ⟨b,o,rfl,λi hi=>?_⟩
 let⟨Ls,en,lL,eA,iM⟩:=hl.at
 obtain⟨b',o',x,l,e1,-,Fb,hP,-,oy⟩:=iM i hi;obtain⟨rfl,rfl⟩:=yz e1;have:w'.heap[b]?=w.heap[b]?:=hk ⟨b,o+i*1,.u8⟩ (oy _ (by rw[show l=_ from hP];simp));exact(aF this _).trans (hd i hi)}
def oK.dw{xs:LI}{A:List Lf}(h:oK w v xs)(hl:ZA v xs A)(hk:∀a∈A,w'.heap[a.b]?=w.heap[a.b]?):oK w' v xs:=by
 obtain⟨p,c,rfl,hd⟩:=h;refine⟨p,c,rfl,?_⟩;rcases hd with hd|⟨b,o,rfl,hd⟩;{exact .inl hd};{
 refine .inr ⟨b,o,rfl,λi hi=>?_⟩
 let⟨Ls,en,lL,eA,iM⟩:=hl.at
 obtain⟨b',o',x,l,e1,-,Fb,hP,-,oy⟩:=iM i hi;obtain⟨rfl,rfl⟩:=yz e1;have:w'.heap[b]?=w.heap[b]?:=hk ⟨b,o+i*1,.u64⟩ (oy _ (by rw[show l=_ from hP];simp));exact(aF this _).trans (hd i hi)}
def Ct(w:World)(x:Ev)(c:List Value)(l:List Lf):Prop:=
 ∃p cc,c=[.I x.1,.S p x.2.length cc]/\Rd w (.S p x.2.length cc) x.2/\nR (.S p x.2.length cc)/\SQ (.S p x.2.length cc) x.2 l
def Ct.keep(w w':World)(x:Ev)(c:List Value)(l:List Lf)(h:Ct w x c l)(hk:∀a∈l,w'.heap[a.b]?=w.heap[a.b]?):Ct w' x c l:=by
 obtain⟨p,cc,h1,h2,h3,h4⟩:=h;exact⟨p,cc,h1,h2.dw h4 hk,h3,h4⟩
def CD.keep{A:List Lf}(h:CD w v xs A)(hk:∀a∈A,w'.heap[a.b]?=w.heap[a.b]?):CD w' v xs A:=by
 refine h.imp λx b a l hx oy hP=>?_;obtain⟨p,c,lb,h1,h2,h3⟩:=hP;refine⟨p,c,lb,h1,?_,h3⟩;have:w'.heap[b]?=w.heap[b]?:=hk ⟨b,a,.i64⟩ (oy _ (by rw[h1];simp));exact(aF this _).trans h2
def qG.dw{A:List Lf}(h:qG w v xs)(hl:CD w v xs A)(hk:∀a∈A,w'.heap[a.b]?=w.heap[a.b]?):qG w' v xs:=by
 obtain⟨p,c,rfl,hd⟩:=h;refine⟨p,c,rfl,?_⟩;rcases hd with hd|⟨b,o,rfl,hd⟩;{exact .inl hd};{
 refine .inr ⟨b,o,rfl,λi e he=>?_⟩
 let⟨Ls,en,lL,eA,iM⟩:=hl.at
 obtain⟨b',o',x,l,e1,hx,Fb,hP,-,oy⟩:=iM i (aV.1 he).1;obtain⟨rfl,rfl⟩:=yz e1;rw[he]at hx;cases hx;obtain⟨q,cc,lb,e2,h2,h3⟩:=hP;have hb:w'.heap[b]?=w.heap[b]?:=hk ⟨b,o+i*2,.i64⟩ (oy _ (by rw[e2];simp))
 let⟨r1,u,r2,r3,r4⟩:=hd i e he
 have:u=.S q e.2.length cc:=by rw[h2]at r2;exact(Ji r2).symm
 subst this;exact⟨(aF hb _).trans r1,_,(aF hb _).trans r2,r3.dw h3 (λa ha=>hk a (oy a (by rw[e2];simp[ha]))),r4⟩}
def jy(w:World)(x:aQ)(c:List Value)(l:List Lf):Prop:=
 ∃p cc,c=[.U x.1,.I x.2.1,.S p x.2.2.length cc]/\qG w (.S p x.2.2.length cc) x.2.2/\CD w (.S p x.2.2.length cc) x.2.2 l
def jy.keep(w w':World)(x:aQ)(c:List Value)(l:List Lf)(h:jy w x c l)(hk:∀a∈l,w'.heap[a.b]?=w.heap[a.b]?):jy w' x c l:=by
 obtain⟨p,cc,h1,h2,h3⟩:=h;exact⟨p,cc,h1,h2.dw h3 hk,CD.keep h3 hk⟩
def iA(w:World)(x:aD)(c:List Value)(l:List Lf):Prop:=
 ∃p0 c0 p1 c1 p4 c4 p7 c7 l0 l1 l4 l7,l=l0++(l1++(l4++l7))/\c=[.S p0 x.path.length c0,.S p1 x.value.length c1,.U x.owner,.I x.mode,.S p4 x.holders.length c4,.U x.aE,.U x.gen,.S p7 x.watchers.length c7]∧
  (Rd w (.S p0 x.path.length c0) x.path/\nR (.S p0 x.path.length c0)/\SQ (.S p0 x.path.length c0) x.path l0)/\(Rd w (.S p1 x.value.length c1) x.value/\SQ (.S p1 x.value.length c1) x.value l1)∧
  (oK w (.S p4 x.holders.length c4) x.holders/\ZA (.S p4 x.holders.length c4) x.holders l4)/\(oK w (.S p7 x.watchers.length c7) x.watchers/\ZA (.S p7 x.watchers.length c7) x.watchers l7)
def iA.keep(w w':World)(x:aD)(c:List Value)(l:List Lf)(h:iA w x c l)(hk:∀a∈l,w'.heap[a.b]?=w.heap[a.b]?):iA w' x c l:=by
 obtain⟨p0,c0,p1,c1,p4,c4,p7,c7,l0,l1,l4,l7,rfl,h2,⟨h3,h4,h5⟩,⟨h6,h7⟩,⟨h8,h9⟩,⟨h10,h11⟩⟩:=h;exact⟨p0,c0,p1,c1,p4,c4,p7,c7,l0,l1,l4,l7,rfl,h2,⟨h3.dw h5 (λa ha=>hk a (by simp[ha])),h4,h5⟩,⟨h6.dw h7 (λa ha=>hk a (by simp[ha])),h7⟩,⟨h8.dw h9 (λa ha=>hk a (by simp[ha])),h9⟩,⟨h10.dw h11 (λa ha=>hk a (by simp[ha])),h11⟩⟩
def OwnT.read{α:Type}{el:World->α->List Value->List Lf->Prop}{xs:List α}{Ls:List (List Lf)}(h:OwnT el ty sz B w v xs Ls):∃p cap,v=.S p xs.length cap/\(xs=[]\/∃g,p=some (Ad g 0)/\∀(i:Nat)(x:α),xs[i]?=some x->∃c l,el w x c l/\∀(j:Nat)(u:Value),c[j]?=some u->w.cell? (Ad g (0+i*sz+j))=some u):=by
 obtain⟨cs,h1,h2,h3,h4,h5,h6,h7⟩:=h;rcases id h4.2 with⟨rfl,h0⟩|⟨g,cap,cur,rfl,hb,hg,-,-,-,-⟩;{exact⟨none,0,by rw[h0],.inl (r8.1 h0)⟩};{
 refine⟨_,cap,rfl,.inr ⟨g,rfl,λi x hx=>?_⟩⟩;have hi:=(aV.1 hx).1;obtain⟨c,hc⟩:∃x,cs[i]?=some x:=⟨_,aY af⟩;obtain⟨l,hl⟩:∃x,Ls[i]?=some x:=⟨_,aY af⟩;refine⟨c,l,h5 i x c l hx hc hl,λj u hu=>?_⟩;have hlen:c.length=sz:=h3 c (aT hc);have hj:j<sz:=aI (aV.1 hu).1;have hks:i*sz+sz<=xs.length*sz:=by rw[<-D7];exact GC _ hi
 rw[ly,h4.cellAt (i*sz+j) af,Au h3 hc hj];exact hu}
def OwnT.ev{Ls:List (List Lf)}(h:OwnT Ct 189 2 B w v es Ls):qG w v es/\∃A,CD w v es A/\jE B w A:=by
 refine⟨?_,h.lv (Et w) λx c l b a oz hc hf bS jq bu=>?_⟩;{obtain⟨p,cap,rfl,hd⟩:=h.read;refine⟨p,cap,rfl,?_⟩;rcases hd with hd|⟨g,rfl,hd⟩;{exact .inl hd};{refine .inr ⟨g,0,rfl,λi e he=>?_⟩;obtain⟨c,l,⟨p',cc,rfl,h2,h3,h4⟩,cT⟩:=hd i e he;exact⟨cT 0 _ rfl,_,cT 1 _ rfl,h2,h3⟩}};{
 obtain⟨p',cc,rfl,h2,h3,h4⟩:=oz;refine⟨⟨b,a,.i64⟩::l,⟨p',cc,l,rfl,hc 1 _ rfl,h4⟩,?_,?_,λy hy=>?_⟩;{
 rw[iH,zG];refine⟨λhm=>?_,bu⟩
 let⟨y,hy,e⟩:=iR.1 hm
 simp only[gy]at e;exact bS y hy e.1};{intro y hy;rcases jv.1 hy with rfl|hy;{exact⟨⟨_,hc 0 _ rfl⟩,hf _⟩};{exact jq y hy}};{rcases jv.1 hy with rfl|hy;{exact .inr ⟨rfl,al,al⟩};{exact .inl hy}}}
variable {es:List aQ}
def OwnT.se{Ls:List (List Lf)}(h:OwnT jy 132 3 B w v es Ls):kr w v es/\∃A,uj w v es A/\jE B w A:=by
 refine⟨?_,h.lv (Cz w) λx c l b a oz hc hf bS jq bu=>?_⟩;{obtain⟨p,cap,rfl,hd⟩:=h.read;refine⟨p,cap,rfl,?_⟩;rcases hd with hd|⟨g,rfl,hd⟩;{exact .inl hd};{refine .inr ⟨g,0,rfl,λi e he=>?_⟩;obtain⟨c,l,⟨p',cc,rfl,h2,h3⟩,cT⟩:=hd i e he;exact⟨cT 0 _ rfl,cT 1 _ rfl,_,cT 2 _ rfl,h2⟩}};{
 obtain⟨p',cc,rfl,h2,h3⟩:=oz;refine⟨⟨b,a,.u64⟩::⟨b,a+1,.i64⟩::l,⟨p',cc,l,rfl,hc 2 _ rfl,h3⟩,?_,?_,λy hy=>?_⟩;{
 rw[iH,zG,iH,zG];refine⟨λhm=>?_,λhm=>?_,bu⟩;{
 rcases jv.1 hm with e|hm;{simp at e};{
 let⟨y,hy,e⟩:=iR.1 hm
 simp only[gy]at e;exact bS y hy e.1}};{
 let⟨y,hy,e⟩:=iR.1 hm
 simp only[gy]at e;exact bS y hy e.1}};{intro y hy;rcases jv.1 hy with rfl|hy;{exact⟨⟨_,hc 0 _ rfl⟩,hf _⟩};{rcases jv.1 hy with rfl|hy;{exact⟨⟨_,hc 1 _ rfl⟩,hf _⟩};{exact jq y hy}}};{rcases jv.1 hy with rfl|hy;{exact .inr ⟨rfl,al,al⟩};{rcases jv.1 hy with rfl|hy;{exact .inr ⟨rfl,al,al⟩};{exact .inl hy}}}}
def Kd{A A':List Lf}(ld:i≠j)(h:((A++A').map λa=>(a.b,a.o)).Nodup)(bS:∀y∈A++A',y.b≠b\/(y.o≠a+i/\y.o≠a+j)):((A++(⟨b,a+i,k1⟩::⟨b,a+j,k2⟩::A')).map λa=>(a.b,a.o)).Nodup:=by
 rw[l8,BN]at h⊢;obtain⟨n1,n2,n3⟩:=h;refine⟨n1,?_,λx hx y hy=>?_⟩;{
 rw[iH,zG,iH,zG];refine⟨λhm=>?_,λhm=>?_,n2⟩;{
 rcases jv.1 hm with e|hm;{simp at e;exact ld e};{
 let⟨y,hy,e⟩:=iR.1 hm
 simp only[gy]at e;rcases bS y (by simp[hy])with h|h;{exact h e.1};{exact h.1 e.2}}};{
 let⟨y,hy,e⟩:=iR.1 hm
 simp only[gy]at e;rcases bS y (by simp[hy])with h|h;{exact h e.1};{exact h.2 e.2}}};{obtain⟨z,hz,rfl⟩:=iR.1 hx;have Ol:=bS z (by simp[hz]);rw[iH,iH]at hy;rcases jv.1 hy with rfl|hy;{intro e;simp only[gy]at e;rcases Ol with h|h;{exact h e.1};{exact h.1 e.2}};{rcases jv.1 hy with rfl|hy;{intro e;simp only[gy]at e;rcases Ol with h|h;{exact h e.1};{exact h.2 e.2}};{exact n3 _ (QJ hz) _ hy}}}
def OwnT.no{es:List aD}{Ls:List (List Lf)}(h:OwnT iA 133 8 B w v es Ls):lM w v es/\∃A,vQ w v es A/\jE B w A:=by
 refine⟨?_,h.lv (Es w) λx c l b a oz hc hf bS jq bu=>?_⟩;{obtain⟨p,cap,rfl,hd⟩:=h.read;refine⟨p,cap,rfl,?_⟩;rcases hd with hd|⟨g,rfl,hd⟩;{exact .inl hd};{refine .inr ⟨g,0,rfl,λi e he=>?_⟩;obtain⟨c,l,⟨p0,c0,p1,c1,p4,c4,p7,c7,l0,l1,l4,l7,-,rfl,⟨h3,h4,h5⟩,⟨h6,h7⟩,⟨h8,h9⟩,⟨h10,h11⟩⟩,cT⟩:=hd i e he;exact⟨_,_,_,_,⟨cT 0 _ rfl,cT 1 _ rfl,cT 2 _ rfl,cT 3 _ rfl,cT 4 _ rfl,cT 5 _ rfl,cT 6 _ rfl,cT 7 _ rfl,h3,h6,h8,h10,h4⟩⟩}};{
 obtain⟨p0,c0,p1,c1,p4,c4,p7,c7,l0,l1,l4,l7,rfl,rfl,⟨h3,h4,h5⟩,⟨h6,h7⟩,⟨h8,h9⟩,⟨h10,h11⟩⟩:=oz;refine⟨l0++(l1++(⟨b,a+2,.u64⟩::⟨b,a+3,.i64⟩::(l4++(⟨b,a+5,.u64⟩::⟨b,a+6,.u64⟩::l7)))),
  ⟨p0,c0,p1,c1,p4,c4,p7,c7,l0,l1,l4,l7,rfl,⟨hc 0 _ rfl,h5⟩,⟨hc 1 _ rfl,h7⟩,⟨hc 4 _ rfl,h9⟩,⟨hc 7 _ rfl,h11⟩⟩,?_,?_,λy hy=>?_⟩
 {
 have s1:(((l0++(l1++l4))++(⟨b,a+5,.u64⟩::⟨b,a+6,.u64⟩::l7)).map λa=>(a.b,a.o)).Nodup:=Kd bj (by simpa using bu) (λy hy=>.inl (bS y (by simpa using hy)));have s2:=Kd (A:=l0++l1) (A':=l4++(⟨b,a+5,.u64⟩::⟨b,a+6,.u64⟩::l7)) (b:=b) (a:=a) (k1:=.u64) (k2:=.i64) (i:=2) (j:=3) bj (by simpa using s1) (λy hy=>by simp only[gu,jv]at hy;rcases hy with(hy|hy)|hy|rfl|rfl|hy;{exact .inl (bS y (by simp[hy]))};{exact .inl (bS y (by simp[hy]))};{exact .inl (bS y (by simp[hy]))};{exact .inr al};{exact .inr al};{exact .inl (bS y (by simp[hy]))})
 simpa using s2};{intro y hy;simp only[gu,jv]at hy;rcases hy with hy|hy|rfl|rfl|hy|rfl|rfl|hy;{exact jq y (by simp[hy])};{exact jq y (by simp[hy])};{exact⟨⟨_,hc 2 _ rfl⟩,hf _⟩};{exact⟨⟨_,hc 3 _ rfl⟩,hf _⟩};{exact jq y (by simp[hy])};{exact⟨⟨_,hc 5 _ rfl⟩,hf _⟩};{exact⟨⟨_,hc 6 _ rfl⟩,hf _⟩};{exact jq y (by simp[hy])}};{simp only[gu,jv]at hy;rcases hy with hy|hy|rfl|rfl|hy|rfl|rfl|hy;{exact .inl (by simp[hy])};{exact .inl (by simp[hy])};{exact .inr ⟨rfl,al,al⟩};{exact .inr ⟨rfl,al,al⟩};{exact .inl (by simp[hy])};{exact .inr ⟨rfl,al,al⟩};{exact .inr ⟨rfl,al,al⟩};{exact .inl (by simp[hy])}}}
variable {xs:List aQ}
def uj.keep{A:List Lf}(h:uj w v xs A)(hk:∀a∈A,w'.heap[a.b]?=w.heap[a.b]?):uj w' v xs A:=by
 refine h.imp λx b a l hx oy hP=>?_;obtain⟨p,c,lb,h1,h2,h3⟩:=hP;refine⟨p,c,lb,h1,?_,CD.keep h3 (λy hy=>hk y (oy y (by rw[h1];simp[hy])))⟩;have:w'.heap[b]?=w.heap[b]?:=hk ⟨b,a,.u64⟩ (oy _ (by rw[h1];simp));exact(aF this _).trans h2
def vQ.keep{xs:List aD}{A:List Lf}(h:vQ w v xs A)(hk:∀a∈A,w'.heap[a.b]?=w.heap[a.b]?):vQ w' v xs A:=by
 refine h.imp λx b a l hx oy hP=>?_;obtain⟨p0,c0,p1,c1,p4,c4,p7,c7,l0,l1,l4,l7,h1,⟨h2,h3⟩,⟨h4,h5⟩,⟨h6,h7⟩,⟨h8,h9⟩⟩:=hP;have:w'.heap[b]?=w.heap[b]?:=hk ⟨b,a+2,.u64⟩ (oy _ (by rw[h1];simp));have hc:=aF this;exact⟨p0,c0,p1,c1,p4,c4,p7,c7,l0,l1,l4,l7,h1,⟨(hc _).trans h2,h3⟩,⟨(hc _).trans h4,h5⟩,⟨(hc _).trans h6,h7⟩,⟨(hc _).trans h8,h9⟩⟩
def kr.dw{A:List Lf}(h:kr w v xs)(hl:uj w v xs A)(hk:∀a∈A,w'.heap[a.b]?=w.heap[a.b]?):kr w' v xs:=by
 obtain⟨p,c,rfl,hd⟩:=h;refine⟨p,c,rfl,?_⟩;rcases hd with hd|⟨b,o,rfl,hd⟩;{exact .inl hd};{
 refine .inr ⟨b,o,rfl,λi e he=>?_⟩
 let⟨Ls,en,lL,eA,iM⟩:=hl.at
 obtain⟨b',o',x,l,e1,hx,Fb,hP,-,oy⟩:=iM i (aV.1 he).1;obtain⟨rfl,rfl⟩:=yz e1;rw[he]at hx;cases hx;obtain⟨q,cc,lb,e2,h2,h3⟩:=hP;have hb:w'.heap[b]?=w.heap[b]?:=hk ⟨b,o+i*3,.u64⟩ (oy _ (by rw[e2];simp))
 let⟨r1,r1',u,r2,r3⟩:=hd i e he
 have:u=.S q e.2.2.length cc:=by rw[h2]at r2;exact(Ji r2).symm
 subst this;exact⟨(aF hb _).trans r1,(aF hb _).trans r1',_,(aF hb _).trans r2,r3.dw h3 (λa ha=>hk a (oy a (by rw[e2];simp[ha])))⟩}
variable {xs:List aD}
def lM.dw{A:List Lf}(h:lM w v xs)(hl:vQ w v xs A)(hk:∀a∈A,w'.heap[a.b]?=w.heap[a.b]?):lM w' v xs:=by
 obtain⟨p,c,rfl,hd⟩:=h;refine⟨p,c,rfl,?_⟩;rcases hd with hd|⟨b,o,rfl,hd⟩;{exact .inl hd};{
 refine .inr ⟨b,o,rfl,λi e he=>?_⟩
 let⟨Ls,en,lL,eA,iM⟩:=hl.at
 obtain⟨b',o',x,l,e1,hx,Fb,hP,-,oy⟩:=iM i (aV.1 he).1;obtain⟨rfl,rfl⟩:=yz e1;rw[he]at hx;cases hx;obtain⟨p0,c0,p1,c1,p4,c4,p7,c7,l0,l1,l4,l7,e2,⟨h2,h3⟩,⟨h4,h5⟩,⟨h6,h7⟩,⟨h8,h9⟩⟩:=hP;have hb:w'.heap[b]?=w.heap[b]?:=hk ⟨b,o+i*8+2,.u64⟩ (oy _ (by rw[e2];simp));have hc:=aF hb
 let⟨P,V,H,U,na⟩:=hd i e he
 have q0:P=_:=Ji (na.c0.symm.trans h2);have q1:V=_:=Ji (na.c1.symm.trans h4);have q4:H=_:=Ji (na.c4.symm.trans h6);have q7:U=_:=Ji (na.c7.symm.trans h8);subst q0 q1 q4 q7;have hs:∀y,(y∈l0\/y∈l1\/y∈l4\/y∈l7)->w'.heap[y.b]?=w.heap[y.b]?:=λy hy=>hk y (oy y (by rw[e2];rcases hy with hy|hy|hy|hy<;>simp[hy]));exact⟨_,_,_,_,⟨(hc _).trans na.c0,(hc _).trans na.c1,(hc _).trans na.c2,(hc _).trans na.c3,(hc _).trans na.c4,(hc _).trans na.c5,(hc _).trans na.c6,(hc _).trans na.c7,
  na.r0.dw h3 (λa ha=>hs a (.inl ha)),na.r1.dw h5 (λa ha=>hs a (.inr (.inl ha))),na.r4.dw h7 (λa ha=>hs a (.inr (.inr (.inl ha)))),na.r7.dw h9 (λa ha=>hs a (.inr (.inr (.inr ha)))),na.k0⟩⟩}
def fK(ls:List LI)(k:Nat)(ek:Hid (k=ls.length))(e:Hid (lm=cat ls))(en:Le lm n)(h:lh w g vs ls)(hl:n<=4194304)(hk:k<=10):Calls prog 98 #[.T g k k] w λe w'=>∃p' c',e=.returned (.S p' n c')/\Own w.heap.size w' (.S p' n c') lm/\Bw w w':=by
 have e1:=ae ek;have e2:=ae e;have e3:=ae en;subst e1 e3 e2
 go_in
 go_wp2_with fail;refine(yw h hl af).mono ?_;rintro e w1⟨p1,c1,rfl,o1,aG⟩;go_wp2;go_ret;exact⟨p1,c1,rfl,o1,aG⟩
theorem ag4(c0:w.cell? (Ad g 0)=some v0)(c1:w.cell? (Ad g 1)=some v1)(r0:Rd w v0 l0)(r1:Rd w v1 l1):lh w g [v0,v1] [l0,l1]:=by
 refine⟨rfl,λj v x e1 e2=>?_⟩
 match j,e1,e2 with
 |0,e1,e2=>simp at e1 e2;subst e1 e2;exact⟨c0,r0⟩
 |1,e1,e2=>simp at e1 e2;subst e1 e2;exact⟨c1,r1⟩
theorem ag3{v3 v4:Value}{l3 l4:LI}(c0:w.cell? (Ad g 0)=some v0)(c1:w.cell? (Ad g 1)=some v1)(c2:w.cell? (Ad g 2)=some v2)(c3:w.cell? (Ad g 3)=some v3)(c4:w.cell? (Ad g 4)=some v4)(r0:Rd w v0 l0)(r1:Rd w v1 l1)(r2:Rd w v2 l2)(r3:Rd w v3 l3)(r4:Rd w v4 l4):lh w g [v0,v1,v2,v3,v4] [l0,l1,l2,l3,l4]:=by
 refine⟨rfl,λj v x e1 e2=>?_⟩
 match j,e1,e2 with
 |0,e1,e2=>simp at e1 e2;subst e1 e2;exact⟨c0,r0⟩
 |1,e1,e2=>simp at e1 e2;subst e1 e2;exact⟨c1,r1⟩
 |2,e1,e2=>simp at e1 e2;subst e1 e2;exact⟨c2,r2⟩
 |3,e1,e2=>simp at e1 e2;subst e1 e2;exact⟨c3,r3⟩
 |4,e1,e2=>simp at e1 e2;subst e1 e2;exact⟨c4,r4⟩
def cO9(a b:LI):cat [a,b]=a++b:=by simp[cat]
def cO6(a b c d e:LI):cat [a,b,c,d,e]=a++(b++(c++(d++e))):=by simp[cat]
def tx(l:LI):LI:=vi l.length++l
def uy(l:LI):l.length+1<=(tx l).length/\(tx l).length<=l.length+10:=by
 have:=fg l.length;rw[tx,gU];omega
def ta{c:Nat}(en:Le l n)(h:Rd w (.S p n c) l)(hl:Mg n)(eN:Hid ((tx l).length=N)):Calls prog 78 #[.S p n c] w λe w'=>∃p' c',e=.returned (.S p' N c')/\Own w.heap.size w' (.S p' N c') (tx l)/\Bw w w':=by
 let⟨M,eM⟩:=aL ((vi n).length)
 have hM:=fg n;rw[eM]at hM;have EM:=ag eM;clear eM;have hN:M+n=N:=by rw[<-ae eN,tx,gU,ae en,ae EM]
 have wn:IntKind.u64.wrap (n:Int)=(n:Int):=by rw[mK];omega
 have EE:Hid (tx l=vi n++l):=by show _=_;rw[tx,ae en]
 go_in
 go_wp2_with fail;refine(Cf 9 n _ af af af M EM).mono ?_;rintro e w1⟨p1,c1,rfl,o1,b1⟩;have r1:=h.below b1;have z1:=b1.size;have o1':Own w.heap.size w1 (.S p1 M c1) (vi n):=o1;clear o1 h;go_wp2_with(at_builtin;refine bQ rfl rfl (.S p1 M c1) EE p c n en rfl rfl o1' r1 (by rw[ae EM,ae en];omega) af ?_);intro p2 c2 w2 o2 gI;have b2:=dA b1 gI o1' ay af;rw[ae eN]at o2⊢;clear gI o1' r1 b1;go_wp2;go_ret;exact⟨p2,c2,rfl,o2,b2⟩
def mn{c:Nat}(en:Le l n)(h:Rd w (.S p n c) l)(hl:Mg n)(eN:Hid ((tx l).length=N)):Calls prog 167 #[.S p n c] w λe w'=>∃p' c',e=.returned (.S p' N c')/\Own w.heap.size w' (.S p' N c') (tx l)/\Bw w w':=by
 let⟨M,eM⟩:=aL ((vi n).length)
 have hM:=fg n;rw[eM]at hM;have EM:=ag eM;clear eM;have hN:M+n=N:=by rw[<-ae eN,tx,gU,ae en,ae EM]
 have wn:IntKind.u64.wrap (n:Int)=(n:Int):=by rw[mK];omega
 have EE:Hid (tx l=cat [vi n,l]):=by show _=_;rw[cO9,tx,ae en]
 go_in
 go_wp2_with fail;refine(lQ af).mono ?_;rintro e w1⟨p1,c1,rfl,o1,b1⟩;rw[ae EM]at o1⊢;have r1:=h.below b1;have z1:=b1.size;have rv:=o1.rd;clear o1 h;go_wp2_with fail;refine(fK (g:=w1.heap.size) (vs:=[.S p1 M c1,.S p n c]) [vi n,l] (lm:=tx l) (n:=N) 2 rfl EE eN (ag4 al al (rv.below (aA.alloc ay _)) (r1.below (aA.alloc ay _))) af af).mono ?_;rintro e w2⟨p2,c2,rfl,o2,aK⟩;have b2:Bw w w2:=aj (aj b1 (aA.alloc ay _)) aK;have o3:Own w.heap.size w2 (.S p2 N c2) (tx l):=Own.mono o2 bq;clear o2 aK r1 rv b1;go_wp2;go_ret;exact⟨p2,c2,rfl,o3,b2⟩
namespace Q
open Go.Sort
structure ZG(w:World)(g:Nat)(S:Int):Prop where
 cell:w.cell? (Ad g 0)=some (.I S)
 fr:w.frozen? (Ad g 0)=false
def ZG.drew(h:ZG w g S):ZG w.drew g S:=⟨h.cell,h.fr⟩
def ZG.set{S T:Int}(h:ZG w g S):ZG (w.setCell (Ad g 0) (.I T)) g T:=
 ⟨GX _ _ _ h.cell,by rw[Ee];exact h.fr⟩
def HU.aside{blk off g o:Nat}(h:HU w blk off d)(bS:g≠blk):HU (w.setCell (Ad g o) v) blk off d:=
 h.kept (ga _ _ _ _ (λe=>bS (by simpa using e.symm)))
theorem xO{blk off cap N g x y:Nat}(hN:Hid (d.size=N))(h:HU w blk off d)(hx:x<N)(hy:y<N)(jl:N<=1048576)(hg:g≠blk)(hc:ZG w g S)(hS:0<=S)(Vn:S<=1000):Calls prog 295 #[.S (some (Ad blk off)) N cap,.I x,.I y,.pointer (some (Ad g 0))] w λe w'=>
   ∃(x' y':Nat)(S':Int),e=.returned (.tuple #[.I x',.I y'])/\((x'=x/\y'=y)\/(x'=y/\y'=x))/\S<=S'/\S'<=S+1/\ZG w' g S'/\HU w' blk off d/\w.grownBy w' (some g):=by
 have Ao:=ae hN;obtain⟨cx,-⟩:=h x af;obtain⟨cy,-⟩:=h y af
 let⟨u,eu⟩:=aL d[x]!
 let⟨v,ev⟩:=aL d[y]!
 rw[eu]at cx;rw[ev]at cy;have k1:=aU x N;have k2:=aU y N
 let⟨B,eB⟩:=aL (ltInt v u)
 have EB:=ag eB;have K0:=ag (ai cx cy);have H0:=ag h;have C0:=ag hc;have Fc:=hc.cell;have ua:=hc.fr
 go_in
 go_wp2_with fail
 go_cut[18](λrv wc=>rv=.bool B/\wc=w.drew)
 case first=>(
 refine du (λw'=>w'.cell? (Ad blk (off+x))=some (.U u)/\w'.cell? (Ad blk (off+y))=some (.U v)) (by exact K0) λhS=>?_;refine mj 0 1 2 3 4 5 6 7 hS ?_;refine ry [8] ?_;refine cn (λKK hK=>?_) ?_;{refine dh aJ aJ aJ aJ (λ_=>fQ) (fO) ?_;rintro r' w2⟨rfl,rfl⟩;refine⟨_,rfl,?_⟩;rw[ae EB];refine fh hK (by exact K0) λhS=>?_;refine cY ?_;go_wp2_with fail;go_meet;exact⟨rfl,rfl⟩};exact eh)
 obtain⟨rfl,rfl⟩:=hcut;cases B with
 |true=>
  go_wp2
  go_ret2
  exact⟨y,x,S+1,rfl,.inr ⟨rfl,rfl⟩,af,af,C0.drew.set,(H0.drew).aside hg,aX (az (qQ)) (aH _ g 0 _)⟩
 |false=>
  go_wp2
  go_ret2
  exact⟨x,y,S,rfl,.inl ⟨rfl,rfl⟩,af,af,C0.drew,H0.drew,az (qQ)⟩
def xR{blk off cap N g x y z:Nat}(hN:Hid (d.size=N))(h:HU w blk off d)(hx:x<N)(hy:y<N)(hz:z<N)(jl:N<=1048576)(hg:g≠blk)(hc:ZG w g S)(hS:0<=S)(Vn:S<=900):Calls prog 283 #[.S (some (Ad blk off)) N cap,.I x,.I y,.I z,.pointer (some (Ad g 0))] w λe w'=>
   ∃(m:Nat)(S':Int),e=.returned (.I m)/\(m=x\/m=y\/m=z)/\S<=S'/\S'<=S+3/\ZG w' g S'/\HU w' blk off d/\w.grownBy w' (some g):=by
 have H0:=ag h;have C0:=ag hc
 go_in
 go_wp2_with fail;refine(xO hN H0 hx hy jl hg C0 hS af).mono ?_;rintro e w1⟨x1,y1,S1,rfl,hxy,s1,s2,jt,Ck,gp⟩;have C1:=ag jt;have H1:=ag Ck;have G1:=ag gp;have XY:=ag hxy;have x1N:x1<N:=af;have y1N:y1<N:=af;go_wp2_with fail;refine(xO hN H1 y1N hz jl hg C1 af af).mono ?_;rintro e w2⟨y2,z2,S2,rfl,hyz,s3,s4,ku,Fe,gI⟩;have C2:=ag ku;have H2:=ag Fe;have G2:=ag gI;have YZ:=ag hyz;have y2N:y2<N:=af;go_wp2_with fail;refine(xO hN H2 x1N y2N jl hg C2 af af).mono ?_;rintro e w3⟨x3,y3,S3,rfl,cv5,s5,s6,Jw,Nj,An⟩;have C3:=ag Jw;have H3:=ag Nj;have G3:=ag An;have XY3:=ag cv5;go_wp2;go_ret;exact⟨y3,S3,rfl,by have:=ae XY;have:=ae YZ;have:=ae XY3;omega,af,af,C3,H3,aX G1 (aX G2 G3)⟩
def ri{blk off cap N g x:Nat}(hN:Hid (d.size=N))(h:HU w blk off d)(hx:1<=x)(YI:x+1<N)(jl:N<=1048576)(hg:g≠blk)(hc:ZG w g S)(hS:0<=S)(Vn:S<=900):Calls prog 282 #[.S (some (Ad blk off)) N cap,.I x,.pointer (some (Ad g 0))] w λe w'=>
   ∃(m:Nat)(S':Int),e=.returned (.I m)/\x<=m+1/\m<=x+1/\S<=S'/\S'<=S+3/\ZG w' g S'/\HU w' blk off d/\w.grownBy w' (some g):=by
 have H0:=ag h;have C0:=ag hc;obtain⟨m,em⟩:∃m:Nat,(x:Int)-1=(m:Int):=⟨x-1,af⟩;obtain⟨n,en⟩:∃n:Nat,(x:Int)+1=(n:Int):=⟨x+1,af⟩;have wm:=e8 m;have wn:=e8 n;have mN:m<N:=af;have nN:n<N:=af;have xN:x<N:=af
 go_in
 go_wp2_with fail;refine(xR hN H0 mN xN nN jl hg C0 hS Vn).mono ?_;rintro e w1⟨r,S1,rfl,hr,s1,s2,jt,Ck,gp⟩;have C1:=ag jt;have H1:=ag Ck;have G1:=ag gp;have HR:=ag hr;go_wp2;go_ret;exact⟨r,S1,rfl,aI (ae HR),aI (ae HR),s1,s2,C1,H1,G1⟩
end Q
namespace Q
open Go.Sort
def ve{o:Obj}:w.grownBy (w.alloc o) row:=Qx w o row
def Cm(h:w.grownBy w1 row)(k:w1.grownBy w2 (some g))(hg:w.heap.size<=g):w.grownBy w2 row:=
 ⟨k.os.trans h.os,k.tape.trans h.tape,k.output.trans h.output,fu h.size k.size,λi hi bS=>(k.block i (iq hi h.size) (λe=>by
  have:i=g:=by simpa using e
  omega)).trans (h.block i hi bS)⟩
def HU.alloc{blk off:Nat}(h:HU w blk off d)(hb:blk<w.heap.size)(o:Obj):HU (w.alloc o) blk off d:=
 h.kept (RowKit.Below.heap_alloc w o blk hb)
def Yn{blk off cap N a b:Nat}(hN:Hid (d.size=N))(h:HU w blk off d)(jr:blk<w.heap.size)(Tq:a+8<=b)(hb:b<=N)(jl:N<=1048576):Calls prog 257 #[.S (some (Ad blk off)) N cap,.I a,.I b] w λe w'=>
   ∃(p:Nat)(t:Int),e=.returned (.tuple #[.I p,.I t])/\a<=p/\p<b/\HU w' blk off d/\w.grownBy w' (some blk):=by
 obtain⟨L,eL⟩:∃x:Nat,(b:Int)-(a:Int)=(x:Int):=⟨b-a,af⟩;have wL:=e8 L
 let⟨Q,eQ⟩:=aL (L / 4)
 have eQ1:Int.tdiv (L:Int) 4=(Q:Int):=eQ▸(ak2 L 4).symm;have eQ2:(L:Int) / 4=(Q:Int):=af;have wQ:=e8 Q;have wQ2:IntKind.i64.wrap ((Q:Int)*2)=(Q:Int)*2:=kU _ af;have wQ3:IntKind.i64.wrap ((Q:Int)*3)=(Q:Int)*3:=kU _ af;obtain⟨I,eI⟩:∃x:Nat,(a:Int)+(Q:Int)=(x:Int):=⟨a+Q,af⟩;obtain⟨J,eJ⟩:∃x:Nat,(a:Int)+(Q:Int)*2=(x:Int):=⟨a+Q*2,af⟩;obtain⟨K,eK⟩:∃x:Nat,(a:Int)+(Q:Int)*3=(x:Int):=⟨a+Q*3,af⟩;have wI:=e8 I;have wJ:=e8 J;have wK:=e8 K;have bI:a+2<=I/\I+6<=b:=af;have bJ:a+2<=J/\J+2<b:=af;have bK:a+2<=K/\K+1<b:=af;have h8:=dC 8 L;have hg:w.heap.size≠blk:=af;have H0:=ag (h.alloc jr (.cells #[.I 0] 3));have C0:Hid (ZG (w.alloc (.cells #[.I 0] 3)) w.heap.size 0):=⟨al,al⟩;have HL:=ag (ai eQ Tq)
 go_in
 by_cases h50:(50:Int)<=(L:Int);{
 go_wp2_with fail;refine(ri hN H0 af af jl hg C0 af af).mono ?_;rintro e w1⟨i1,S1,rfl,p1,p2,s1,s2,jt,Ck,gp⟩;have C1:=ag jt;have H1:=ag Ck;have G1:=ag gp;go_wp2_with fail;refine(ri hN H1 af af jl hg C1 af af).mono ?_;rintro e w2⟨j1,S2,rfl,p3,p4,s3,s4,ku,Fe,gI⟩;have C2:=ag ku;have H2:=ag Fe;have G2:=ag gI;go_wp2_with fail;refine(ri hN H2 af af jl hg C2 af af).mono ?_;rintro e w3⟨k1,S3,rfl,p5,p6,s5,s6,Jw,Nj,An⟩;have C3:=ag Jw;have H3:=ag Nj;have G3:=ag An;go_wp2_with fail;refine(xR hN H3 af af af jl hg C3 af af).mono ?_;rintro e w4⟨m,S4,rfl,hm,s7,s8,Ou,Ry,uX⟩;have H4:=ag Ry;have G4:=ag (Cm (ve (w:=w) (row:=some blk)) (aX G1 (aX G2 (aX G3 uX))) ay);have B4:a<=m/\m<b:=af;have HB:=ag B4;have Fc:=Ou.cell;go_wp2
 all_goals
  go_ret2
  exact⟨m,_,rfl,HB.1,HB.2,H4,G4⟩};{
 go_wp2_with fail;refine(xR hN H0 af af af jl hg C0 af af).mono ?_;rintro e w4⟨m,S4,rfl,hm,s7,s8,Ou,Ry,uX⟩;have H4:=ag Ry;have G4:=ag (Cm (ve (w:=w) (row:=some blk)) uX ay);have B4:a<=m/\m<b:=af;have HB:=ag B4;have Fc:=Ou.cell;go_wp2
 all_goals
  go_ret2
  exact⟨m,_,rfl,HB.1,HB.2,H4,G4⟩}
end Q
namespace Q
open Go.Sort
theorem UD:∀x:Nat,0<x->x<2 ^ 64->2 ^ (Lib.bitLen x)<=2*x:=by
 intro x
 induction x using Nat.strongRecOn with
 |_ x ih=>
  intro h0 h;rw[Lib.bitLen_half x af h,al8,QM];by_cases h1:x=1;{subst h1;decide};{have:=ih (x / 2) af af af;omega}
def bc7(h:i<Lib.len8tab.size):(Lib.len8tab[i]).toNat=Lib.bitLen i/\Lib.bitLen i<=8:=by
 have h':=h;rw[Lib.len8tab_size]at h';have h2:=Lib.len8_of (i:Int) af af;have h3:=Lib.bitLen_le8' (i:Int) af af;simp only[Lib.len8,sS,ByteArray.getElem?_lt' _ _ h,sa]at h2 h3;omega
def LK{i:Int}(e:i.toNat=m)(h:i.toNat<Lib.len8tab.size):((Lib.len8tab[i.toNat]).toNat:Int)=(Lib.bitLen m:Int)/\Lib.bitLen m<=8:=by
 subst e;have:=bc7 h;omega
def Yz(hn:Mg n):Calls prog 264 #[.U n] w λe w'=>e=.returned (.I (Lib.bitLen n))/\w'=w:=by
 obtain⟨x,ex⟩:∃x:Int,(n:Int)=x:=⟨_,rfl⟩;have hx0:0<=x:=af;have hx1:x<=1048576:=af;rw[ex];have EX:=ag (ai ex hn);clear ex hn
 go_in
 go_wp2
 all_goals(try(exfalso;simp only[Lib.len8tab_size]at*;omega))
 all_goals(go_ret;refine⟨tX Ending.returned (tX (Value.int IntKind.i64) ?_),rfl⟩)
 {
 let⟨ex,hn⟩:=ae EX
 let⟨t1,t2⟩:=LK (i:=x / 65536) (m:=n / 65536) af af
 have s:=Lib.bitLen_shift16 n af af;rw[t1,GN (Lib.bitLen _:Int) af,GN _ af];omega};{
 let⟨ex,hn⟩:=ae EX
 let⟨t1,t2⟩:=LK (i:=x / 256) (m:=n / 256) af af
 have s:=Lib.bitLen_shift8 n af af;rw[t1,GN (Lib.bitLen _:Int) af,GN _ af];omega};{
 let⟨ex,hn⟩:=ae EX
 let⟨t1,t2⟩:=LK (i:=x) (m:=n) af af
 rw[t1,GN (Lib.bitLen _:Int) af,GN _ af]}
def MK(hn:Mg n)(w:World):Calls prog 245 #[.U n] w λe w'=>e=.returned (.I (Lib.bitLen n))/\w'=w:=by
 go_in
 go_wp2_with fail;refine(Yz hn).mono ?_;rintro e w'⟨rfl,rfl⟩;go_wp2;go_ret;exact⟨rfl,rfl⟩
def ah3(MX:0<n)(hn:Mg n):Calls prog 280 #[.I n] w λe w'=>∃M:Nat,e=.returned (.U M)/\0<M/\M<=2*n/\w'=w:=by
 have hK:Lib.bitLen n<=21:=Lib.bitLen_le n 21 af af;have hP:=UD n MX af;have hL:=MK hn;generalize Lib.bitLen n=K at hK hP hL
 let⟨M,eM⟩:=aL (2 ^ K)
 have h0:0<M:=eM▸Nat.two_pow_pos K;rw[eM]at hP;have hp:((2:Int) ^ K)=(M:Int):=by rw[<-eM];push_cast;rfl
 have hw:IntKind.u64.wrap ((2:Int) ^ K)=(M:Int):=by rw[hp,mK];omega
 have YQ:=ag hP;have h0':=ag h0;clear hP h0 eM hp
 go_in
 go_wp2_with fail;refine(hL _).mono ?_;rintro e w'⟨rfl,rfl⟩;go_wp2;go_ret;exact⟨M,by first|rfl|simp only[hw],ae h0',ae YQ,rfl⟩
def ah9{X:Nat}(hX:X<2^64)(hc:w.cell? (Ad g 0)=some (.U X))(hf:w.frozen? (Ad g 0)=false):Calls prog 281 #[.pointer (some (Ad g 0))] w λe w'=>∃C:Nat,e=.returned (.U C)/\C<2^64/\w'.cell? (Ad g 0)=some (.U C)/\w'.frozen? (Ad g 0)=false/\w.grownBy w' (some g):=by
 obtain⟨A,lA,e1⟩:∃A:Nat,A<2^64/\bits .xor .u64 (X:Int) (IntKind.u64.wrap ((X:Int)*8192))=(A:Int):=by refine⟨X ^^^ (X*8192 % 18446744073709551616),QH (n:=64) af af,?_⟩;rw[mK,show((X:Int)*8192 % 18446744073709551616)=((X*8192 % 18446744073709551616:Nat):Int) by omega,ai4 _ _ hX af]
 obtain⟨B,lB,e2⟩:∃B:Nat,B<2^64/\bits .xor .u64 (A:Int) ((A:Int) / 128)=(B:Int):=by refine⟨A ^^^ (A / 128),QH (n:=64) af af,?_⟩;rw[show((A:Int) / 128)=((A / 128:Nat):Int) by omega,ai4 _ _ lA af]
 obtain⟨C,lC,e3⟩:∃C:Nat,C<2^64/\bits .xor .u64 (B:Int) (IntKind.u64.wrap ((B:Int)*131072))=(C:Int):=by refine⟨B ^^^ (B*131072 % 18446744073709551616),QH (n:=64) af af,?_⟩;rw[mK,show((B:Int)*131072 % 18446744073709551616)=((B*131072 % 18446744073709551616:Nat):Int) by omega,ai4 _ _ lB af]
 have c1:=GX w (Ad g 0) (.U A) hc;have c2:=GX _ (Ad g 0) (.U B) c1;have c3:=GX _ (Ad g 0) (.U C) c2;have HG:=ag (aX (aX (aH w g 0 (.U A)) (aH _ g 0 (.U B))) (aH _ g 0 (.U C)));have HF:Hid ((((w.setCell (Ad g 0) (.U A)).setCell (Ad g 0) (.U B)).setCell (Ad g 0) (.U C)).frozen? (Ad g 0)=false):=by show _=_;simp only[Ee];exact hf
 have LC:=ag lC;have HC:=ag c3;clear hX lA lB lC
 go_in
 go_wp2_with fail
 go_region
 go_wp2_with fail
 go_region
 go_wp2_with fail
 go_region
 go_wp2;go_ret;exact⟨C,rfl,LC,by exact HC,by exact HF,by exact az (az (az HG))⟩
end Q
namespace Q
open Go.Sort
def Zt{blk off cap N a b:Nat}(hN:Hid (d.size=N))(h:HU w blk off d)(jr:blk<w.heap.size)(Tq:a+8<=b)(hb:b<=N)(jl:N<=1048576):Calls prog 256 #[.S (some (Ad blk off)) N cap,.I a,.I b] w λe w'=>
   e=.returned (.tuple #[])/\∃d',HU w' blk off d'/\PermIn a b d d'/\w.grownBy w' (some blk):=by
 obtain⟨L,eL⟩:∃x:Nat,(b:Int)-(a:Int)=(x:Int):=⟨b-a,af⟩;have wL:=e8 L
 let⟨Q,eQ⟩:=aL (L / 4)
 have eQ1:Int.tdiv (L:Int) 4=(Q:Int):=eQ▸(ak2 L 4).symm;have eQ2:(L:Int) / 4=(Q:Int):=af;have wQ:=e8 Q;have wQ2:IntKind.i64.wrap ((Q:Int)*2)=(Q:Int)*2:=kU _ af;obtain⟨J,eJ⟩:∃x:Nat,(a:Int)+(Q:Int)*2=(x:Int):=⟨a+Q*2,af⟩;have wJ:=e8 J;have bJ:a+2<=J/\J+2<b:=af;have wJ1:IntKind.i64.wrap ((J:Int)+1)=(J:Int)+1:=kU _ af;obtain⟨J0,eJ0⟩:∃x:Nat,(J:Int)-1=(x:Int):=⟨J-1,af⟩;have wJ0:=e8 J0;have h8:=dC 8 L;have wU:IntKind.u64.wrap (L:Int)=(L:Int):=by rw[mK];omega
 have hg:w.heap.size≠blk:=af;have hLb:a+L=b:=af;have H0:=ag (h.alloc jr (.cells #[.U L] 331));have HL:=ag (ai eQ Tq)
 go_in
 go_wp2_with fail;refine(ah3 af af).mono ?_;rintro e w1⟨M,rfl,hM0,hM,rfl⟩;have wM:IntKind.u64.wrap ((M:Int)-1)=(M:Int)-1:=by rw[mK];omega
 go_wp2_with fail
 go_loopw[9](λs9 wr=>∃(idx R:Nat)(dk:Array Int),s9=.I idx/\J0<=idx/\idx<=J+2/\R<2^64/\Hid (wr.cell? (Ad w.heap.size 0)=some (.U R)/\wr.frozen? (Ad w.heap.size 0)=false)/\Hid (HU wr blk off dk)/\Hid (PermIn a b d dk)/\Hid (dk.size=N)/\Hid (w.grownBy wr (some blk))) (λs9 _=>J+2-(intOf s9).toNat)
 exact⟨J0,L,d,rfl,af,af,af,⟨al,al⟩,by exact ae H0,permIn_refl d a b,hN,by exact ve⟩;{
 obtain⟨idx,R,dk,rfl,z1,z2,lR,hC,hH,hP,hdk,hG⟩:=hrel;by_cases hgo:idx<=J+1;{
 have ar6:(idx:Int)<=(J:Int)+1:=af;go_wp2_with fail;refine(ah9 lR hC.1 hC.2).mono ?_;rintro e w2⟨C,rfl,lC,ku,Xq,gI⟩;have C2:=ag (ai ku Xq);have H2:=ag (hH.kept (gI.block blk (iq jr hG.size) (λe=>hg (by simpa using e.symm))));have G2:=ag (Cm hG gI ay);obtain⟨O,lO,ee3⟩:∃O:Nat,O<=M-1/\bits .and .u64 (C:Int) ((M:Int)-1)=(O:Int):=by refine⟨C&&& (M-1),Nat.and_le_right,?_⟩;rw[show((M:Int)-1)=((M-1:Nat):Int) by omega,bits_and_u64_nat _ _ lC af]
 have wO:=e8 O;by_cases hLO:L<=O;{
 have cH8:=iC L O;obtain⟨P,eP⟩:∃x:Nat,(O:Int)-(L:Int)=(x:Int):=⟨O-L,af⟩;have wP:=e8 P;have bP:P<L:=af;obtain⟨T,eT⟩:∃x:Nat,(a:Int)+(P:Int)=(x:Int):=⟨a+P,af⟩;have wT:=e8 T;have bT:a<=T/\T<b:=af;have Ao:=ae hdk
 let⟨c1,f1⟩:=ae H2 idx af
 let⟨c2,f2⟩:=ae H2 T af
 let⟨p1,Ig⟩:=aL dk[idx]!
 let⟨p2,Ie⟩:=aL dk[T]!
 rw[Ig]at c1;rw[Ie]at c2
 let⟨tt,ct⟩:=jF (q:=(Ad blk (off+idx))) (u:=.U p2) c2
 have vm:=ag (H2.swap (i:=idx) (j:=T) af af Ie.symm Ig.symm);have Tx:=ag (aX (aX G2 (aH _ blk (off+idx) (.U p2))) (aH _ blk (off+T) (.U p1)));have HPn:Hid (PermIn a b d (swp dk idx T)):=permIn_trans _ _ _ a b hP (swp_permIn dk a b idx T af af af af af);have HDn:Hid ((swp dk idx T).size=N):=by show _=_;rw[size_swp];exact Ao
 have HCn:Hid ((((w2.setCell (Ad blk (off+idx)) (.U p2)).setCell (Ad blk (off+T)) (.U p1)).drew).cell? (Ad w.heap.size 0)=some (.U C)/\(((w2.setCell (Ad blk (off+idx)) (.U p2)).setCell (Ad blk (off+T)) (.U p1)).drew).frozen? (Ad w.heap.size 0)=false):=
  ⟨(De _ _ _ _ (by simp<;>omega)).trans ((De _ _ _ _ (by simp<;>omega)).trans C2.1),by show World.frozen? ((w2.setCell (Ad blk (off+idx)) (.U p2)).setCell (Ad blk (off+T)) (.U p1)) _=false;rw[Ee,Ee];exact C2.2⟩
 have l1:=aU idx N;have l2:=aU T N;have l3:=dC 0 T;go_wp2_with fail
 go_region
 go_wp2;go_roundw;exact⟨idx+1,C,swp dk idx T,by first|rfl|go_num,af,af,lC,HCn,by exact vm,HPn,HDn,by exact az Tx⟩;exact cg};{
 have cH8:¬(L:Int)<=(O:Int):=af;obtain⟨P,eP⟩:∃x:Nat,O=x:=⟨O,rfl⟩;subst eP;have bP:O<L:=af;obtain⟨T,eT⟩:∃x:Nat,(a:Int)+(O:Int)=(x:Int):=⟨a+O,af⟩;have wT:=e8 T;have bT:a<=T/\T<b:=af;have Ao:=ae hdk
 let⟨c1,f1⟩:=ae H2 idx af
 let⟨c2,f2⟩:=ae H2 T af
 let⟨p1,Ig⟩:=aL dk[idx]!
 let⟨p2,Ie⟩:=aL dk[T]!
 rw[Ig]at c1;rw[Ie]at c2
 let⟨tt,ct⟩:=jF (q:=(Ad blk (off+idx))) (u:=.U p2) c2
 have vm:=ag (H2.swap (i:=idx) (j:=T) af af Ie.symm Ig.symm);have Tx:=ag (aX (aX G2 (aH _ blk (off+idx) (.U p2))) (aH _ blk (off+T) (.U p1)));have HPn:Hid (PermIn a b d (swp dk idx T)):=permIn_trans _ _ _ a b hP (swp_permIn dk a b idx T af af af af af);have HDn:Hid ((swp dk idx T).size=N):=by show _=_;rw[size_swp];exact Ao
 have HCn:Hid ((((w2.setCell (Ad blk (off+idx)) (.U p2)).setCell (Ad blk (off+T)) (.U p1)).drew).cell? (Ad w.heap.size 0)=some (.U C)/\(((w2.setCell (Ad blk (off+idx)) (.U p2)).setCell (Ad blk (off+T)) (.U p1)).drew).frozen? (Ad w.heap.size 0)=false):=
  ⟨(De _ _ _ _ (by simp<;>omega)).trans ((De _ _ _ _ (by simp<;>omega)).trans C2.1),by show World.frozen? ((w2.setCell (Ad blk (off+idx)) (.U p2)).setCell (Ad blk (off+T)) (.U p1)) _=false;rw[Ee,Ee];exact C2.2⟩
 have l1:=aU idx N;have l2:=aU T N;have l3:=dC 0 T;go_wp2_with fail
 go_region
 go_wp2;go_roundw;exact⟨idx+1,C,swp dk idx T,by first|rfl|go_num,af,af,lC,HCn,by exact vm,HPn,HDn,by exact az Tx⟩;exact cg}};{
 have ar6:¬(idx:Int)<=(J:Int)+1:=af;go_wp2
 go_end0
 exact⟨rfl,dk,hH,hP,hG⟩}}
end Q
theorem au6(h:∀c∈cs,c.length=sz)(hc:cs[i]?=some c)(hj:j<sz)(u:Value):(cs.set i (c.set j u)).flatten=cs.flatten.set (i*sz+j) u:=by
 induction cs generalizing i with
 |nil=>simp at hc
 | cons d cs ih=>
  cases i with
  |zero=>
   simp at hc;subst hc;rw[GW,sV,sV,List.set_append_left _ _ (by rw[h d al];omega)];simp
  |succ i=>
   rw[ak0,sV,sV,QO _ _ (by rw[h d al,D7];omega),h d al,ih (λc hc=>h c (by simp[hc])) (by simpa using hc)]
   congr 2
   rw[D7];omega
def OwnT.ptr{α:Type}{el:World->α->List Value->List Lf->Prop}{cap:Nat}{xs:List α}{Ls:List (List Lf)}(h:OwnT el ty sz B w (.S p n cap) xs Ls)(hn:xs.length=n)(h0:0<n):∃g,p=some (Ad g 0)/\B<=g/\g<w.heap.size/\n<=cap:=by
 have hl:=h.lt;obtain⟨cs,h1,h2,h3,h4,h5,h6,h7⟩:=h;rcases h4.2 with⟨h',h''⟩|⟨g,NQ,cur,h',hb,hg,xv,_⟩;{omega};{simp only[pW]at h';obtain⟨rfl,-,rfl⟩:=h';exact⟨g,rfl,hb,(hl.1 g rfl).2,af⟩}
def OwnT.AU{Ls:List (List Lf)}(h:OwnT jy 132 3 B w v es Ls)(hM:∀a∈Ls.flatten,a.b<M)(hv:∀b,v.ownBlock=some b->b<M):∃A,uj w v es A/\jE B w A/\∀a∈A,a.b<M:=by
 have h':OwnT (λw x c l=>jy w x c l/\∀y∈l,y.b<M) 132 3 B w v es Ls:=by obtain⟨cs,h1,h2,h3,h4,h5,h6,h7⟩:=h;exact⟨cs,h1,h2,h3,h4,λi x c l hx hc hl=>⟨h5 i x c l hx hc hl,λy hy=>hM y (Gu.2 ⟨l,aT hl,hy⟩)⟩,h6,h7⟩
 let⟨A,hA,hAp⟩:=h'.lv (λx b a l=>Cz w x b a l/\∀y∈l,y.b=b\/y.b<M) λx c l b a oz hc hf bS jq bu=>by
  obtain⟨⟨p',cc,rfl,h2,h3⟩,hlM⟩:=oz;refine⟨⟨b,a,.u64⟩::⟨b,a+1,.i64⟩::l,⟨⟨p',cc,l,rfl,hc 2 _ rfl,h3⟩,λy hy=>?_⟩,?_,?_,λy hy=>?_⟩;{rcases jv.1 hy with rfl|hy;{exact .inl rfl};{rcases jv.1 hy with rfl|hy;{exact .inl rfl};{exact .inr (hlM y hy)}}};{
 rw[iH,zG,iH,zG];refine⟨λhm=>?_,λhm=>?_,bu⟩;{
 rcases jv.1 hm with e|hm;{simp at e};{
 let⟨y,hy,e⟩:=iR.1 hm
 simp only[gy]at e;exact bS y hy e.1}};{
 let⟨y,hy,e⟩:=iR.1 hm
 simp only[gy]at e;exact bS y hy e.1}};{intro y hy;rcases jv.1 hy with rfl|hy;{exact⟨⟨_,hc 0 _ rfl⟩,hf _⟩};{rcases jv.1 hy with rfl|hy;{exact⟨⟨_,hc 1 _ rfl⟩,hf _⟩};{exact jq y hy}}};{rcases jv.1 hy with rfl|hy;{exact .inr ⟨rfl,al,al⟩};{rcases jv.1 hy with rfl|hy;{exact .inr ⟨rfl,al,al⟩};{exact .inl hy}}}
 refine⟨A,hA.imp λx b a l _ _ h=>h.1,hAp,λa ha=>?_⟩;obtain⟨p,c,LL,rfl,q1,rfl,q2⟩:=hA
 let⟨l,hl,Vm⟩:=Gu.1 ha
 let⟨i,hi⟩:=uL hl
 have KU:=(aV.1 hi).1;obtain⟨x,hx⟩:∃x,es[i]?=some x:=⟨_,aY af⟩;rcases q2 with q2|⟨b,o,rfl,q2⟩;{subst q2;simp at hx};{rcases(q2 i x l hx hi).2 a Vm with e|e;{rw[e];exact hv b rfl};{exact e}}
abbrev js(B:Nat)(w:World)(v:Value)(l:LI):Prop:=w.ownsRow B 27 1 v l.length (l.map (Value.int .u64))
def js.form(h:js B w v l):∃p c,v=.S p l.length c:=by
 rcases h.2 with⟨rfl,h0⟩|⟨g,cap,cur,rfl,_⟩;{exact⟨none,0,by rw[h0]⟩};{exact⟨_,_,rfl⟩}
def js.below(h:js B w v l)(hb:Bw w w'):js B w' v l:=
 Gx (row:=none) h (Vq hb) (by by_cases e:v.ownBlock=none<;>simp[e])
def ZT(w:World)(v:Value):Prop:=(∀(a:Addr)(n c:Nat),v=.S (some a) n c->a.off=0/\a.spot=none/\∀j,n<=j->j<c->w.cell? (Ad a.block j)=some (.U 0))/\∀(n c:Nat),v=.S none n c->c=0
def ZT.keep(h:ZT w v)(hk:∀b,v.ownBlock=some b->w'.heap[b]?=w.heap[b]?):ZT w' v:=⟨λa n c e=>by
 let⟨h1,h2,h3⟩:=h.1 a n c e
 refine⟨h1,h2,λj hj hc=>(xi (hk _ (by rw[e];rfl))).trans (h3 j hj hc)⟩,h.2⟩
def ZT.nil(w:World):ZT w aq:=⟨λa n c e=>by simp at e,λn c e=>by simp only[pW]at e;exact e.2.2.symm⟩
def lp(B:Nat)(w:World)(v:Value)(l:LI):Prop:=js B w v l/\ZT w v
def aE9{k:Nat}(h:j<k):(Builtin.zeroCells (Value.cells (.U 0)) k)[j]?=some (.U 0):=by
 have e:Value.cells (.U 0)=#[.U 0]:=rfl;rw[e,Builtin.zeroCells];simp[h,Nat.mod_one]
variable {xs:List Value}
def yT(i:TypeInfo)(hi:Tryz.prog.info? 27=some i)(hz:i.zero=some (.U 0))(hs:i.size=1)(hb:i.bytes=8)(bR:w.ownsRow base 27 1 v n xs)(hzt:ZT w v){a:Addr}(c:Nat)(hl:news.length=m*1)(iU:∀j u,news[j]?=some u->w.cell? (a.add j)=some u)(h1:∀u∈news,u.oneCell'=true)(h63:n+m<=maxLen)(rB:(n+m)*8<=140737488355328)(DD:base<=w.heap.size):∃v' w',(Builtin.append_ #[108,108] ty #[v,.S (some a) m c]).run Tryz.prog w=.ok v' w'/\w'.ownsRow base 27 1 v' (n+m) (xs++news)/\w.grownBy w' v.ownBlock/\ZT w' v':=by
 let⟨v',w',hr,h2,h3,h4⟩:=ai6 (P:=Tryz.prog) w base 108 ty 27 i (.U 0) 1 8 Tryz.underlying108 hi hz hs hb rfl bj v n xs bR a m c news hl iU h1 h63 rB DD
 refine⟨v',w',hr,h2,h3,?_⟩;have cw8:n+m<=9223372036854775807:=by simp only[maxLen]at h63;omega
 have Fb:news.length=m*i.size:=hs▸hl;have tail:∀(xs:List Value)(k K:Nat),xs.length=k->∀(W:World),ZT (W.alloc (.cells (xs.toArray++Builtin.zeroCells (Value.cells (.U 0)) (K-k)) 27)) (.T W.heap.size k K):=λxs k K hk W=>by refine⟨λa n c e=>?_,λn c e=>by simp at e⟩;simp only[pW,kV]at e;obtain⟨rfl,rfl,rfl⟩:=e;refine⟨rfl,rfl,λj hj hc=>?_⟩;rw[cell_of_row _ _ _ _ _ _ (heap_alloc_new W _),Array.getElem?_append_right (by simpa[hk]using hj)];simp only[List.size_toArray,hk];exact aE9 af
 rcases bR.2 with⟨rfl,rfl⟩|⟨g,cap,cur,rfl,hbg,hg,xv,DA,hcs,bH3⟩;{by_cases hm:m=0;{rw[h4.2 ⟨rfl,hm⟩];exact ZT.nil _};{have nO:=run_append_nil (P:=Tryz.prog) w 108 ty 27 i (.U 0) Tryz.underlying108 hi hz a m c news Fb iU af af (by rw[hb];omega);rw[hr]at nO;simp only[Kj]at nO;obtain⟨rfl,rfl⟩:=nO;exact tail news m _ af w.drew}};{
 by_cases Xl:n+m<=cap;{
 have bj5:n*i.size+news.length<=cur.size:=by rw[hs,hl,hcs];omega
 have nO:=run_append_room (P:=Tryz.prog) w 108 ty 27 i Tryz.underlying108 hi g n cap cur hg a m c news Fb iU h1 Xl bj5;rw[hr]at nO;simp only[Kj]at nO;obtain⟨rfl,rfl⟩:=nO;refine⟨λb n' c' e=>?_,λn c e=>by simp at e⟩;simp only[pW,kV]at e;obtain⟨rfl,rfl,rfl⟩:=e;obtain⟨-,-,q⟩:=hzt.1 _ _ _ rfl;refine⟨rfl,rfl,λj hj hc=>?_⟩;have q1:=q j af hc;rw[cell_of_row _ _ _ _ _ _ hg]at q1;rw[cell_of_row _ _ _ _ _ _ (setRow_heap w g cur _ _ _ hg),hs,xU,nF bq,MG];rw[<-q1,<-am0]
 congr 1
 simp;omega};{have holds:∀j u,xs[j]?=some u->w.cell? (((Ad g 0):Addr).add j)=some u:=bR.cells (g:=g) rfl;have hxl:xs.length=n*i.size:=hs▸bR.1;have nO:=run_append_grow (P:=Tryz.prog) w 108 ty 27 i (.U 0) Tryz.underlying108 hi hz (Ad g 0) n cap xs hxl holds a m c news Fb iU af af (growslice_fits af (hb▸rB));rw[hr]at nO;simp only[Kj]at nO;obtain⟨rfl,rfl⟩:=nO;have hx1:=bR.1;have e:xs.toArray++news.toArray=(xs++news).toArray:=al;rw[e];exact tail (xs++news) (n+m) _ (by rw[gU];omega) w.drew}}
theorem gx{a:Act}{Q:Exit->Act->World->Prop}(ng:o.guard=none){x:Operand}(ho:o.op=.call {callee:=.builtin .append,args:=#[s,x],argTypes:=#[108,108]})(v:Value)(wo:Hid (lm=l++[y]))(g:Nat)(hs:a.eval s=v)(hx:a.eval x=.T g 1 1)(bR:lp B w v l)(hc:w.cell? (Ad g 0)=some (.U y))(hl:l.length<4194304)(hB:B<=w.heap.size)(h:∀p' c' w',lp B w' (.S p' lm.length c') lm->w.grownBy w' v.ownBlock->wpList Tryz.prog ops Q rest (a.put o.dst (.S p' lm.length c')) w'):wpList Tryz.prog ops Q (o::rest) a w:=by
 let⟨i,hi,qx,jd,jJ⟩:=fD Tryz.infoU64
 let⟨v',w',hr,h1,h2,h3⟩:=yT (ty:=o.type) i hi qx jd jJ bR.1 bR.2 (a:=Ad g 0) (m:=1) 1 (news:=[.U y]) rfl (λj u hu=>by
  cases j with
  |zero=>simp at hu;subst hu;rw[zI];exact hc
  |succ j=>simp at hu) (λu hu=>by simp at hu;subst hu;rfl) iB af hB
 refine Lib.wpList_append_run w ng s x _ _ ho _ _ hs hx _ _ hr ?_;have e:=ae wo;subst e;have qy:js B w' v' (l++[y]):=by unfold js;rw[gU,l8];exact h1
 obtain⟨p',c',rfl⟩:=qy.form;exact h p' c' w' ⟨qy,h3⟩ h2
def lp.below(h:lp B w v l)(hb:Bw w w'):lp B w' v l:=⟨h.1.below hb,h.2.keep λb e=>hb.block b (h.1.lt b e).2⟩
def lp.form(h:lp B w v l):∃p c,v=.S p l.length c:=h.1.form
def lp.lt(h:lp B w v l):∀k,v.ownBlock=some k->B<=k/\k<w.heap.size:=Gy h.1
def lp.nil(B:Nat)(w:World):lp B w aq []:=⟨by simpa[js]using gm w B 27 1,ZT.nil w⟩
structure SD where
 e:Int
 g:Int
 x:Int
 t:Int
 ss:List aQ
 ns:List aD
def qZ(ids:LI)(id:Int):LI:=ids.filter λx=>!(x==id)
def wG:LI->Int->LI
 |[],id=>[id]
 |x::r,id=>if id<=x then id::qZ (x::r) id else x::wG r id
def ag1(q:List Ev)(ev:Ev):List Ev:=if q.length<7 then q++[ev]else if q.length=7 then q++[(4,[])]else q
def La(ss:List aQ)(id:Int)(ev:Ev):List aQ:=ss.map λs=>if s.1=id then(s.1,s.2.1,ag1 s.2.2 ev)else s
def uz(ss:List aQ)(ids:LI)(ev:Ev):List aQ:=ids.foldl (λss id=>La ss id ev) ss
def dW(D:SD)(k:Nat)(kind:Int):SD:=match D.ns[k]? with
 |none=>D
 |some nd=>{D with ss:=uz D.ss nd.watchers (kind,nd.path),ns:=D.ns.set k {nd with watchers:=[]}}
def Tf(D:SD)(k:Nat):SD:={D with ns:=D.ns.eraseIdx k}
def dS(D:SD)(k:Nat)(id:Int):SD:=match D.ns[k]? with
 |none=>D
 |some nd=>if nd.holders.contains id then(if qZ nd.holders id=[]then dW {D with ns:=D.ns.set k {nd with holders:=[],mode:=0,aE:=0,gen:=0}} k 3 else{D with ns:=D.ns.set k {nd with holders:=qZ nd.holders id}})else D
end Go.Proofs.YtnhnbpkfpaondaaGreatDoor
