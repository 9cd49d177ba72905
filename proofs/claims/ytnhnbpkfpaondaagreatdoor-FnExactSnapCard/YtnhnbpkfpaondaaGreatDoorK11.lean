import Derived.Test.YtnhnbpkfpaondaaGreatDoorK10
import Derived.Test.YtnhnbpkfpaondaaGreatDoorK5
namespace Go.Proofs.YtnhnbpkfpaondaaGreatDoor
set_option maxHeartbeats 0
set_option linter.all false
set_option maxRecDepth 100000
open Go.ChangeShapes Go.WideShapes Go.ChangeAt Go.RowKit Go.Maps
structure CI(ss:List aQ)(ns:List aD):Prop where
 so:Fm ss
 nt:∀nd∈ns,NT ss nd/\nd.holders.Pairwise (·<·)/\nd.holders.length<=1048576
 kd:KD ns
variable {ss ss':List aQ}{nd nd' s:aD}{ns ns':List aD}{k i b z c n d m B a M o G N F base fuel sz:Nat}{D:SD}{f:aD->aD}{left:Lit->Bool}{w w' u X:World}{K S e g kd y lo hi:Int}{P l V xs:LI}{p q:OA}{v x v0 v1 v2 v3 v4:Value}{rs:List R1}{vs Qs cs:List Value}{r:R1}{t:TypeId}{ob:Obj}{se pa sq held:Bool}{o1 o2 o3 o4 o5:Option LI}{A:List Lf}{es:List Ev}{spare:Nat->Bool}{f0 f1 f2 f3 f4 f5:Field}
def NT.ids(h:NT ss nd)(hi:ss'.map (·.1)=ss.map (·.1)):NT ss' nd:=
 ⟨h.by',h.pl,h.wpw,h.TD,λi hi'=>by
  let⟨j,s,hj,e⟩:=aJ4 hi (h.OM i hi')
  exact⟨s,aT hj,e⟩⟩
theorem Fm.tell(ev:Ev):∀(ids:LI){ss:List aQ},Fm ss->Fm (uz ss ids ev)
 |[],ss,h=>h
 |a::r,ss,h=>Fm.tell ev r (h.cK3 a ev)
def KD.erase(h:KD ns)(k:Nat):KD (ns.eraseIdx k):=λi j a c ha hc e=>by
 rw[aj7]at ha hc;by_cases hi:i<k<;>by_cases hj:j<k
 {rw[bO hi]at ha;rw[bO hj]at hc;exact h i j a c ha hc e};{rw[bO hi]at ha;rw[bH hj]at hc;have:=h i (j+1) a c ha hc e;omega};{rw[bH hi]at ha;rw[bO hj]at hc;have:=h (i+1) j a c ha hc e;omega};{rw[bH hi]at ha;rw[bH hj]at hc;have:=h (i+1) (j+1) a c ha hc e;omega}
theorem KD.paths(h:KD ns)(hp:ns'.map (·.path)=ns.map (·.path)):KD ns':=λi j a c ha hc e=>by
 have key:∀(i:Nat)(a:aD),ns'[i]?=some a->∃a0,ns[i]?=some a0/\a0.path=a.path:=λi a ha=>by
  have h1:(ns'.map (·.path))[i]?=some a.path:=by rw[nG,ha];rfl
  rw[hp,nG]at h1;cases hn:ns[i]? with
  |none=>rw[hn]at h1;cases h1
  |some a0=>rw[hn]at h1;exact⟨a0,rfl,by simpa using h1⟩
 let⟨a0,h1,e1⟩:=key i a ha
 let⟨c0,h2,e2⟩:=key j c hc
 exact h i j a0 c0 h1 h2 (by rw[e1,e2,e])
def rQ(hk:ns[k]?=some nd)(hp:nd'.path=nd.path):(ns.set k nd').map (·.path)=ns.map (·.path):=by
 rw[WZ,hp];exact yR (by rw[nG,hk];rfl)
def CI.cw(h:CI ss ns)(id:Int):CI ss (ns.map (IM id)):=by
 refine⟨h.so,λnd bu=>?_,h.kd.paths (by rw[sR];rfl)⟩;obtain⟨y,hy,rfl⟩:=iR.1 bu
 let⟨h1,h2,h3⟩:=h.nt y hy
 exact⟨⟨h1.by',h1.pl,OK h1.wpw,fu (Fp) h1.TD,λi hi=>h1.OM i (qY.1 hi).1⟩,h2,h3⟩
def CI.set(h:CI ss ns)(hk:ns[k]?=some nd)(hs:Fm ss')(hi:ss'.map (·.1)=ss.map (·.1))(hp:nd'.path=nd.path)(hw:nd'.watchers=nd.watchers\/nd'.watchers=[])(hh:nd'.holders.Pairwise (·<·)/\nd'.holders.length<=1048576):CI ss' (ns.set k nd'):=by
 refine⟨hs,λx hx=>?_,h.kd.paths (rQ hk hp)⟩;rcases QE hx with hx|rfl;{
 let⟨h1,h2⟩:=h.nt x hx
 exact⟨h1.ids hi,h2⟩};{
 obtain⟨h1,-⟩:=h.nt nd (aT hk);refine⟨NT.ids ⟨by rw[hp];exact h1.by',by rw[hp];exact h1.pl,?_,?_,?_⟩ hi,hh⟩;{
 rcases hw with e|e<;>rw[e]
 {exact h1.wpw};{exact List.Pairwise.nil}};{
 rcases hw with e|e<;>rw[e]
 {exact h1.TD};{simp}};{
 rcases hw with e|e<;>rw[e]
 {exact h1.OM};{intro i hi;cases hi}}}
def CI.tell(h:CI D.ss D.ns)(hk:D.ns[k]?=some nd)(kd:Int):CI (dW D k kd).ss (dW D k kd).ns/\(dW D k kd).ns.map (·.path)=D.ns.map (·.path)/\(dW D k kd).ss.map (·.1)=D.ss.map (·.1)/\(dW D k kd).ns[k]?=some {nd with watchers:=[]}:=by
 unfold dW;rw[hk];refine⟨h.set hk (Fm.tell _ _ h.so) (Bj _ _ _) rfl (.inr rfl) (h.nt nd (aT hk)).2,rQ hk rfl,Bj _ _ _,bM hk _⟩
def CI.drop(h:CI D.ss D.ns)(hk:D.ns[k]?=some nd)(id:Int):CI (dS D k id).ss (dS D k id).ns/\(dS D k id).ns.map (·.path)=D.ns.map (·.path)/\(dS D k id).ss.map (·.1)=D.ss.map (·.1)/\∃lr,(dS D k id).ns[k]?=some lr/\lr.owner=nd.owner/\lr.path=nd.path:=by
 unfold dS;rw[hk]
 let⟨h1,h2,h3⟩:=h.nt nd (aT hk)
 by_cases hc:nd.holders.contains id=true;{
 simp only[hc,pM];by_cases he:qZ nd.holders id=[];{
 simp only[he,pM];have uW:=bM hk {nd with holders:=[],mode:=0,aE:=0,gen:=0}
 let⟨q1,q2,q3,q4⟩:=CI.tell (D:={D with ns:=D.ns.set k {nd with holders:=[],mode:=0,aE:=0,gen:=0}}) (h.set hk h.so rfl rfl (.inl rfl) ⟨List.Pairwise.nil,al⟩) uW 3
 exact⟨q1,q2.trans (rQ hk rfl),q3,_,q4,rfl,rfl⟩};{
 simp only[he,Cb];refine⟨h.set hk h.so rfl rfl (.inl rfl) ⟨OK h2,fu (Fp) h3⟩,rQ hk rfl,?_,_,bM hk _,rfl,rfl⟩
 first|trivial|rfl}}
 {simp only[hc];exact⟨h,rfl,rfl,nd,hk,rfl,rfl⟩}
def CI.rm(h:CI D.ss D.ns)(k:Nat):CI (Tf D k).ss (Tf D k).ns:=⟨h.so,λnd bu=>h.nt nd (GI bu),h.kd.erase k⟩
def Ik{α:Type}{l:List α}(hk:k<l.length):(l.eraseIdx k).drop k=l.drop (k+1):=by
 rw[List.eraseIdx_eq_take_drop_succ,List.drop_append,List.drop_take];simp[show min k l.length=k by omega]
theorem Yr(h:Fm ss){s:aQ}(hi:ss[i]?=some s):Ys s.1 ss=ss.eraseIdx i:=by
 have bS:∀(j:Nat)(z:aQ),ss[j]?=some z->z.1=s.1->j=i:=λj z hj e=>by
  have hp:=Jf.1 h.pw
  let⟨l1,v1⟩:=aV.1 hi
  let⟨l2,v2⟩:=aV.1 hj
  rcases GZ i j with hh|hh|hh;{have:=hp i j l1 l2 hh;rw[v1,v2]at this;omega};{exact hh.symm};{have:=hp j i l2 l1 hh;rw[v1,v2]at this;omega}
 have key:∀(l:List aQ)(i:Nat),l[i]?=some s->(∀(j:Nat)(z:aQ),l[j]?=some z->z.1=s.1->j=i)->Ys s.1 l=l.eraseIdx i:=by
  intro l
  induction l with
  |nil=>intro i hi;simp at hi
  | cons y r ih=>
   intro i hi hu;cases i with
   |zero=>
    simp at hi;subst hi;rw[List.eraseIdx_cons_zero,Ys,List.filter_cons,bH al,List.filter_eq_self.2];intro z hz
    let⟨j,hj⟩:=gH.1 hz
    have:=hu (j+1) z (by simpa using hj);by_cases e:z.1=y.1;{have:=this e;omega};{simp[e]}
   |succ i=>
    have hy:¬y.1=s.1:=λe=>aI (hu 0 y al e);rw[List.eraseIdx_cons_succ,Ys,List.filter_cons,bO (by simp[hy]),<-Ys,ih i (by simpa using hi) (λj z hj e=>aI (hu (j+1) z (by simpa using hj) e))]
 exact key ss i hi bS
def rM(f:aD->aD)(left:Lit->Bool)(ns:List aD):List aD:=ns.map λs=>if left (cL s.path)then s else f s
def CF(h:∀s∈ns,left (cL s.path)=true):rM f left ns=ns:=by
 unfold rM;rw[GY (g:=id) (λs hs=>by rw[bO (h s hs)];rfl),al9]
def JP(h:∀k,left k=false):rM f left ns=ns.map f:=by
 unfold rM;exact GY λs _=>by rw[bH (by rw[h];simp)]
def OR{ss:List aD}(hs:ss[i]?=some s)(hl:left (cL s.path)=true):(rM f left ss)[i]?=some s:=by
 unfold rM;rw[nG,hs,Jh,bO hl]
theorem Fw(hd:KD ns)(hs:ns[i]?=some s):(rM f left ns).set i (f s)=rM f (λz=>left z&&!z.sameKey (cL s.path)) ns:=by
 refine QS λj=>?_;unfold rM;rw[vX,nG,nG,fN];by_cases ej:i=j;{subst ej;have hkk:(cL s.path).sameKey (cL s.path)=true:=WL (by unfold cL;trivial);rw[bO rfl,bO (aV.1 hs).1,hs];simp[hkk]};{
 rw[bH ej];cases hj:ns[j]? with
 |none=>rfl
 |some z=>
  have bS:cL z.path≠cL s.path:=λe=>ej (hd i j s z hs hj e.symm);simp[sameKey_ne bS]}
def PS.iter{w0:World}{bs bn:Nat}{SB NB HB UB:List Nat}(h:PS w0 w b bs bn D SB NB HB UB)(O:One w0 w w' z)(n1:∀cs ty,w.heap[z]?≠some (.cells cs ty))(n2:∀es c,w.heap[z]?≠some (.map es c)):PS w0 w' b bs bn D SB NB HB UB:=by
 have nc:∀{y:Nat}{cs:Array Value}{ty:TypeId},w.heap[y]?=some (.cells cs ty)->y≠z:=λhy e=>n1 _ _ (e▸hy);have nm:∀{y:Nat}{es:Array MapEntry}{c:Nat},w.heap[y]?=some (.map es c)->y≠z:=λhy e=>n2 _ _ (e▸hy);refine⟨h.be.trans O.b,O.obj h.hd (nc h.hd),h.tR,?_,λj s1 g1 ik gp=>?_,h.snd,h.tT,h.hlen,h.uw,?_,λj nd gb hh uu ik gp h1 h2=>?_,h.nnd,h.lo,h.Ny⟩;{
 let⟨M,n,o,r⟩:=h.sG
 let⟨es,c,hm⟩:=ownsMap_at o
 exact⟨M,n,O.map o (nm hm),r⟩};{have q:=h.vT j s1 g1 ik gp;obtain⟨-,u,h1,-⟩:=id q;exact q.keep O (nc h1)};{
 let⟨M,n,o,r⟩:=h.lY
 let⟨es,c,hm⟩:=ownsMap_at o
 exact⟨M,n,O.map o (nm hm),r⟩};{
 have q:=h.nw j nd gb hh uu ik gp h1 h2;obtain⟨-,⟨V,q1,-⟩,q3,q4⟩:=id q
 let⟨es,c,m3⟩:=q3.at
 let⟨es',c',m4⟩:=q4.at
 exact q.keep O (nc q1) (nm m3) (nm m4)}
open Go.Proofs.Tryz
def fmI(K S F:Int)(np nv:Nat)(E G:Int):Bool:=if 1<=K/\K<=13 then Fg K.toNat S F np nv E G else false
def ZO(K:Int):Bool:=!(K==1)&&(!(K==6)&&!(K==13))
def bG0(D:SD)(i:Nat):SD×RP:=match D.ss[i]? with
 |none=>(D,rH)
 |some s=>if s.2.1<D.t+10 then({D with ss:=D.ss.set i (s.1,D.t+10,s.2.2)},{rH with n:=D.t+10})else(D,{rH with n:=s.2.1})
def bD5(D:SD)(i:Nat):SD×RP:=match D.ss[i]? with
 |none=>(D,rH)
 |some s=>({D with ss:=D.ss.set i (s.1,s.2.1,[])},{rH with Np:=s.2.2})
def Th(ns:List aD)(P:LI):Int:=match ns.findIdx? (λnd=>decide (nd.path=P))with
 |some i=>i
 |none=>-1
def rR(K:Int)(P:LI):Bool:=decide (K=13)&&decide (P=[47])
def yX(D:SD)(K S F E G:Int)(P V:LI):SD×RP:=
 if(!rR K P&&!vp P)=true then(D,AV 4)
 else if K=4 then my D P V S F
 else if K=10 then(D,{rH with n:=bo1 D.ns P S E G})
 else if(!rR K P&&decide (Th D.ns P<0))=true then(D,AV 5)
 else if K=13 then(D,{rH with nms:=jH D.ns P})
 else xg D (Th D.ns P).toNat K S F V
def fx(D:SD)(K S F E G:Int)(P V:LI):SD×RP:=
 if fmI K S F P.length V.length E G=false then(D,AV 2)
 else if K=1 then pL D
 else if(ZO K&&decide (xM D.ss S<0))=true then(D,AV 3)
 else if K=2 then bG0 D (xM D.ss S).toNat
 else if K=3 then(jA D S,rH)
 else if K=12 then bD5 D (xM D.ss S).toNat
 else yX D K S F E G P V
def PD(ns:List aD):Prop:=∀(i j:Nat)(a b:aD),ns[i]?=some a->ns[j]?=some b->a.path=b.path->i=j
structure WF(D:SD):Prop where
 g:0<=D.g/\D.g<=2^62
 x:0<=D.x/\D.x<=2^62
 t:0<=D.t/\D.t<=1000000
 nb:NB D.ns
 pb:PPB D.ns
 vl:∀nd∈D.ns,nd.value.length<=1048576
 ex:∀nd∈D.ns,nd.mode=1->nd.holders≠[]
 pd:PD D.ns
def au4{F E G:Int}{pp pq:OA}{np nv cp cv:Nat}{B:Bool}(eB:Hid (fmI K S F np nv E G=B)):Cp 140 #[IE K S (.S pp np cp) F (.S pq nv cv) E G] w (Rb (.bool B) w):=by
 by_cases h:1<=K/\K<=13;{obtain⟨k,rfl⟩:∃k:Nat,K=(k:Int):=⟨K.toNat,af⟩;have e:=ae eB;rw[fmI,bO h,sS]at e;exact Hz af af (ag e)};{have e:=ae eB;rw[fmI,bH h]at e;subst e;exact Hy af}
def bg7:Calls prog 185 #[.I K] w λr w'=>r=.returned (.bool (ZO K))/\w'=w:=by
 by_cases h1:K=1;{
 subst h1
 go_in
 go_wp2;go_ret;exact⟨rfl,rfl⟩};{
 by_cases h6:K=6;{
 subst h6
 go_in
 go_wp2;go_ret;exact⟨rfl,rfl⟩};{
 by_cases h13:K=13;{
 subst h13
 go_in
 go_wp2;go_ret;exact⟨rfl,rfl⟩};{
 have e:ZO K=true:=by simp[ZO,h1,h6,h13]
 rw[e];have a1:(K != 1)=true:=by simp[h1]
 have a6:(K != 6)=true:=by simp[h6]
 have a13:(K != 13)=true:=by simp[h13]
 go_in
 go_wp2;go_ret;exact⟨rfl,rfl⟩}}}
def aJ2(hp:PD ns)(h:ns[k]?=some nd)(hn:gS ns P=some nd):Th ns P=k:=by
 have e:nd.path=P:=by have:=QG hn;simpa using this
 have:ns.findIdx? (λnd=>decide (nd.path=P))=some k:=by
  rw[Di]
  let⟨h1,h2⟩:=aV.1 h
  refine⟨h1,by rw[h2];simp[e],λi hi hc=>?_⟩;have rA:ns[i].path=P:=by simpa using hc
  have:=hp i k _ _ (aY af) h (rA.trans e.symm);omega
 rw[Th,this]
def Qm(hn:gS ns P=none):Th ns P=-1:=by
 have:ns.findIdx? (λnd=>decide (nd.path=P))=none:=by rw[WO];intro x hx;have:=QF.1 hn x hx;simpa using this
 rw[Th,this]
theorem aJ3(h:¬Th ns P<0):∃(k:Nat)(nd:aD),Th ns P=k/\ns[k]?=some nd:=by
 unfold Th at h⊢;cases hf:ns.findIdx? (λnd=>decide (nd.path=P))with
 |none=>rw[hf]at h;simp at h
 |some k=>
  obtain⟨h1,-⟩:=Di.1 hf;exact⟨k,_,rfl,aY h1⟩
theorem aH3(h:¬xM ss S<0):∃(k:Nat)(s:aQ),xM ss S=k/\ss[k]?=some s:=by
 unfold xM at h⊢;cases hf:ss.findIdx? (λs=>s.1==S)with
 |none=>rw[hf]at h;simp at h
 |some k=>
  obtain⟨h1,-⟩:=Di.1 hf;exact⟨k,_,rfl,aY h1⟩
def UJ{x t:Int}{S:Value}(en:Le ns n)(em:Le l m)(h:lM w (.S p n c) ns)(hl:Rd w (.S q m d) l)(hn:Mg n)(hm:m<=2097152)(gh:Hid (aN l/\∀nd∈ns,aN nd.path))(hp:PD ns):Cp 184 #[dZ e g x t S (.S p n c),.S q m d] w (Rb (.I (Th ns l)) w):=by
 refine(xX en em h hl hn hm gh).mono ?_;rintro r w'⟨⟨k,nd,rfl,-,h1,h2⟩|⟨rfl,h1⟩,hb⟩;{exact⟨by rw[aJ2 hp h1 h2],hb⟩};{exact⟨by rw[Qm h1],hb⟩}
def JQ:(dW D k kd).e=D.e/\(dW D k kd).g=D.g/\(dW D k kd).x=D.x/\(dW D k kd).t=D.t:=by
 unfold dW;split<;>exact⟨rfl,rfl,rfl,rfl⟩
def Ze{id:Int}:(dS D k id).e=D.e/\(dS D k id).g=D.g/\(dS D k id).x=D.x/\(dS D k id).t=D.t:=by
 unfold dS;split;{exact⟨rfl,rfl,rfl,rfl⟩};{split;{split;{exact JQ};{exact⟨rfl,rfl,rfl,rfl⟩}};{exact⟨rfl,rfl,rfl,rfl⟩}}
theorem yy(id:Int):∀(f k:Nat)(D:SD),(dI id f k D).e=D.e/\(dI id f k D).g=D.g/\(dI id f k D).x=D.x/\(dI id f k D).t=D.t
 |0,k,D=>by unfold dI;exact⟨rfl,rfl,rfl,rfl⟩
 |f+1,k,D=>by have hd:=Ze (D:=D) (k:=k) (id:=id);unfold dI;split;{exact⟨rfl,rfl,rfl,rfl⟩};{split;{have h1:=yy id f k (Tf (dW (dS D k id) k 2) k);have h2:=JQ (D:=dS D k id) (k:=k) (kd:=2);exact⟨h1.1.trans (h2.1.trans hd.1),h1.2.1.trans (h2.2.1.trans hd.2.1),h1.2.2.1.trans (h2.2.2.1.trans hd.2.2.1),h1.2.2.2.trans (h2.2.2.2.trans hd.2.2.2)⟩};{have h1:=yy id f (k+1) (dS D k id);exact⟨h1.1.trans hd.1,h1.2.1.trans hd.2.1,h1.2.2.1.trans hd.2.2.1,h1.2.2.2.trans hd.2.2.2⟩}}
def VI{id:Int}:(jA D id).e=D.e/\(jA D id).g=D.g/\(jA D id).x=D.x/\(jA D id).t=D.t:=yy id _ _ _
structure iF where
 e:Int
 g:Int
 x:Int
 t:Int
 ss:List aQ
 ns:List aD
def nj:iF:=⟨0,0,0,0,[],[]⟩
def gJ(B:Nat)(w:World)(p:OA)(n c:Nat)(q:OA)(m d:Nat)(ss:List aQ)(ns:List aD):Prop:=
 ∃A1 A2,kr w (.S p n c) ss/\lM w (.S q m d) ns/\uj w (.S p n c) ss A1/\vQ w (.S q m d) ns A2/\jE B w (A1++A2)
def gJ.zero(B:Nat)(w:World):gJ B w none 0 0 none 0 0 [] []:=
 ⟨[],[],⟨none,0,rfl,.inl rfl⟩,⟨none,0,rfl,.inl rfl⟩,⟨none,0,[],rfl,rfl,rfl,.inl rfl⟩,⟨none,0,[],rfl,rfl,rfl,.inl rfl⟩,jE.nil _ _⟩
def gJ.keep(h:gJ B w p n c q m d ss ns)(hk:∀b,B<=b->b<w.heap.size->w'.heap[b]?=w.heap[b]?):gJ B w' p n c q m d ss ns:=by
 obtain⟨A1,A2,h1,h2,h3,h4,h5⟩:=h;have k:∀a∈A1++A2,w'.heap[a.b]?=w.heap[a.b]?:=λa ha=>hk _ (h5.lo a ha) (h5.tf.lt ha);have k1:∀a∈A1,w'.heap[a.b]?=w.heap[a.b]?:=λa ha=>k a (Dj _ ha);have k2:∀a∈A2,w'.heap[a.b]?=w.heap[a.b]?:=λa ha=>k a (Gw _ ha);exact⟨A1,A2,h1.dw h3 k1,h2.dw h4 k2,uj.keep h3 k1,vQ.keep h4 k2,h5.keep k⟩
def gJ.below(h:gJ B w p n c q m d ss ns)(hb:Bw w w'):gJ B w' p n c q m d ss ns:=h.keep λb _ hl=>hb.block b hl
def gJ.mono{B':Nat}(h:gJ B w p n c q m d ss ns)(hB:B'<=B):gJ B' w p n c q m d ss ns:=by
 obtain⟨A1,A2,h1,h2,h3,h4,h5⟩:=h;exact⟨A1,A2,h1,h2,h3,h4,h5.mono hB⟩
def az5(B:Nat)(r:Ending)(w:World)(D:iF)(code:Int):Prop:=∃p c q d,r=.returned (.tuple #[dZ D.e D.g D.x D.t (.S p D.ss.length c) (.S q D.ns.length d),.I code])/\gJ B w p D.ss.length c q D.ns.length d D.ss D.ns
def Own.cq6{R:Nat}(h:Own B w v l)(hn:∀b,v.ownBlock=some b->b≠R)(x y:Value):Own B ((w.setCell (Ad R 0) x).setCell (Ad R 1) y) v l:=by
 refine⟨h.1,?_⟩;rcases h.2 with h0|⟨g,cap,cur,rfl,hb,hg,rest⟩;{exact .inl h0};{exact .inr ⟨g,cap,cur,rfl,hb,((Dc _ _ _ _ (hn g rfl)).trans (Dc _ _ _ _ (hn g rfl))).trans hg,rest⟩}
def rT{wr:World}{K:Nat}(e:rl l=rs)(ek:Le rs K)(ea:Hid (sC rs=a))(ho:gR w.heap.size wr (.S p K c) rs vs)(hb:Bw w wr):XN w (rl l) (.returned (.tuple #[.S p K c,.I (a:Int)])) wr:=by
 have e1:=ae ek;have e2:=ae ea;subst e1 e2;rw[e];exact⟨p,c,vs,rfl,ho,hb⟩
def SP(l:LI)(rs:List R1)(a f:Nat):Prop:=
 Co none (yl (l.length+1) l)=rs++Co (iJ rs) (yl f (l.drop a))/\sC rs=a/\f+rs.length=l.length+1/\rs.length<=a/\(∀r∈rs,r.2.length<=1000/\0<=r.1/\r.1<2^64)
variable {f:Nat}
def SP.stop(h:SP l rs a f)(h0:ki (l.drop a)=none):rl l=rs:=by
 unfold rl;rw[h.1,Ew h0];simp[Co]
def SP.bC2(h:SP l rs a f)(ha:a<=l.length)(h0:ki (l.drop a)=some r)(h1:IF (iJ rs) r.1=false):rl l=rs:=by
 obtain⟨f',rfl⟩:∃f',f=f'+1:=⟨f-1,by have:=h.2.2.1;have:=h.2.2.2.1;omega⟩;unfold rl;rw[h.1,qH h0];simp[Co,h1]
variable {s:Int}
def SP.next(h:SP l rs a f)(ha:a<=l.length){b:LI}(h0:ki (l.drop a)=some (s,b))(h1:IF (iJ rs) s=true)(hb:b.length<=1000/\0<=s/\s<2^64):SP l (rs++[(s,b)]) (a+(14+b.length)) (f-1):=by
 obtain⟨h2,h3,h4,h5,h6⟩:=h;obtain⟨f',rfl⟩:∃f',f=f'+1:=⟨f-1,af⟩;refine⟨?_,by rw[xK];simp[sC];omega,bq,bq,?_⟩;{rw[h2,qH h0,Hf,Aa,show a+(14+b.length)=a+(b.length+14) by omega,<-Gv];simp[Co,h1,mL]};{intro r hr;rcases gu.1 hr with h|h;{exact h6 r h};{simp at h;subst h;exact hb}}
set_option maxRecDepth 100000 in
theorem CJ{len cap:Nat}(hR:Rd w (.S p len cap) l)(hB:aN l)(el:Le l len)(hlen:len<=1048576)(ud:len<=cap)(DA:cap<=maxLen):Calls prog 33 #[.S p len cap] w (XN w (rl l)):=by
 have HRB:=ag (ai hR hB);clear hR hB
 go_in
 go_wp2
 go_loopw[4,5](λov i wr=>∃(a f K:Nat)(rs:List R1)(pv:OA)(cv:Nat)(vs:List Value),a<=len/\i=.I a/\ov=.S pv K cv/\Le rs K/\Hid (SP l rs a f)/\gR w.heap.size wr (.S pv K cv) rs vs/\Bw w wr) (λ_ i _=>len+1-(intOf i).toNat)
 exact⟨0,len+1,0,[],none,0,[],gr _,rfl,rfl,rfl,⟨by rw[<-ae el];rfl,rfl,by rw[<-ae el];rfl,iD _,al⟩,gR.nil _ _,cQ _ _⟩;{
 obtain⟨a,f,K,rs,pv,cv,vs,Vm,rfl,rfl,eK,hinv,ho,aM⟩:=hrel;have hKa:K<=1048576:=by have:=hinv.2.2.2.1;have:=ae eK;omega
 obtain⟨A14,e14⟩:∃A:Nat,(a:Int)+14=(A:Int):=⟨a+14,af⟩;obtain⟨A2,e2⟩:∃A:Nat,(a:Int)+2=(A:Int):=⟨a+2,af⟩;obtain⟨A10,e10⟩:∃A:Nat,(a:Int)+10=(A:Int):=⟨a+10,af⟩;have bl7:A14=a+14:=af;have Vp:A2=a+2:=af;have bl8:A10=a+10:=af;have HA:=ag (ai bl7 (ai Vp bl8));by_cases h14:A14<=len;{
 have bQ4:=iC A14 len;have eln:=ae el;obtain⟨b,o,rfl,-,-⟩:=HRB.1.at af
 let⟨m,em⟩:=aB (l.drop a)
 have hBm:aN m:=by rw[em];exact HRB.2.drop a
 have hml:m.length=len-a:=by rw[em,r9];omega
 have hRm:∀d,Rd w (.S (some (Ad b (o+a))) (len-a) d) m:=λd=>HRB.1.cut a len Vm af _ (.inr rfl) d m (by rw[em,lD af])
 let⟨N,eN⟩:=aB (Eg m)
 let⟨Vy,hK2⟩:=W8 hBm
 rw[<-eN]at Vy hK2;obtain⟨Z,eZ⟩:∃Z:Nat,(A14:Int)+(N:Int)=(Z:Int):=⟨A14+N,af⟩;obtain⟨E,eE⟩:∃E:Nat,(A10:Int)+(N:Int)=(E:Int):=⟨A10+N,af⟩;have r1:∀(d:Nat)(w':World),Bw w w'->Rd w' (.S (some (Ad b (o+a))) 2 d) (sub m 0 2):=λd w' bN=>((hRm d).below bN).cut 0 2 af af _ (.inr rfl) d _ rfl;have s1:(sub m 0 2).length=2:=dM af;have g1:=iC a A2;have g2:=iC A2 cap;have g3:cap≠a:=af;have g4:A2-a=2:=af;have HM:=ag (ai em (ai hBm (ai hml (ai hRm (ai eN Vy)))));have HZ:=ag (ai eZ eE);have Ob:=ag r1;have DU:=ag s1;clear em hBm hml hRm eN Vy r1 s1 bl7 Vp bl8 eln;unfold maxLen at DA;go_wp2_with fail;refine(tc (sub m 0 2) _ _ 2 DU _ (ae Ob _ _ aM) (HM.2.1.sub 0 2) af af iB).mono ?_;rintro e w1⟨rfl,aG⟩;rw[HM.2.2.2.2.2];have b1:=aj aM aG;have ho1:=ho.below aG;clear aM aG ho Ob DU;by_cases Ng:len<Z\/1000<N;{
 have tj:=ag (hinv.stop (by obtain⟨em,-,hml,-,eN,-⟩:=ae HM;have:=ae HA;rw[<-em];unfold ki;rw[<-eN,bO af]))
 have Tj:=ag hinv.2.1;by_cases hN:1000<N;{have Nh:=mW 1000 N;go_wp2;refine dJ (v:=.tuple #[.S pv K cv,.I (a:Int)]) (by simp[results,results33,go_sem]) rfl (rT (ae tj) eK Tj ho1 b1)};{have Nh:¬(1000:Int)<(N:Int):=af;have hZ':=aU len Z;go_wp2;refine dJ (v:=.tuple #[.S pv K cv,.I (a:Int)]) (by simp[results,results33,go_sem]) rfl (rT (ae tj) eK Tj ho1 b1)}};{
 have Nh:¬(1000:Int)<(N:Int):=af;have hZ':=dB len Z;have JA:N<=1000:=af;have k1:=iC A2 A10;have k2:=iC A10 cap;have k3:cap≠A2:=af;have k4:=iC A10 E;have k5:=iC E cap;have k6:cap≠A10:=af;have k7:=iC a Z;have k8:=iC Z cap;have k9:A10-A2=8:=af;have k10:E-A10=N:=af;have k11:Z-a=14+N:=af;have r2:∀(d:Nat)(w':World),Bw w w'->Rd w' (.S (some (Ad b (o+A2))) 8 d) (sub m 2 10):=λd w' bN=>by have:=(((HM.2.2.2.1 d).below bN).cut 2 10 af (by have:=HM.2.2.1;omega) (some (Ad b (o+a+2))) (.inr rfl) d _ rfl);rw[show o+A2=o+a+2 by have:=ae HA;omega];exact this
 have r3:∀(d:Nat)(w':World),Bw w w'->Rd w' (.S (some (Ad b (o+A10))) N d) (sub m 10 (10+N)):=λd w' bN=>by have:=(((HM.2.2.2.1 d).below bN).cut 10 (10+N) af (by have:=HM.2.2.1;omega) (some (Ad b (o+a+10))) (.inr rfl) d _ rfl);rw[show 10+N-10=N by omega]at this;rw[show o+A10=o+a+10 by have:=ae HA;omega];exact this
 have r4:∀(d:Nat)(w':World),Bw w w'->Rd w' (.S (some (Ad b (o+a))) (14+N) d) (sub m 0 (14+N)):=λd w' bN=>
  ((HM.2.2.2.1 d).below bN).cut 0 (14+N) af (by have:=HM.2.2.1;omega) (some (Ad b (o+a))) (.inr rfl) d _ rfl
 have ZB:=ag r2;have JK:=ag r3;have HR4:=ag r4;have tJ:Hid ((sub m 2 10).length=8):=dM (by have:=HM.2.2.1;omega);have HS3:Hid ((sub m 10 (10+N)).length=N):=by show _=_;rw[dM (by have:=HM.2.2.1;omega)];omega
 have HS4:Hid ((sub m 0 (14+N)).length=14+N):=by show _=_;rw[dM (by have:=HM.2.2.1;omega)];omega
 let⟨sq0,sq1⟩:=kM (HM.2.1.sub 2 10) (by rw[ae tJ];omega)
 clear r2 r3 r4;have wA2:=e8 A2;have co8:=e8 A10;have co7:=e8 A14;have wE:=e8 E;have wZ:=e8 Z;have jg:=HM.2.1.sub 2 10;have hl8:(8:Nat)<=8:=iD _;have hl9:8<=cap-A2:=af;have bJ7:cap-A2<=maxLen:=by unfold maxLen;omega
 have bJ6:N<=2097152:=af;have ua:∀(vs:Array Value)(w:World),(callFunc 69 vs).run prog w=.ok (.enter 69 vs) w:=λvs w=>bg;have hcg:∀(vs:Array Value)(w:World),(callFunc 70 vs).run prog w=.ok (.enter 70 vs) w:=λvs w=>bg
 go_upto_region 6 with fail
 go_cut[7](λrp wc=>∃R pb cb,rp=.pointer (some (Ad R 0))/\w1.heap.size<=R/\Ty wc R (.U (num (sub m 2 10))) (.S pb N cb)/\Own w1.heap.size wc (.S pb N cb) (sub m 10 (10+N))/\Bw w1 wc)
 case first=>(
 let⟨v,mY⟩:=aB w1.drew
 have BV:Hid (Bw w1 v):=by rw[mY];exact aA.drew
 refine du (λ_=>True) km λhS=>?_;rw[<-mY];clear mY;refine mj 0 1 2 3 4 5 7 8 hS ?_;refine lG 9 10 11 12 hS ?_;refine jR 13 14 hS ?_
 iterate 3 (
  all_goals(first|refine I0 6 (λKK hK=>?_)|refine I0 15 (λKK hK=>?_)|refine I0 17 (λKK hK=>?_)|refine Tg 6 17 (λKK hK=>?_) (λKK hK=>?_)|refine Tg 15 17 (λKK hK=>?_) (λKK hK=>?_))
  all_goals(first
   |(
    refine Tag.go 6 ?_;refine iw (tc (sub m 2 10) _ _ 8 tJ _ (ae ZB _ _ (aj b1 BV)) jg hl8 hl9 bJ7) ?_;rintro z9 v'⟨rfl,hb⟩;refine⟨_,rfl,?_⟩)
   |(
    refine Tag.go 15 ?_;refine iw (iT (n:=N) (l:=sub m 10 (10+N)) HS3 (ae JK _ _ (aj b1 BV)) bJ6) ?_;rintro z9 v'⟨p3,c3,rfl,o3,hb⟩;refine⟨_,rfl,?_⟩
    try have RN:=ag (λb e=>show b≠R by have:=(Own.lt o3 b e).1;have:=RC.1;omega)
    have RO:=ag (ai (Own.mono o3 BV.size) (λb e=>(Own.lt o3 b e).2));have T16:=km;clear o3)
   |(
    refine Tag.go 17 ?_;go_simp;obtain⟨v',hv,hb,zv,cv',-⟩:=au v #[.U 0,aq] 74;rw[<-hv]
    try have RN:=ag (λb e=>show b≠v.heap.size by have:=RO.2 b e;omega)
    have RB:=ag BV.size
    let⟨R,hR⟩:=aB v.heap.size
    rw[<-hR]at cv'⊢
    try rw[<-hR]at RN
    rw[<-hR]at RB;have RC:=ag (ai (by omega:R<v'.heap.size) cv');clear hv zv cv' hR))
  all_goals(
   have zb:=hb.size
   try have RO:=ag (ai (Own.below RO.1 hb) (λb e=>iq (RO.2 b e) zb))
   try have RC:=ag (ai (iq RC.1 zb) (RC.2.below RC.1 hb))
   have BV:=ag (aj BV hb);refine fh hK km λhS=>?_;clear hK KK hb zb
   try(
    clear T16;refine tk 16 hS (h:=?_);simp only[Act.put,xa,xb,xc])
   rename World=>v
   skip))
 all_goals(
  refine cX 18 (λKK hK=>?_);have n0:=RC.2.1 0 _ rfl;have n1:=RC.2.1 1 _ rfl;have nf:=RC.2.2;go_simp;refine fh hK km λhS=>?_;clear hK KK hS;refine cY ?_;go_wp2_with fail;go_meet;refine⟨R,p3,c3,rfl,ae RB,⟨by simp[go_sem,n0,n1],by simp[go_sem,n0,n1]⟩,?_,(ae BV |>.setCell (by exact ae RB) _).setCell (by exact ae RB) _⟩;exact Own.cq6 RO.1 RN _ _))
 case rest=>(
 obtain⟨R,pb,cb,rfl,vd,hA,oB,En⟩:=hcut;have bc:=aj b1 En;have qy:=ho1.below En;have bP9:=HM.2.1.sub 10 (10+N);have u4:=dQ HS4 (ae HR4 (cap-a) _ bc.drew);have hch:∀(vs:Array Value)(w:World),(callFunc 71 vs).run prog w=.ok (.enter 71 vs) w:=λvs w=>bg;clear En ua hcg ZB JK tJ;go_wp2_with fail;refine du (λw'=>Ty w' R (.U (num (sub m 2 10))) (.S pb N cb)/\(convert 22 9 (.S (some (Ad b (o+a))) (14+N) (cap-a))).run prog w'=.ok (.string (aP (sub m 0 (14+N)))) w') ⟨hA,u4⟩ λhS=>?_;refine mj 0 3 4 5 6 7 8 9 hS ?_;refine tn 10 hS ?_;refine ry [1] ?_;refine cn (λKK hK=>?_) ?_;{
 refine im aJ (f:=71) aJ (v1:=yY (num (sub m 2 10)) (.S pb N cb)) aJ (λ_=>hch _ _) (Uh (s:=num (sub m 2 10)) (p:=pb) (c:=cb) (n:=N) (l:=sub m 10 (10+N)) HS3 (oB.rd.below (cQ wc.heap.size wc).drew) bP9 JA sq0 sq1) ?_;rintro e w5⟨p5,c5,rfl,o5,bM7⟩;refine⟨_,rfl,?_⟩;have fT:Bw wc w5:=aj (cQ wc.heap.size wc).drew bM7;have A5:=hA.below fT;have u5:=dQ HS4 (ae HR4 (cap-a) _ (aj bc fT));have e5:=dQ (l:=DY (num (sub m 2 10)) (sub m 10 (10+N))) (by rw[CQ,ae HS3]) o5.rd;refine hK.out _ _ ?_ (λhS=>?_);{exact⟨A5,u5⟩};clear hK KK
 try simp only[Act.put,aU7,GW,ak0]
 refine cX 2 λKK hK=>?_;go_simp;refine hK.out _ _ ?_ (λhS=>?_);{exact⟨A5,u5⟩};clear hK KK
 try simp only[Act.put,aU7,GW,ak0]
 refine tn 11 hS ?_;refine cY ?_;have b5:=aj bc fT;have MW:=qy.below fT;have oB5:Own w.heap.size w5 (.S pb N cb) (sub m 10 (10+N)):=Own.mono (Own.below oB fT) b1.size;have aN4:∀u'∈vs,IC u' (.S pb N cb):=λu' hu' bb e1 e2=>by have h1:=ho1.lt u' hu' bb e1;have h2:=(Own.lt oB bb e2).1;omega
 have HC:=ag (qU (PO (s:=num (sub m 2 10)) bP9) (HM.2.1.sub 0 (14+N)));have HNB:=ag (show¬(m.length<14+N\/1000<N) by have:=HM.2.2.1;have:=ae HA;omega);have AL:=ag (show a+(14+N)<=len by have:=ae HA;omega);clear fT bM7 o5 hA u4 qy bc oB hS u5 e5 k1 k2 k3 k4 k5 k6 k7 k8 k9 k10 k11 g1 g2 g3 g4 wA2 co8 co7 wE wZ HR4 HS4 hch hl8 hl9 bJ7 bJ6 jg ho1 Ng hZ' e2 e10 e14 eZ eE bQ4 HZ;have Tj:=ag hinv.2.1;rw[ae HC];clear HC;by_cases hq:DY (num (sub m 2 10)) (sub m 10 (10+N))=sub m 0 (14+N);{
 have Ch:ki (l.drop a)=some (num (sub m 2 10),sub m 10 (10+N)):=by obtain⟨em,-,hml,-,eN,-⟩:=ae HM;have:=ae HA;rw[<-em];unfold ki;rw[<-eN,bH (ae HNB),bO hq]
 have Wf:=ag Ch;rw[BJ hq,Bool.not_true];clear hq Ch;by_cases hK0:K=0;{
 subst hK0;have iI:IF (iJ rs) (num (sub m 2 10))=true:=by rw[D8 (ae eK)];rfl
 have tQ:=ag iI;clear iI;go_wp2_with(at_builtin;refine uv rfl rfl (B:=w.heap.size) (v:=.S pv 0 cv) (rs:=rs) (vs:=vs) (n:=0) eK w5.heap.size rfl rfl (MW.below (aA.alloc ay _)) (r:=(num (sub m 2 10),sub m 10 (10+N))) (u:=.S pb N cb) al al (Own.below oB5 (aA.alloc ay _)) aN4 af (by have:=b5.size;simp;omega) ?_);intro p9 c9 w9 hR9 AY;have b9:Bw w w9:=(b5.alloc b5.size _).grown AY (by have:=b5.size;simp;omega) (λbb e=>(MW.Wz bb e).1);have eN3:=ae HS3;have hnx:=ag (hinv.next (by rw[ae el];exact Vm) (ae Wf) (ae tQ) ⟨af,sq0,sq1⟩);have eKn:Hid ((rs++[(num (sub m 2 10),sub m 10 (10+N))]).length=0+1):=by show _=_;rw[gU,ae eK];rfl
 clear AY MW oB5 aN4 b5 A5;go_wp2;go_roundw
 case rel=>(
 refine⟨a+(14+N),f-1,0+1,_,p9,c9,_,AL,by go_num,rfl,eKn,?_,hR9,b9⟩;have:=ae hnx;rw[eN3]at this;exact this)
 case measure=>simp[intOf];omega}
 {
 have hkr:K-1<rs.length:=by rw[ae eK];omega
 obtain⟨⟨t,bt⟩,KI⟩:∃r,rs[K-1]?=some r:=⟨_,aY hkr⟩;have Ro:iJ rs=some t:=by unfold iJ;rw[WM,ae eK,KI];rfl
 let⟨t0,t1⟩:=hinv.2.2.2.2 _ (aT KI) |>.2
 obtain⟨u,hu⟩:∃u,vs[K-1]?=some u:=⟨_,aY (by rw[MW.len];exact hkr)⟩;rcases id MW.row.2 with⟨_,h0⟩|⟨g,NQ,cur,ev,Oq,hgg,_,_,_,_⟩;{have:=ae eK;omega};{
 simp only[pW]at ev;obtain⟨rfl,-,rfl⟩:=ev;have Yh:=MW.row;rw[ae eK]at Yh;have d0:=(Yh.cellAt (2*(K-1)) af).trans (nT rs vs (K-1) _ u KI hu).1;rw[QL]at d0;dsimp only at d0
 let⟨K1,eK1⟩:=aL (K-1)
 rw[eK1]at d0;have Xt:(K:Int)-1=(K1:Int):=af;have hK2:=mW 0 K;have Z9:=aU K1 K;have hK4:0<K:=af;have hK5:K1<=1048578:=af;have hK6:(K1:Int)<=1048578:=af;have hK7:=e8 K1;clear hkr KI hu Yh hgg eK1;by_cases iI:IF (some t) (num (sub m 2 10))=true;{
 have tQ:Hid (IF (iJ rs) (num (sub m 2 10))=true):=by show _=_;rw[Ro];exact iI
 have e1:t≠18446744073709551615/\num (sub m 2 10)=t+1:=by simpa[IF]using iI
 have f1:(t==18446744073709551615)=false:=by simp[e1.1]
 have f2:IntKind.u64.wrap (t+1)=t+1:=u64_wrap_id _ af af;have f3:(num (sub m 2 10) != t+1)=false:=by simp[e1.2]
 clear iI Ro e1;go_wp2_with(at_builtin;refine uv rfl rfl (B:=w.heap.size) (v:=.T g K cv) (rs:=rs) (vs:=vs) (n:=K) eK w5.heap.size rfl rfl (MW.below (aA.alloc ay _)) (r:=(num (sub m 2 10),sub m 10 (10+N))) (u:=.S pb N cb) al al (Own.below oB5 (aA.alloc ay _)) aN4 af (by have:=b5.size;simp;omega) ?_);intro p9 c9 w9 hR9 AY;have b9:Bw w w9:=(b5.alloc b5.size _).grown AY (by have:=b5.size;simp;omega) (λbb e=>(MW.Wz bb e).1);have eN3:=ae HS3;have hnx:=ag (hinv.next (by rw[ae el];exact Vm) (ae Wf) (ae tQ) ⟨af,sq0,sq1⟩);have eKn:Hid ((rs++[(num (sub m 2 10),sub m 10 (10+N))]).length=K+1):=by show _=_;rw[gU,ae eK];rfl
 clear AY MW oB5 aN4 b5 A5;go_wp2;go_roundw
 case rel=>(
 refine⟨a+(14+N),f-1,K+1,_,p9,c9,_,AL,by go_num,rfl,eKn,?_,hR9,b9⟩;have:=ae hnx;rw[eN3]at this;exact this)
 case measure=>simp[intOf];omega}
 {
 have bh3:IF (some t) (num (sub m 2 10))=false:=by simpa using iI
 have tj:=ag (hinv.bC2 (by rw[ae el];exact Vm) (ae Wf) (by rw[Ro];exact bh3));by_cases ht:t=18446744073709551615;{
 have f1:(t==18446744073709551615)=true:=by simp[ht]
 clear iI bh3 Ro ht;go_wp2;refine dJ (v:=.tuple #[.T g K cv,.I (a:Int)]) (by simp[results,results33,go_sem]) rfl (rT (ae tj) eK Tj MW b5)};{
 have bS:num (sub m 2 10)≠t+1:=by intro e;apply iI;simp[IF,ht,e]
 have f1:(t==18446744073709551615)=false:=by simp[ht]
 have f2:IntKind.u64.wrap (t+1)=t+1:=u64_wrap_id _ af af;have f3:(num (sub m 2 10) != t+1)=true:=by simp[bS]
 clear iI bh3 Ro ht bS;go_wp2;refine dJ (v:=.tuple #[.T g K cv,.I (a:Int)]) (by simp[results,results33,go_sem]) rfl (rT (ae tj) eK Tj MW b5)}}}}};{
 have tj:=ag (hinv.stop (by obtain⟨em,-,hml,-,eN,-⟩:=ae HM;have:=ae HA;rw[<-em];unfold ki;rw[<-eN,bH (ae HNB),bH hq]))
 rw[tW hq,al1];clear hq;go_wp2;refine dJ (v:=.tuple #[.S pv K cv,.I (a:Int)]) (by simp[results,results33,go_sem]) rfl (rT (ae tj) eK Tj MW b5)}};exact eh)}}
 {have bQ4:¬(A14:Int)<=(len:Int):=af;have tj:=ag (hinv.stop (Gf (by rw[r9,ae el];omega)));have Tj:=ag hinv.2.1;clear bl7 Vp bl8;go_wp2;refine dJ (v:=.tuple #[.S pv K cv,.I (a:Int)]) (by simp[results,results33,go_sem]) rfl (rT (ae tj) eK Tj ho aM)}}
def fW(h:Below w.heap.size w u){o:Obj}:Below w.heap.size w (u.alloc o):=h.alloc h.size o
def ab9{v:Nat}(h64:v<2^64)(eM:Hid ((vi v).length=M)):Cp 99 #[.int .u64 v] w λe w'=>∃p' c',e=.returned (.slice p' M c')/\Own w.heap.size w' (.slice p' M c') (vi v)/\Below w.heap.size w w':=by
 have e:=ae eM;subst e;exact lQ h64
def XH(h:b=u.heap.size):(u.alloc (.cells #[x] t)).cell? (Ad b 0)=some x:=by subst h;simp
def XG(h:u.cell? (Ad b o)=some v):(u.alloc ob).cell? (Ad b o)=some v:=ah h (aA.alloc ay _)
def XF(h:u.cell? (Ad b o)=some v):u.drew.cell? (Ad b o)=some v:=h
def rd1(h:u.cell? (Ad b 0)=some (.int .u8 y)):Rd u (.slice (some (Ad b 0)) 1 1) [y]:=by
 refine⟨_,_,rfl,.inr ⟨b,0,rfl,λi hi=>?_⟩⟩;have e:i=0:=by simpa using hi
 subst e;simpa using h
def aK8{l0 l1 l2 l3 l4 lm:LI}(e:Hid (lm=cat [l0,l1,l2,l3,l4]))(en:Le lm N)(r0:Rd X v0 l0)(r1:Rd X v1 l1)(r2:Rd X v2 l2)(r3:Rd X v3 l3)(r4:Rd X v4 l4)(hl:N<=4194304)(hG:G=X.heap.size):Cp 98 #[.slice (some (Ad G 0)) 5 5] (X.alloc (.cells #[v0,v1,v2,v3,v4] 22)) λe w'=>∃p' c',e=.returned (.slice p' N c')/\Own X.heap.size w' (.slice p' N c') lm/\Below X.heap.size X w':=by
 subst hG;have ba:Below X.heap.size X (X.alloc (.cells #[v0,v1,v2,v3,v4] 22)):=aA.alloc ay _;refine(fK [l0,l1,l2,l3,l4] 5 rfl e en (ag3 al al al al al (r0.below ba) (r1.below ba) (r2.below ba) (r3.below ba) (r4.below ba)) hl af).mono ?_;rintro e w'⟨p',c',rfl,o,hb⟩;exact⟨p',c',rfl,Own.mono o al,aj ba hb⟩
def cK7{x4:World}(fy:Below X.heap.size X x4)(oj:Own X.heap.size x4 v l)(hX:Below w.heap.size w X):Own w.heap.size x4 v l/\Below w.heap.size w x4:=⟨Own.mono oj hX.size,aj hX fy⟩
def D5(k s:Nat)(P:LI)(f:Nat)(V:LI):LI:=[(k:Int)]++(vi s++(tx P++([(f:Int)]++tx V)))
theorem xt(k:Nat)(mT:1<=k)(uW:k<=13){vs:Int}(s f:Nat)(hs:s<2^64)(hf:f<=2)(P V:LI)(ep:Le P n)(ev:Le V m)(hp:Rd w (.slice p n c) P)(hv:Rd w (.slice q m d) V)(hn:Mg n)(hm:Mg m)(hT:xD w 1 (k*7) se pa lo hi vs sq true)(eB:Hid (fmF se pa lo hi vs sq s f n m e g=true))(eN:Hid ((D5 k s P f V).length=N)):Calls prog 240 #[zl k s (.slice p n c) f (.slice q m d) e g] w λr w'=>∃p' c',r=.returned (.slice p' N c')/\Own w.heap.size w' (.slice p' N c') (D5 k s P f V)/\Below w.heap.size w w':=by
 have h1:=dC 1 k;have h2:(k:Int)<=13:=af;have h3:(k:Int)<14:=af;have h4:k<14:=af;have h5:=dC 0 k;have wk:IntKind.u8.wrap (k:Int)=(k:Int):=by rw[zJ];omega
 have wf:IntKind.u8.wrap (f:Int)=(f:Int):=by rw[zJ];omega
 have HP:=ag λ(w':World)(hb:Below w.heap.size w w')=>hp.below hb;have HV:=ag λ(w':World)(hb:Below w.heap.size w w')=>hv.below hb;clear hp hv
 go_in
 go_wp2_with fail
 let⟨W,hW⟩:=aB (w.alloc (.cells #[.int .i64 k,.int .u64 s,.slice p n c,.int .i64 f,.slice q m d,.int .u64 e,.int .u64 g] 121))
 have bW:=dX hW;have hA:sy W w.heap.size (.int .i64 k) (.int .u64 s) (.slice p n c) (.int .i64 f) (.slice q m d) (.int .u64 e) (.int .u64 g):=by rw[hW];simp[sy,go_sem]
 have zW:w.heap.size<W.heap.size:=by rw[hW];simp
 have hTW:=hT.below bW;rw[<-hW];clear hW hT;refine(oY mT uW hTW eB).mono ?_;rintro r w1⟨rfl,aG⟩;have Rz:=hA.below aG;have hT1:=hTW.below aG;have b1:=aj bW aG;have z1:=aG.size;clear hA hTW bW aG;obtain⟨a0,a1,a2,a3,a4,a5,a6⟩:=Rz;obtain⟨t0,t1,t2,t3,t4,t5,t6⟩:=hT1;obtain⟨M,eM⟩:∃M,Hid ((vi s).length=M):=⟨_,rfl⟩;obtain⟨N1,eN1⟩:∃M,Hid ((tx P).length=M):=⟨_,rfl⟩;obtain⟨N2,eN2⟩:∃M,Hid ((tx V).length=M):=⟨_,rfl⟩;have Rz:sy w1 w.heap.size (.int .i64 k) (.int .u64 s) (.slice p n c) (.int .i64 f) (.slice q m d) (.int .u64 e) (.int .u64 g):=⟨a0,a1,a2,a3,a4,a5,a6⟩;have EE:Hid (D5 k s P f V=cat [[(k:Int)],vi s,tx P,[(f:Int)],tx V]):=by show _=_;rw[cO6];rfl
 have hNb:N<=4194304:=by have h1:=fg s;have h2:=uy P;have h3:=uy V;have h4:=ae eN;rw[D5]at h4;simp only[gU,iS,BO]at h4;rw[ae ep]at h2;rw[ae ev]at h3;omega
 go_wp2_with fail;clear a0 a1 a2 a3 a4 a5 a6 t0 t1 t2 t3 t4 t5 t6
 go_region_held3 (λw'=>sy w' w.heap.size (.int .i64 k) (.int .u64 s) (.slice p n c) (.int .i64 f) (.slice q m d) (.int .u64 e) (.int .u64 g)) (exact sy.below Rz (by repeat(first|with_reducible exact cQ _ _|with_reducible refine fW ?_|with_reducible refine GH ?_|with_reducible refine aj ?_ fy|with_reducible refine aj ?_ br|with_reducible refine aj ?_ aK|with_reducible refine aj ?_ aG)))
  (first
   |(go_at_call 99;with_reducible refine(ab9 hs eM).mono ?_;rintro r x1⟨pv,cv,rfl,ov,aG⟩)
   |(go_at_call 167;with_reducible refine(mn (p:=p) (c:=c) ep (by exact ae HP _ (by repeat(first|with_reducible exact b1|with_reducible refine fW ?_|with_reducible refine GH ?_|with_reducible refine aj ?_ br|with_reducible refine aj ?_ aK|with_reducible refine aj ?_ aG))) hn eN1).mono ?_;rintro r x2⟨pt,ct,rfl,ot,aK⟩)
   |(go_at_call 167;with_reducible refine(mn (p:=q) (c:=d) ev (by exact ae HV _ (by repeat(first|with_reducible exact b1|with_reducible refine fW ?_|with_reducible refine GH ?_|with_reducible refine aj ?_ br|with_reducible refine aj ?_ aK|with_reducible refine aj ?_ aG))) hm eN2).mono ?_;rintro r x3⟨pu,cu,rfl,ou,br⟩)
   |(go_at_call 98;with_reducible refine(aK8 EE eN (by exact rd1 (by repeat(first|with_reducible exact XH al|with_reducible refine XG ?_|with_reducible refine XF ?_|with_reducible refine ah ?_ br|with_reducible refine ah ?_ aK|with_reducible refine ah ?_ aG))) (by exact Rd.below ov.rd (by repeat(first|with_reducible exact cQ _ _|with_reducible refine fW ?_|with_reducible refine GH ?_|with_reducible refine aj ?_ br|with_reducible refine aj ?_ aK))) (by exact Rd.below ot.rd (by repeat(first|with_reducible exact cQ _ _|with_reducible refine fW ?_|with_reducible refine GH ?_|with_reducible refine aj ?_ br|with_reducible refine aj ?_ aK))) (by exact rd1 (by repeat(first|with_reducible exact XH al|with_reducible refine XG ?_|with_reducible refine XF ?_|with_reducible refine ah ?_ br|with_reducible refine ah ?_ aK|with_reducible refine ah ?_ aG))) (by exact Rd.below ou.rd (by repeat(first|with_reducible exact cQ _ _|with_reducible refine fW ?_|with_reducible refine GH ?_|with_reducible refine aj ?_ br|with_reducible refine aj ?_ aK))) af al).mono ?_;rintro r x4⟨pj,cj,rfl,oj,fy⟩))
 all_goals(
  have tj:=cK7 (w:=w) fy oj (by repeat(first|with_reducible exact b1|with_reducible refine fW ?_|with_reducible refine GH ?_|with_reducible refine aj ?_ br|with_reducible refine aj ?_ aK|with_reducible refine aj ?_ aG));clear fy oj aG aK br ov ot ou;go_wp2;go_ret;exact⟨pj,cj,rfl,tj⟩)
def H6{f:Int}(h1:1<=k)(h2:k<=13)(h:Fg k s f n m e g=true):0<=f/\f<=2:=by
 unfold Fg fmF at h;simp only[fk,jj]at h;obtain⟨-,-,ZR,hhi,-⟩:=h;rcases kinds h1 h2 with rfl|rfl|rfl|rfl|rfl|rfl|rfl|rfl|rfl|rfl|rfl|rfl|rfl<;>simp[rowOf]at ZR hhi<;>omega
def sy.VU{v5 v6:Value}(h:sy w b v0 v1 v2 v3 v4 v5 v6)(hb:Below B w w')(hl:b<B):sy w' b v0 v1 v2 v3 v4 v5 v6:=by
 have e:=λo=>hb.cell (p:=(Ad b o)) hl;exact⟨(e 0).trans h.1,(e 1).trans h.2.1,(e 2).trans h.2.2.1,(e 3).trans h.2.2.2.1,(e 4).trans h.2.2.2.2.1,(e 5).trans h.2.2.2.2.2.1,(e 6).trans h.2.2.2.2.2.2⟩
def an3{F:Int}(wk:IntKind.u8.wrap K=(k:Int))(wf:IntKind.u8.wrap F=(f:Int)){s:Nat}(hs:s<2^64)(ep:Le P n)(ev:Le V m)(hp:Rd w (.S p n c) P)(hv:Rd w (.S q m d) V)(hn:Mg n)(hm:Mg m)(eN:Hid ((D5 k s P f V).length=N)):Calls prog 142 #[zl K s (.S p n c) F (.S q m d) e g] w λr w'=>∃p' c',r=.returned (.S p' N c')/\Own w.heap.size w' (.S p' N c') (D5 k s P f V)/\Bw w w':=by
 have HP:=ag λ(w':World)(hb:Bw w w')=>hp.below hb;have HV:=ag λ(w':World)(hb:Bw w w')=>hv.below hb;obtain⟨M,eM⟩:∃M,Hid ((vi s).length=M):=⟨_,rfl⟩;obtain⟨N1,eN1⟩:∃M,Hid ((tx P).length=M):=⟨_,rfl⟩;obtain⟨N2,eN2⟩:∃M,Hid ((tx V).length=M):=⟨_,rfl⟩;have hM:M<=10:=by have:=fg s;rw[ae eM]at this;omega
 have Ow:N1<=1048586:=by have:=uy P;rw[ae eN1,ae ep]at this;omega
 have DG:N2<=1048586:=by have:=uy V;rw[ae eN2,ae ev]at this;omega
 obtain⟨A1,Rz⟩:∃l,Hid (l=[(k:Int)]++vi s):=⟨_,rfl⟩;obtain⟨A2,Vp⟩:∃l,Hid (l=A1++tx P):=⟨_,rfl⟩;obtain⟨A3,hA3⟩:∃l,Hid (l=A2++[(f:Int)]):=⟨_,rfl⟩;have hA4:Hid (D5 k s P f V=A3++tx V):=by show _=_;rw[ae hA3,ae Vp,ae Rz,D5];simp
 have lA1:Hid (A1.length=1+M):=by show _=_;rw[ae Rz,gU,ae eM];rfl
 have lA2:Hid (A2.length=1+M+N1):=by show _=_;rw[ae Vp,gU,ae lA1,ae eN1]
 have lA3:Hid (A3.length=1+M+N1+1):=by show _=_;rw[ae hA3,gU,ae lA2];rfl
 go_in
 go_wp2_with fail
 let⟨W0,fL⟩:=aB (w.alloc (.cells #[.I K,.U s,.S p n c,.I F,.S q m d,.U e,.U g] 121))
 have bW0:=dX fL;have hO0:sy W0 w.heap.size (.I K) (.U s) (.S p n c) (.I F) (.S q m d) (.U e) (.U g):=by rw[fL];simp[sy,go_sem]
 have zW0:W0.heap.size=w.heap.size+1:=by rw[fL];simp
 rw[<-fL];have oo:Own W0.heap.size (W0.alloc (.cells #[.int .u8 (k:Int)] 5)) (.T W0.heap.size 1 1) [(k:Int)]:=Own.one W0 k;rw[zW0]at oo;obtain⟨W,hW⟩:∃W,W=W0.alloc (.cells #[.int .u8 (k:Int)] 5):=⟨_,rfl⟩;have bW:Bw w W:=hW▸bW0.alloc bW0.size _;have hO:sy W w.heap.size (.I K) (.U s) (.S p n c) (.I F) (.S q m d) (.U e) (.U g):=hO0.below (hW▸aA.alloc ay _);have zW:w.heap.size+1<W.heap.size:=by rw[hW];simp;omega
 rw[<-hW]at oo⊢;refine(Cf 9 s _ af hs af M eM).mono ?_;rintro r x1⟨pv,cv,rfl,ov,aG⟩;have oo1:=Own.below oo aG;have hO1:=hO.below aG;have b1:=aj bW aG;have r1:Rd x1 (.S pv M cv) (vi s):=ov.rd;have z1:=aG.size
 let⟨a0,a1,a2,a3,a4,a5,a6⟩:=id hO1
 go_wp2_with(at_builtin;refine bQ rfl rfl (B:=w.heap.size+1) (.T (w.heap.size+1) 1 1) (l:=[(k:Int)]) (m:=vi s) (lm:=A1) Rz pv cv M eM rfl rfl oo1 r1 (by rw[ae eM];simp;omega) af ?_);intro p2 c2 x2 o2 gI;have b2:=dA b1 gI oo1 af af;have hO2:=hO1.VU ((cQ (w.heap.size+1) x1).grown gI af (λk e=>(oo1.lt k e).1)) af;have z2:=gI.size;rw[ae lA1]at o2⊢
 let⟨a0,a1,a2,a3,a4,a5,a6⟩:=id hO2
 go_wp2_with fail;refine(ta (p:=p) (c:=c) (n:=n) (l:=P) ep (ae HP _ b2) hn (N:=N1) eN1).mono ?_;rintro r x3⟨pt,ct,rfl,ot,br⟩;have o3:=Own.below o2 br;have hO3:=hO2.below br;have b3:=aj b2 br;have r3:=ot.rd;have z3:=br.size
 let⟨a0,a1,a2,a3,a4,a5,a6⟩:=id hO3
 go_wp2_with(at_builtin;refine bQ rfl rfl (B:=w.heap.size+1) (.S p2 (1+M) c2) (l:=A1) (m:=tx P) (lm:=A2) Vp pt ct N1 eN1 rfl rfl o3 r3 (by rw[ae lA1,ae eN1];omega) af ?_);intro p4 c4 x4 o4 uX;have b4:=dA b3 uX o3 af af;have hO4:=hO3.VU ((cQ (w.heap.size+1) x3).grown uX af (λk e=>(o3.lt k e).1)) af;have z4:=uX.size;rw[ae lA2]at o4⊢
 let⟨a0,a1,a2,a3,a4,a5,a6⟩:=id hO4
 go_wp2_with(at_builtin;refine fe rfl rfl (B:=w.heap.size+1) (.S p4 (1+M+N1) c4) (l:=A2) (lm:=A3) (y:=(f:Int)) hA3 x4.heap.size rfl rfl (Own.below o4 (aA.alloc ay _)) al (by rw[ae lA2];omega) bq ?_);intro p5 c5 x5 o5 vZ;have o4A:=Own.below o4 (w':=x4.alloc (.cells #[.int .u8 (f:Int)] 5)) (aA.alloc ay _);have b5:=dA (b4.alloc b4.size _) vZ o4A af bq;have hO5:=(hO4.below (aA.alloc ay _)).VU ((cQ (w.heap.size+1) _).grown vZ bq (λk e=>(o4A.lt k e).1)) af;have z5:x4.heap.size+1<=x5.heap.size:=by have:=vZ.size;simpa using this
 rw[ae lA3]at o5⊢
 let⟨a0,a1,a2,a3,a4,a5,a6⟩:=id hO5
 go_wp2_with fail;refine(ta (p:=q) (c:=d) (n:=m) (l:=V) ev (ae HV _ b5) hm (N:=N2) eN2).mono ?_;rintro r x6⟨pu,cu,rfl,ou,ko⟩;have o6:=Own.below o5 ko;have b6:=aj b5 ko;have r6:=ou.rd;have z6:=ko.size;go_wp2_with(at_builtin;refine bQ rfl rfl (B:=w.heap.size+1) (.S p5 (1+M+N1+1) c5) (l:=A3) (m:=tx V) (lm:=D5 k s P f V) hA4 pu cu N2 eN2 rfl rfl o6 r6 (by rw[ae lA3,ae eN2];omega) af ?_);intro p7 c7 x7 o7 hg7;have b7:=dA b6 hg7 o6 af af;rw[ae eN]at o7⊢;have o8:=Own.mono (B':=w.heap.size) o7 af;go_wp2;go_ret;exact⟨p7,c7,rfl,o8,b7⟩
def Xb(uW:k<=13){s:Nat}(hs:s<2^64)(hf:f<=2)(ep:Le P n)(ev:Le V m)(hp:Rd w (.S p n c) P)(hv:Rd w (.S q m d) V)(hn:Mg n)(hm:Mg m)(eN:Hid ((D5 k s P f V).length=N)):Cp 142 #[zl k s (.S p n c) f (.S q m d) e g] w λr w'=>∃p' c',r=.returned (.S p' N c')/\Own w.heap.size w' (.S p' N c') (D5 k s P f V)/\Bw w w':=
 an3 (K:=k) (F:=f) (by rw[zJ];omega) (by rw[zJ];omega) hs (e:=e) (g:=g) ep ev hp hv hn hm eN
def af8{s:Nat}(hs:s<2^64)(hP:P.length<2^64)(hV:V.length<2^64):oB (some (D5 k s P f V))=((k:Int),some (vi s++(tx P++([(f:Int)]++tx V))))/\oV (some (vi s++(tx P++([(f:Int)]++tx V))))=((s:Int),some (tx P++([(f:Int)]++tx V)))/\oT (some (tx P++([(f:Int)]++tx V)))=(P,some ([(f:Int)]++tx V))/\oB (some ([(f:Int)]++tx V))=((f:Int),some (tx V))/\oT (some (tx V))=(V,some []):=by
 refine⟨rfl,?_,?_,rfl,?_⟩;{rw[oV,Wx _ hs]};{rw[oT,af2 _ hP]};{have:=af2 [] hV;rw[BI]at this;rw[oT,this]}
def JN(l:LI)(k s:Nat)(P:LI)(f:Nat)(V:LI):Prop:=1<=k/\k<=13/\s<2^64/\f<=2/\Fg k s f P.length V.length 0 0=true/\joR k=true/\l=D5 k s P f V
variable {f:Int}
theorem Ui(en:Le l n)(h:Rd w (.S p n c) l)(hb:aN l)(hl:Mg n)(xv:n<=c){k:Int}(e1:Hid (oB (some l)=(k,o1)))(e2:Hid (oV o1=(s,o2)))(e3:Hid (oT o2=(P,o3)))(e4:Hid (oB o3=(f,o4)))(e5:Hid (oT o4=(V,o5))){NP NV:Nat}(eP:Le P NP)(eV:Le V NV)(me:Hid (∀K S F:Nat,k=K->s=S->f=F->¬JN l K S P F V)):Calls prog 74 #[.S p n c] w (Rb (.tuple #[zl 0 0 aq 0 aq 0 0,.I 13]) w):=by
 have HB:=ag hb;have S0:Hid (jV n l (some l)):=jV.start en;have S1:Hid (jV n l o1):=by have:=BH (ae en) (ae S0);rw[ae e1]at this;exact this
 have S2:Hid (jV n l o2):=by have:=gO (ae en) (ae S1);rw[ae e2]at this;exact this
 have S3:Hid (jV n l o3):=by have:=Gp (ae en) (ae S2);rw[ae e3]at this;exact this
 have S4:Hid (jV n l o4):=by have:=BH (ae en) (ae S3);rw[ae e4]at this;exact this
 have hNP:NP<=1048576:=by have:=(rh hb (ae S2)).2;rw[ae e3]at this;rw[<-ae eP];exact fu this hl
 have hNV:NV<=1048576:=by have:=(rh hb (ae S4)).2;rw[ae e5]at this;rw[<-ae eV];exact fu this hl
 have a0:nJ n (some l)=0:=by simp[nJ,ae en]
 let⟨A1,eA1⟩:=aL (nJ n o1)
 let⟨A2,eA2⟩:=aL (nJ n o2)
 let⟨A3,eA3⟩:=aL (nJ n o3)
 let⟨A4,eA4⟩:=aL (nJ n o4)
 let⟨A5,eA5⟩:=aL (nJ n o5)
 have c1:=λw'(bN:Bw w w')=>pK en (h.below bN) hb hl S0 e1;rw[a0,eA1]at c1;have c2:=λw'(bN:Bw w w')=>BG en (h.below bN) hb hl S1 e2;rw[eA1,eA2]at c2;have c3:=λw'(bN:Bw w w')=>pI en (h.below bN) hb hl xv S2 e3 eP;rw[eA2,eA3]at c3;have c4:=λw'(bN:Bw w w')=>pK en (h.below bN) hb hl S3 e4;rw[eA3,eA4]at c4;have c5:=λw'(bN:Bw w w')=>pI en (h.below bN) hb hl xv S4 e5 eV;rw[eA4,eA5]at c5;have C1:=ag c1;have C2:=ag c2;have C3:=ag c3;have C4:=ag c4;have C5:=ag c5;have HH:=ag h
 go_in
 go_wp2_with fail
 let⟨W,hW⟩:=aB (w.alloc (.cells #[.I 0,.U 0,aq,.I 0,aq,.U 0,.U 0] 121))
 have bW:=dX hW;have hR:sy W w.heap.size (.I 0) (.U 0) aq (.I 0) aq (.U 0) (.U 0):=by rw[hW];simp[sy,go_sem]
 have fR:∀o,W.frozen? (Ad w.heap.size o)=false:=λo=>by rw[hW];simp[go_sem]
 have zW:w.heap.size<W.heap.size:=by rw[hW];simp
 rw[<-hW];clear hW;refine(ae C1 _ bW).mono ?_;rintro r w'⟨rfl,rfl⟩;go_wp2_with fail;refine(ae C2 _ bW).mono ?_;rintro r w'⟨rfl,rfl⟩;go_wp2_with fail;refine(ae C3 _ bW).mono ?_;rintro r w1⟨p1,c1,rfl,x1,aG⟩;have b1:=aj bW aG;have vd:=hR.below aG;have fR1:=cI fR zW aG;have z1:=aG.size;go_wp2_with fail;refine(ae C4 _ b1).mono ?_;rintro r w2⟨rfl,rfl⟩;go_wp2_with fail;refine(ae C5 _ b1).mono ?_;rintro r w3⟨p3,c3,rfl,x3,br⟩;have b3:=aj b1 br;have x1':=Own.below x1 br;have uf:=vd.below br;have fR3:=cI fR1 af br;have z3:=br.size;have bO3:Hid (aN P/\aN V/\0<=s/\s<2^64):=by have h1:=(rh HB S2).1;have h2:=(rh HB S4).1;have h3:=Gn (om:=o1);rw[ae e3]at h1;rw[ae e5]at h2;rw[ae e2]at h3;exact⟨h1,h2,h3.1,h3.2⟩
 let⟨X,hX⟩:=aB (w3.alloc (.cells #[.I k,.U s,.S p1 NP c1,.I f,.S p3 NV c3,.U 0,.U 0] 121))
 have Ep:=dX hX;have bX:Bw w X:=aj b3 Ep;have hRX:=uf.below Ep;have fRX:=cI fR3 af Ep;have hOX:sy X w3.heap.size (.I k) (.U s) (.S p1 NP c1) (.I f) (.S p3 NV c3) (.U 0) (.U 0):=by rw[hX];simp[sy,go_sem]
 have zX:w3.heap.size<X.heap.size:=by rw[hX];simp
 have xP:=Own.below x1' Ep;have xV:=Own.below x3 Ep;have bo:∀ob:Obj,Bw w3 (w3.alloc ob):=λob=>aA.alloc ay _;have q0:=λob=>ah uf.1 (bo ob);have q1:=λob=>ah uf.2.1 (bo ob);have q2:=λob=>ah uf.2.2.1 (bo ob);have q3:=λob=>ah uf.2.2.2.1 (bo ob);have q4:=λob=>ah uf.2.2.2.2.1 (bo ob);have q5:=λob=>ah uf.2.2.2.2.2.1 (bo ob);have q6:=λob=>ah uf.2.2.2.2.2.2 (bo ob);have qf:=λ(ob:Obj)=>cI fR3 af (bo ob)
 let⟨r0,r1,r2,r3,r4,r5,r6⟩:=id hRX
 let⟨j0,j1,j2,j3,j4,j5,j6⟩:=id hOX
 by_cases hA5:A5<0;{
 go_wp2;refine dJ (v:=.tuple #[zl 0 0 aq 0 aq 0 0,.I 13]) (by simp[results,results74,go_sem,q0,q1,q2,q3,q4,q5,q6]) rfl ⟨rfl,?_⟩
 repeat(refine ig ?_ al _)
 exact fW b3};{
 have cJ2:¬A5<0:=hA5;go_wp2_with fail;rw[<-hX]
 let⟨hPB,hVB,s0,s1⟩:=ae bO3
 by_cases hk:1<=k/\k<=13;{
 obtain⟨K,rfl⟩:∃K:Nat,k=(K:Int):=⟨k.toNat,af⟩;obtain⟨S,rfl⟩:∃S:Nat,s=(S:Int):=⟨s.toNat,af⟩;have h1:1<=K:=af;have h2:K<=13:=af
 let⟨B,eB⟩:=aL (Fg K S f NP NV 0 0)
 have DU:Hid (S<2^64):=by show _<_;omega
 have HPV:=ag (ai hPB hVB);refine(Hz h1 h2 eB).mono ?_;rintro r x1⟨rfl,tz⟩;have VS:=aj bX tz;have vd:=hRX.below tz;have hO1:=hOX.below tz;have f1:=cI fRX af tz;have zx1:=tz.size;have xP1:=Own.below xP tz;have xV1:=Own.below xV tz
 let⟨r0,r1,r2,r3,r4,r5,r6⟩:=id vd
 let⟨j0,j1,j2,j3,j4,j5,j6⟩:=id hO1
 cases B with
 |false=>
  go_wp2;refine dJ (v:=.tuple #[zl 0 0 aq 0 aq 0 0,.I 13]) (by simp[results,results74,go_sem,r0,r1,r2,r3,r4,r5,r6]) rfl ⟨rfl,?_⟩
  repeat(refine ig ?_ al _)
  exact VS
 | true=>
  go_wp2_with fail;refine(Dq h1 h2).mono ?_;rintro r x2⟨rfl,rfl⟩
  let⟨J,eJ⟩:=aL (joR K)
  rw[eJ];cases J with
  |false=>
   go_wp2;refine dJ (v:=.tuple #[zl 0 0 aq 0 aq 0 0,.I 13]) (by simp[results,results74,go_sem,r0,r1,r2,r3,r4,r5,r6]) rfl ⟨rfl,?_⟩
   repeat(refine ig ?_ al _)
   exact VS
  |true=>
   let⟨f0,f2⟩:=H6 h1 h2 eB
   obtain⟨F,rfl⟩:∃F:Nat,f=(F:Int):=⟨f.toNat,af⟩;have hF:F<=2:=af;have hd:decide (D5 K S P F V=l)=false:=by simp only[xS];intro e;exact ae me K S F rfl rfl rfl ⟨h1,h2,ae DU,hF,by rw[ae eP,ae eV];exact eB,eJ,e.symm⟩
   have HD:=ag hd;obtain⟨M,eM⟩:∃M,Hid ((D5 K S P F V).length=M):=⟨_,rfl⟩;go_wp2_with fail;refine(Xb h2 DU hF eP eV xP1.rd xV1.rd hNP hNV eM).mono ?_;rintro r x3⟨p5,c5,rfl,o5',fT⟩;have bx3:=aj VS fT;have uf:=vd.below fT;have f3:=cI f1 af fT;have zx3:=fT.size
   let⟨r0,r1,r2,r3,r4,r5,r6⟩:=id uf
   go_wp2_with fail;refine(jS eM en o5'.rd (HH.below bx3) (by refine aN.app (λz hz=>by simp at hz;subst hz;omega) (aN.app (ky (ae DU)) (aN.app ?_ (aN.app (λz hz=>by simp at hz;subst hz;omega) ?_)));{exact aN.app (ky (by rw[ae eP];omega)) HPV.1};{exact aN.app (ky (by rw[ae eV];omega)) HPV.2}) (ae HB)).mono ?_
   rintro r x4⟨rfl,ko⟩;rw[ae HD];have bx4:=aj bx3 ko;have hR4:=uf.below ko;have f4:=cI f3 af ko
   let⟨r0,r1,r2,r3,r4,r5,r6⟩:=id hR4
   go_wp2;refine dJ (v:=.tuple #[zl 0 0 aq 0 aq 0 0,.I 13]) (by simp[results,results74,go_sem,r0,r1,r2,r3,r4,r5,r6]) rfl ⟨rfl,?_⟩
   repeat(refine ig ?_ al _)
   exact bx4};{
 refine(Hy af).mono ?_;rintro r x1⟨rfl,tz⟩;have VS:=aj bX tz;have vd:=hRX.below tz;have f1:=cI fRX af tz
 let⟨r0,r1,r2,r3,r4,r5,r6⟩:=id vd
 go_wp2;refine dJ (v:=.tuple #[zl 0 0 aq 0 aq 0 0,.I 13]) (by simp[results,results74,go_sem,r0,r1,r2,r3,r4,r5,r6]) rfl ⟨rfl,?_⟩
 repeat(refine ig ?_ al _)
 exact VS}}
theorem MU(mT:1<=k)(uW:k<=13){vs:Int}{jo:Bool}(hT:xD w 1 (k*7) se pa lo hi vs sq jo){B:Bool}(eB:Hid (fmF se pa lo hi vs sq s f n m e g=B))(eJ:(B&&jo)=false):Calls prog 240 #[zl k s (.S p n c) f (.S q m d) e g] w (Rb aq w):=by
 have h1:=dC 1 k;have h2:(k:Int)<=13:=af;have h3:(k:Int)<14:=af;have h4:k<14:=af;have h5:=dC 0 k
 go_in
 go_wp2_with fail
 let⟨W,hW⟩:=aB (w.alloc (.cells #[.I k,.U s,.S p n c,.I f,.S q m d,.U e,.U g] 121))
 have bW:=dX hW;have hA:sy W w.heap.size (.I k) (.U s) (.S p n c) (.I f) (.S q m d) (.U e) (.U g):=by rw[hW];simp[sy,go_sem]
 have hTW:=hT.below bW;rw[<-hW];clear hW hT;refine(oY mT uW hTW eB).mono ?_;rintro r w1⟨rfl,aG⟩;have Rz:=hA.below aG;have hT1:=hTW.below aG;have b1:=aj bW aG;clear hA hTW bW aG;obtain⟨a0,a1,a2,a3,a4,a5,a6⟩:=Rz;obtain⟨t0,t1,t2,t3,t4,t5,t6⟩:=hT1;cases B with
 |false=>
  go_wp2;go_ret;exact⟨rfl,b1⟩
 |true=>
  rw[pQ]at eJ;subst eJ;go_wp2;go_ret;exact⟨rfl,b1⟩
variable {k:Int}
def Jm(hk:k<1\/13<k):Calls prog 240 #[zl k s (.S p n c) f (.S q m d) e g] w (Rb aq w):=by
 go_in
 go_wp2_with fail
 let⟨W,hW⟩:=aB (w.alloc (.cells #[.I k,.U s,.S p n c,.I f,.S q m d,.U e,.U g] 121))
 have bW:=dX hW;rw[<-hW];clear hW;refine(Fs hk).mono ?_;rintro r x1⟨rfl,aG⟩;have b1:=aj bW aG;clear bW aG;go_wp2;go_ret;exact⟨rfl,b1⟩
abbrev Oe(F:Nat)(w:World)(k s f e g:Int)(n m N:Nat)(P V R:LI):Prop:=
 ∀(q1 q2:OA)(d1 d2:Nat)(w':World),Bw w w'->Rd w' (.S q1 n d1) P->Rd w' (.S q2 m d2) V->Calls prog F #[zl k s (.S q1 n d1) f (.S q2 m d2) e g] w' λr w''=>∃p' c',r=.returned (.S p' N c')/\Own w'.heap.size w'' (.S p' N c') R/\Bw w' w''
def aw0(h:∀(q1 q2:OA)(d1 d2:Nat)(w':World),Bw w w'->Calls prog F #[zl k s (.S q1 n d1) f (.S q2 m d2) e g] w' λr w''=>r=.returned aq/\Bw w' w''):Oe F w k s f e g n m 0 P V []:=
 λq1 q2 d1 d2 w' hb _ _=>(h q1 q2 d1 d2 w' hb).mono (by rintro r w''⟨rfl,h2⟩;exact⟨none,0,rfl,gm _ _ _ _,h2⟩)
def Pq(en:Le l n)(h:Rd w (.S p n c) l)(hb:aN l)(hl:Mg n)(xv:n<=c)(e1:Hid (oB (some l)=(k,o1)))(e2:Hid (oV o1=(s,o2)))(e3:Hid (oT o2=(P,o3)))(e4:Hid (oB o3=(f,o4)))(e5:Hid (oT o4=(V,o5))){NP NV:Nat}(eP:Le P NP)(eV:Le V NV){K S:Nat}(hk:k=K)(hs:s=S)(hf:f=F)(ho:o5=some [])(cD2:JN l K S P F V):Calls prog 74 #[.S p n c] w λr w'=>∃p' c' q' d' B,r=.returned (.tuple #[zl K S (.S p' NP c') F (.S q' NV d') 0 0,.I 0])/\w.heap.size<=B/\Own w.heap.size w' (.S p' NP c') P/\Btw w.heap.size B (.S p' NP c')/\Own B w' (.S q' NV d') V/\Bw w w':=by
 obtain⟨h1,h2,hS,hF,hfm,hj,hdl⟩:=cD2;have HB:=ag hb;have S0:Hid (jV n l (some l)):=jV.start en;have S1:Hid (jV n l o1):=by have:=BH (ae en) (ae S0);rw[ae e1]at this;exact this
 have S2:Hid (jV n l o2):=by have:=gO (ae en) (ae S1);rw[ae e2]at this;exact this
 have S3:Hid (jV n l o3):=by have:=Gp (ae en) (ae S2);rw[ae e3]at this;exact this
 have S4:Hid (jV n l o4):=by have:=BH (ae en) (ae S3);rw[ae e4]at this;exact this
 have hNP:NP<=1048576:=by have:=(rh hb (ae S2)).2;rw[ae e3]at this;rw[<-ae eP];exact fu this hl
 have hNV:NV<=1048576:=by have:=(rh hb (ae S4)).2;rw[ae e5]at this;rw[<-ae eV];exact fu this hl
 have a0:nJ n (some l)=0:=by simp[nJ,ae en]
 let⟨A1,eA1⟩:=aL (nJ n o1)
 let⟨A2,eA2⟩:=aL (nJ n o2)
 let⟨A3,eA3⟩:=aL (nJ n o3)
 let⟨A4,eA4⟩:=aL (nJ n o4)
 let⟨A5,eA5⟩:=aL (nJ n o5)
 have c1:=λw'(bN:Bw w w')=>pK en (h.below bN) hb hl S0 e1;rw[a0,eA1]at c1;have c2:=λw'(bN:Bw w w')=>BG en (h.below bN) hb hl S1 e2;rw[eA1,eA2]at c2;have c3:=λw'(bN:Bw w w')=>pI en (h.below bN) hb hl xv S2 e3 eP;rw[eA2,eA3]at c3;have c4:=λw'(bN:Bw w w')=>pK en (h.below bN) hb hl S3 e4;rw[eA3,eA4]at c4;have c5:=λw'(bN:Bw w w')=>pI en (h.below bN) hb hl xv S4 e5 eV;rw[eA4,eA5]at c5;have C1:=ag c1;have C2:=ag c2;have C3:=ag c3;have C4:=ag c4;have C5:=ag c5;have HH:=ag h;clear c1 c2 c3 c4 c5 a0 eA1 eA2 eA3 eA4 h hb
 go_in
 go_wp2_with fail
 let⟨W,hW⟩:=aB (w.alloc (.cells #[.I 0,.U 0,aq,.I 0,aq,.U 0,.U 0] 121))
 have bW:=dX hW;have hR:sy W w.heap.size (.I 0) (.U 0) aq (.I 0) aq (.U 0) (.U 0):=by rw[hW];simp[sy,go_sem]
 have fR:∀o,W.frozen? (Ad w.heap.size o)=false:=λo=>by rw[hW];simp[go_sem]
 have zW:w.heap.size<W.heap.size:=by rw[hW];simp
 rw[<-hW];clear hW;refine(ae C1 _ bW).mono ?_;rintro r w'⟨rfl,rfl⟩;go_wp2_with fail;refine(ae C2 _ bW).mono ?_;rintro r w'⟨rfl,rfl⟩;go_wp2_with fail;refine(ae C3 _ bW).mono ?_;rintro r w1⟨p1,c1,rfl,x1,aG⟩;have b1:=aj bW aG;have vd:=hR.below aG;have fR1:=cI fR zW aG;have z1:=aG.size;go_wp2_with fail;refine(ae C4 _ b1).mono ?_;rintro r w2⟨rfl,rfl⟩;go_wp2_with fail;refine(ae C5 _ b1).mono ?_;rintro r w3⟨p3,c3,rfl,x3,br⟩;have b3:=aj b1 br;have x1':=Own.below x1 br;have uf:=vd.below br;have fR3:=cI fR1 af br;have z3:=br.size;have bO3:Hid (aN P/\aN V/\0<=s/\s<2^64):=by have h1:=(rh HB S2).1;have h2:=(rh HB S4).1;have h3:=Gn (om:=o1);rw[ae e3]at h1;rw[ae e5]at h2;rw[ae e2]at h3;exact⟨h1,h2,h3.1,h3.2⟩
 let⟨X,hX⟩:=aB (w3.alloc (.cells #[.I k,.U s,.S p1 NP c1,.I f,.S p3 NV c3,.U 0,.U 0] 121))
 have Ep:=dX hX;have bX:Bw w X:=aj b3 Ep;have hRX:=uf.below Ep;have fRX:=cI fR3 af Ep;have hOX:sy X w3.heap.size (.I k) (.U s) (.S p1 NP c1) (.I f) (.S p3 NV c3) (.U 0) (.U 0):=by rw[hX];simp[sy,go_sem]
 have zX:w3.heap.size<X.heap.size:=by rw[hX];simp
 have xP:=Own.below x1' Ep;have xV:=Own.below x3 Ep;have bo:∀ob:Obj,Bw w3 (w3.alloc ob):=λob=>aA.alloc ay _;have q0:=λob=>ah uf.1 (bo ob);have q1:=λob=>ah uf.2.1 (bo ob);have q2:=λob=>ah uf.2.2.1 (bo ob);have q3:=λob=>ah uf.2.2.2.1 (bo ob);have q4:=λob=>ah uf.2.2.2.2.1 (bo ob);have q5:=λob=>ah uf.2.2.2.2.2.1 (bo ob);have q6:=λob=>ah uf.2.2.2.2.2.2 (bo ob);have qf:=λ(ob:Obj)=>cI fR3 af (bo ob);have tP:Btw w.heap.size w2.heap.size (.S p1 NP c1):=λb hb=>by have:=x1.lt b hb;omega
 let⟨r0,r1,r2,r3,r4,r5,r6⟩:=id hRX
 let⟨j0,j1,j2,j3,j4,j5,j6⟩:=id hOX
 have cJ2:¬A5<0:=by rw[<-eA5,ho];simp[nJ]
 subst hk;subst hs;subst hf;have DU:=ag hS;have HDL:=ag hdl;have HFM:Hid (Fg K S F NP NV 0 0=true):=by show _=_;rw[<-ae eP,<-ae eV];exact hfm
 go_wp2_with fail;rw[<-hX];refine(Hz h1 h2 HFM).mono ?_;rintro r y1⟨rfl,tz⟩;have VS:=aj bX tz;have vd:=hRX.below tz;have hO1:=hOX.below tz;have f1:=cI fRX af tz;have zx1:=tz.size;have xP1:=Own.below xP tz;have xV1:=Own.below xV tz
 let⟨r0,r1,r2,r3,r4,r5,r6⟩:=id vd
 let⟨j0,j1,j2,j3,j4,j5,j6⟩:=id hO1
 go_wp2_with fail;refine(Dq h1 h2).mono ?_;rintro r y2⟨rfl,rfl⟩;rw[hj];obtain⟨M,eM⟩:∃M,Hid ((D5 K S P F V).length=M):=⟨_,rfl⟩;go_wp2_with fail;refine(Xb h2 DU hF eP eV xP1.rd xV1.rd hNP hNV eM).mono ?_;rintro r y3⟨p5,c5,rfl,o5',fT⟩;have bx3:=aj VS fT;have uf:=vd.below fT;have hO3:=hO1.below fT;have f3:=cI f1 af fT;have zx3:=fT.size;have xP3:=Own.below xP1 fT;have xV3:=Own.below xV1 fT
 let⟨r0,r1,r2,r3,r4,r5,r6⟩:=id uf
 let⟨j0,j1,j2,j3,j4,j5,j6⟩:=id hO3
 have hd:decide (D5 K S P F V=l)=true:=by rw[<-ae HDL];simp
 have HD:=ag hd;go_wp2_with fail;refine(jS eM en o5'.rd (HH.below bx3) (ae HDL▸ae HB) (ae HB)).mono ?_;rintro r y4⟨rfl,ko⟩;rw[ae HD];have bx4:=aj bx3 ko;have hR4:=uf.below ko;have hO4:=hO3.below ko;have f4:=cI f3 af ko;have zx4:=ko.size;have xP4:=ag (Own.below xP3 ko);have xV4:=ag (Own.below xV3 ko)
 let⟨r0,r1,r2,r3,r4,r5,r6⟩:=id hR4
 let⟨j0,j1,j2,j3,j4,j5,j6⟩:=id hO4
 have BX4:=ag bx4;have HZ:=ag (ai zW (ai z1 (ai z3 (ai zX (ai zx1 (ai zx3 zx4))))));have bS:¬w.heap.size=w3.heap.size:=af;have cz0:¬w3.heap.size=w.heap.size:=af;go_wp2
 let⟨zW,z1,z3,zX,zx1,zx3,zx4⟩:=ae HZ
 refine dJ (v:=.tuple #[zl K S (.S p1 NP c1) F (.S p3 NV c3) 0 0,.I 0]) (by simp[results,results74,go_sem,r0,r1,r2,r3,r4,r5,r6]) rfl ⟨p1,c1,p3,c3,w2.heap.size,rfl,af,?_,tP,?_,?_⟩;{
 refine Own.mono (B:=w'.heap.size) ?_ af
 iterate 7 (refine qD ?_ zW _)
 exact xP4};{
 have zz:w.heap.size<w2.heap.size:=af
 iterate 7 (refine qD ?_ zz _)
 exact xV4};{
 iterate 7 (refine ig ?_ al _)
 exact BX4}
def PB.yv{M N z0:Nat}(h:PB w M N v xs A)(hM:z0<M)(hk:∀z,z≠z0->w'.heap[z]?=w.heap[z]?):PB w' M N v xs A:=
 have k:∀a∈A,w'.heap[a.b]?=w.heap[a.b]?:=λa ha=>hk _ (aI (h.ap.lo a ha))
 ⟨h.rd.dw h.lv k,h.cap,h.lv,h.ap.keep k,h.hi⟩
def PU.yv{M N z0:Nat}(h:PU w M N v xs A)(hM:z0<M)(hk:∀z,z≠z0->w'.heap[z]?=w.heap[z]?):PU w' M N v xs A:=
 have k:∀a∈A,w'.heap[a.b]?=w.heap[a.b]?:=λa ha=>hk _ (aI (h.ap.lo a ha))
 ⟨h.rd.dw h.lv k,h.lv,h.ap.keep k,h.hi⟩
def js.pu(h:js B w (.S p n c) l):∃A,PU w B w.heap.size (.S p n c) l A:=by
 let⟨A,q1,q2,q3,q4⟩:=Gc (kd:=.u64) h
 refine⟨A,?_,q1,q2,λa ha=>q2.tf.lt ha⟩;rcases h.2 with⟨e,h0⟩|⟨g,cap,cur,e,hb,hg,hr⟩;{rw[e];exact⟨none,0,by rw[h0],.inl (r8.1 h0)⟩};{rw[e]at h⊢;refine⟨_,cap,rfl,.inr ⟨g,0,rfl,λi hi=>?_⟩⟩;have:=Gz h i af;rw[ly,this];simp[gj,hi]}
def Ll.rde(h:Ll B w v es):DS w v es:=by
 obtain⟨p,c,rfl,-,-,hp⟩:=RT.form h;refine⟨p,c,rfl,?_⟩;by_cases h0:es=[];{exact .inl h0};{obtain⟨g,rfl⟩:=hp (WR.2 h0);refine .inr ⟨g,0,rfl,λi e hi=>?_⟩;obtain⟨cc,-,⟨P,ec,tP⟩,hc,-⟩:=RT.at h hi;subst ec;exact⟨by have:=hc 0 _ rfl;simpa using this,P,by have:=hc 1 _ rfl;simpa using this,tP.1⟩}
def kq.rds(h:kq B w v ss Qs):vk w v ss:=by
 have hz:(ss.zip Qs).length=ss.length:=by rw[QC,h.len];simp
 obtain⟨p,c,e,-,-,hp⟩:=RT.form h.row;rw[hz]at e hp;subst e;refine⟨p,c,rfl,?_⟩;by_cases h0:ss=[];{exact .inl h0};{obtain⟨g,rfl⟩:=hp (WR.2 h0);refine .inr ⟨g,0,rfl,λi s hi=>?_⟩;have KU:=(aV.1 hi).1;obtain⟨Q,hQ⟩:∃Q,Qs[i]?=some Q:=⟨_,aY (h.len▸KU)⟩;obtain⟨cc,-,ec,hc,-⟩:=RT.at h.row (i:=i) (x:=(s,Q)) (by rw[Kn];exact⟨hi,hQ⟩);rw[show cc=_ from ec]at hc;exact⟨by have:=hc 0 _ rfl;simpa using this,by have:=hc 1 _ rfl;simpa using this,Q,by have:=hc 2 _ rfl;simpa using this,(h.Yk i s Q hi hQ).rde⟩}
theorem FG{α:Type}(F:α->Nat){l:List α}{y:α}(h:y∈l):F y<=gD F l:=by
 induction l with
 |nil=>cases h
 |cons z l ih=>
  have e:gD F (z::l)=F z+gD F l:=by simp[gD]
  rcases jv.1 h with rfl|h;{omega};{have:=ih h;omega}
def TV(h:LM ss ns<=1048576):Mg ss.length/\Mg ns.length/\(∀s∈ss,s.2.2.length<=1048576/\∀e∈s.2.2,e.2.length<=1048576)/\∀nd∈ns,nd.path.length<=1048576/\nd.value.length<=1048576/\nd.holders.length<=1048576/\nd.watchers.length<=1048576:=by
 unfold LM at h;refine⟨af,af,λs hs=>?_,λnd bu=>?_⟩;{have h1:=FG FB hs;have h0:FB s=s.2.2.length+gD (λe:Ev=>e.2.length) s.2.2:=rfl;refine⟨af,λe he=>?_⟩;have h2:e.2.length<=gD (λe:Ev=>e.2.length) s.2.2:=FG (λe:Ev=>e.2.length) he;omega};{have h1:=FG FD bu;have h0:FD nd=nd.path.length+nd.value.length+nd.holders.length+nd.watchers.length:=rfl;omega}
open Go.Deep
def xI(h:(Lit.U s).wf=true):0<=s/\s<2^64:=by
 simp[Lit.wf,IntKind.min,IntKind.max,IntKind.signed,IntKind.bits]at h;omega
def Ss:Tryz.prog.cellsOf 224=2:=by kernel_rfl
def Lc:Tryz.prog.cellsOf 106=3:=by kernel_rfl
def Ld:Tryz.prog.cellsOf 110=8:=by kernel_rfl
def Sr:Tryz.prog.cellsOf 31=6:=by kernel_rfl
def XE:Tryz.prog.cellsOf 22=1:=by kernel_rfl
def Ay:Tryz.prog.cellsOf 27=1:=by kernel_rfl
def ay1:Tryz.prog.cellsOf 108=1:=by kernel_rfl
def Fh:Tryz.prog.cellsOf 3=1:=by kernel_rfl
def Zo:Tryz.prog.cellsOf 104=1:=by kernel_rfl
def VJ:Tryz.prog.cellsOf 28=1:=by kernel_rfl
def VK:Tryz.prog.cellsOf 29=1:=by kernel_rfl
variable {P:Program}
theorem LD{H:Type}{enc:TypeId×Value->H}{x:DataW H×List MemPlace}(ht:P.underlying t=some (.struct #[f0,f1,f2,f3,f4,f5]))(h:DataW.trod enc P w base spare held fuel t cs=some x):∃y0 y1 y2 y3 y4 y5 n,cs.length=P.cellsOf t∧
   DataW.trod enc P w base spare held n f0.type ((cs.drop f0.offset).take (P.cellsOf f0.type))=some y0/\DataW.trod enc P w base spare held n f1.type ((cs.drop f1.offset).take (P.cellsOf f1.type))=some y1/\DataW.trod enc P w base spare held n f2.type ((cs.drop f2.offset).take (P.cellsOf f2.type))=some y2/\DataW.trod enc P w base spare held n f3.type ((cs.drop f3.offset).take (P.cellsOf f3.type))=some y3/\DataW.trod enc P w base spare held n f4.type ((cs.drop f4.offset).take (P.cellsOf f4.type))=some y4/\DataW.trod enc P w base spare held n f5.type ((cs.drop f5.offset).take (P.cellsOf f5.type))=some y5:=by
 obtain⟨xs,n,_,rfl,hl,hlen,hf⟩:=ai1 ht h
 match xs,hlen with
 |[y0,y1,y2,y3,y4,y5],_=>exact⟨y0,y1,y2,y3,y4,y5,n,hl,by simpa using hf 0 f0 rfl,by simpa using hf 1 f1 rfl,by simpa using hf 2 f2 rfl,by simpa using hf 3 f3 rfl,by simpa using hf 4 f4 rfl,by simpa using hf 5 f5 rfl⟩
theorem Lx{H:Type}{enc:TypeId×Value->H}{f6 f7:Field}{x:DataW H×List MemPlace}(ht:P.underlying t=some (.struct #[f0,f1,f2,f3,f4,f5,f6,f7]))(h:DataW.trod enc P w base spare held fuel t cs=some x):∃y0 y1 y2 y3 y4 y5 y6 y7 n,cs.length=P.cellsOf t∧
   DataW.trod enc P w base spare held n f0.type ((cs.drop f0.offset).take (P.cellsOf f0.type))=some y0/\DataW.trod enc P w base spare held n f1.type ((cs.drop f1.offset).take (P.cellsOf f1.type))=some y1/\DataW.trod enc P w base spare held n f2.type ((cs.drop f2.offset).take (P.cellsOf f2.type))=some y2/\DataW.trod enc P w base spare held n f3.type ((cs.drop f3.offset).take (P.cellsOf f3.type))=some y3/\DataW.trod enc P w base spare held n f4.type ((cs.drop f4.offset).take (P.cellsOf f4.type))=some y4/\DataW.trod enc P w base spare held n f5.type ((cs.drop f5.offset).take (P.cellsOf f5.type))=some y5/\DataW.trod enc P w base spare held n f6.type ((cs.drop f6.offset).take (P.cellsOf f6.type))=some y6/\DataW.trod enc P w base spare held n f7.type ((cs.drop f7.offset).take (P.cellsOf f7.type))=some y7:=by
 obtain⟨xs,n,_,rfl,hl,hlen,hf⟩:=ai1 ht h
 match xs,hlen with
 |[y0,y1,y2,y3,y4,y5,y6,y7],_=>exact⟨y0,y1,y2,y3,y4,y5,y6,y7,n,hl,by simpa using hf 0 f0 rfl,by simpa using hf 1 f1 rfl,by simpa using hf 2 f2 rfl,by simpa using hf 3 f3 rfl,by simpa using hf 4 f4 rfl,by simpa using hf 5 f5 rfl,by simpa using hf 6 f6 rfl,by simpa using hf 7 f7 rfl⟩
def og{H:Type}{enc:TypeId×Value->H}{α:Type}[Inhabited α]{e:TypeId}(ht:Tryz.prog.underlying t=some (.slice e))(jl:Tryz.prog.cellsOf e=sz)(h0:0<sz)(Q:List Value->α->Prop)(oz:∀(n:Nat)(cs:List Value)(x:DataW H×List MemPlace),DataW.trod enc Tryz.prog w 0 (λ_=>true) true n e cs=some x->∃y,Q cs y){x:DataW H×List MemPlace}(h:DataW.trod enc Tryz.prog w 0 (λ_=>true) true fuel t cs=some x):∃(p:OA)(l:List α)(c:Nat),cs=[.S p l.length c]/\l.length<=c/\c<=maxLen/\(l=[]\/∃b o,p=some (Ad b o)/\∀(i:Nat)(y:α),l[i]?=some y->∃IN:List Value,(∀(j:Nat)(v:Value),IN[j]?=some v->w.cell? (Ad b (o+(i*sz+j)))=some v)/\Q IN y):=by
 rcases open_slice ht h with⟨rfl,_⟩|⟨a,len,cap,m,n,D,Pl,rfl,_,hl,hm,hmm,_,hx⟩;{exact⟨none,[],0,rfl,iD _,iB,.inl rfl⟩};{
 simp only[pM]at hmm;subst hmm
 let⟨f,hf⟩:=choose_lt (α:=α) (n:=len) (p:=λi y=>∃IN:List Value,w.cells? 0 (a.add (i*Tryz.prog.cellsOf e)) (Tryz.prog.cellsOf e)=some IN/\Q IN y) (λi hi=>by
  let⟨IN,h1,h2⟩:=hx i af
  let⟨y,hy⟩:=oz _ _ _ h2
  exact⟨y,IN,h1,hy⟩)
 have hlen:((List.range len).map f).length=len:=al;refine⟨some a,(List.range len).map f,m,by rw[hlen],by rw[hlen];exact hl,hm,?_⟩;by_cases hz:len=0;{left;subst hz;rfl}
 {
 right
 obtain⟨b,o,spot⟩:=a;have hs:spot=none:=by
  let⟨IN,h1,_⟩:=hf 0 af
  let⟨_,Ot,hc⟩:=World.cells?_some h1
  have:=hc 0 (jl▸h0);rw[aY (by rw[Ot,jl];exact h0)]at this;simpa[Addr.add]using World.cell?_spot this
 subst hs;refine⟨b,o,rfl,λi y hy=>?_⟩;have hi:i<len:=by have:=(aV.1 hy).1;rwa [hlen]at this
 have ey:y=f i:=by have:=(aV.1 hy).2;simpa using this.symm
 subst ey
 let⟨IN,h1,h2⟩:=hf i hi
 refine⟨IN,λj v hj=>?_,h2⟩
 let⟨_,Ot,hc⟩:=World.cells?_some h1
 have Al:j<Tryz.prog.cellsOf e:=Ot▸(aV.1 hj).1;have:=hc j Al;rw[hj,jl]at this;simp only[zI]at this;rw[<-this]
 congr 1
 simp[mL]}}
def yN{H:Type}{enc:TypeId×Value->H}{x:DataW H×List MemPlace}(h:DataW.trod enc Tryz.prog w 0 (λ_=>true) true fuel 108 cs=some x):∃(p:OA)(l:LI)(c:Nat),cs=[.S p l.length c]/\l.length<=maxLen/\oK w (.S p l.length c) l/\∀i∈l,0<=i/\i<2^64:=by
 obtain⟨p,l,c,rfl,h1,h2,h3⟩:=og (α:=Int) Tryz.underlying108 Ay af (λcs y=>cs=[.U y]/\0<=y/\y<2^64) (λn cs x hx=>by
  let⟨y,e0,_,wf⟩:=mI Tryz.underlying27 hx
  exact⟨y,e0,xI wf⟩) h
 refine⟨p,l,c,rfl,af,⟨p,c,rfl,?_⟩,?_⟩;{rcases h3 with h3|⟨b,o,rfl,h3⟩;{exact .inl h3};{refine .inr ⟨b,o,rfl,λi hi=>?_⟩;obtain⟨IN,g1,rfl,_⟩:=h3 i _ (aY hi);have:=g1 0 _ rfl;rw[gj,aY hi];simpa using this}};{
 intro y hy;rcases h3 with h3|⟨b,o,rfl,h3⟩;{rw[h3]at hy;cases hy};{
 let⟨i,hi⟩:=uL hy
 let⟨IN,_,_,g2⟩:=h3 i y hi
 exact g2}}
theorem RJ{H:Type}{enc:TypeId×Value->H}{x:DataW H×List MemPlace}(h:DataW.trod enc Tryz.prog w 0 (λ_=>true) true fuel 104 cs=some x):∃(p:OA)(l:List Ev)(c:Nat),cs=[.S p l.length c]/\l.length<=maxLen/\DS w (.S p l.length c) l/\∀e∈l,e.2.length<=maxLen/\aN e.2:=by
 obtain⟨p,l,c,rfl,h1,h2,h3⟩:=og (α:=Ev) Tryz.underlying104 Ss af (λcs y=>∃q d,cs=[.I y.1,.S q y.2.length d]/\Rd w (.S q y.2.length d) y.2/\y.2.length<=maxLen/\aN y.2) (λn cs x hx=>by
  let⟨y0,y1,m,_,hl,g0,g1⟩:=trod_struct2 Tryz.underlying224 hx
  rw[Ss]at hl;obtain⟨x0,x1,rfl⟩:∃x0 x1,cs=[x0,x1]:=by
   match cs,hl with
   |[a,b],_=>exact⟨a,b,rfl⟩
  simp[Fh,XE]at g0 g1
  let⟨k,e0,_,_⟩:=mI Tryz.underlying3 g0
  let⟨q,P,d,e1,r1,l1,_,b1⟩:=Rd.qN g1
  simp at e0 e1;subst e0 e1;exact⟨(k,P),q,d,rfl,r1,l1,b1⟩) h
 refine⟨p,l,c,rfl,af,⟨p,c,rfl,?_⟩,?_⟩;{rcases h3 with h3|⟨b,o,rfl,h3⟩;{exact .inl h3};{refine .inr ⟨b,o,rfl,λi y hy=>?_⟩;obtain⟨IN,g1,q,d,rfl,r1,_⟩:=h3 i y hy;exact⟨by simpa using g1 0 _ rfl,_,by simpa[mL]using g1 1 _ rfl,r1⟩}};{
 intro y hy;rcases h3 with h3|⟨b,o,rfl,h3⟩;{rw[h3]at hy;cases hy};{
 let⟨i,hi⟩:=uL hy
 let⟨IN,_,q,d,_,_,g2⟩:=h3 i y hi
 exact g2}}
theorem L9{H:Type}{enc:TypeId×Value->H}{x:DataW H×List MemPlace}(h:DataW.trod enc Tryz.prog w 0 (λ_=>true) true fuel 28 cs=some x):∃(p:OA)(l:List aQ)(c:Nat),cs=[.S p l.length c]/\l.length<=maxLen/\vk w (.S p l.length c) l/\∀s∈l,s.2.2.length<=maxLen/\∀e∈s.2.2,e.2.length<=maxLen/\aN e.2:=by
 obtain⟨p,l,c,rfl,h1,h2,h3⟩:=og (α:=aQ) Tryz.underlying28 Lc af (λcs y=>∃q d,cs=[.U y.1,.I y.2.1,.S q y.2.2.length d]/\DS w (.S q y.2.2.length d) y.2.2/\y.2.2.length<=maxLen/\∀e∈y.2.2,e.2.length<=maxLen/\aN e.2) (λn cs x hx=>by
  let⟨y0,y1,y2,m,_,hl,g0,g1,g2⟩:=trod_struct3 Tryz.underlying106 hx
  rw[Lc]at hl;obtain⟨x0,x1,x2,rfl⟩:∃x0 x1 x2,cs=[x0,x1,x2]:=by
   match cs,hl with
   |[a,b,c],_=>exact⟨a,b,c,rfl⟩
  simp[Fh,Ay,Zo]at g0 g1 g2
  let⟨i,e0,_,_⟩:=mI Tryz.underlying27 g0
  let⟨k,e1,_,_⟩:=mI Tryz.underlying3 g1
  let⟨q,Q,d,e2,l1,r1,b1⟩:=RJ g2
  simp at e0 e1 e2;subst e0 e1 e2;exact⟨(i,k,Q),q,d,rfl,r1,l1,b1⟩) h
 refine⟨p,l,c,rfl,af,⟨p,c,rfl,?_⟩,?_⟩;{rcases h3 with h3|⟨b,o,rfl,h3⟩;{exact .inl h3};{refine .inr ⟨b,o,rfl,λi y hy=>?_⟩;obtain⟨IN,g1,q,d,rfl,r1,_⟩:=h3 i y hy;exact⟨by simpa using g1 0 _ rfl,by simpa[mL]using g1 1 _ rfl,_,by simpa[mL]using g1 2 _ rfl,r1⟩}};{
 intro y hy;rcases h3 with h3|⟨b,o,rfl,h3⟩;{rw[h3]at hy;cases hy};{
 let⟨i,hi⟩:=uL hy
 let⟨IN,_,q,d,_,_,g2⟩:=h3 i y hi
 exact g2}}
theorem Mu{H:Type}{enc:TypeId×Value->H}{x:DataW H×List MemPlace}(h:DataW.trod enc Tryz.prog w 0 (λ_=>true) true fuel 29 cs=some x):∃(p:OA)(l:List aD)(c:Nat),cs=[.S p l.length c]/\l.length<=maxLen/\lM w (.S p l.length c) l/\∀nd∈l,((nd.path.length<=maxLen/\nd.value.length<=maxLen/\nd.holders.length<=maxLen/\nd.watchers.length<=maxLen)/\aN nd.path/\(0<=nd.owner/\nd.owner<2^64)/\(∀i∈nd.holders,0<=i/\i<2^64)/\∀i∈nd.watchers,0<=i/\i<2^64)/\(0<=nd.aE/\nd.aE<2^64)/\(0<=nd.gen/\nd.gen<2^64)/\aN nd.value:=by
 have : Inhabited aD := ⟨fU⟩
 obtain⟨p,l,c,rfl,h1,h2,h3⟩:=og (α:=aD) Tryz.underlying29 Ld af
  (λcs y=>∃P V H U,cs=[P,V,.U y.owner,.I y.mode,H,.U y.aE,.U y.gen,U]/\(Rd w P y.path/\Rd w V y.value/\oK w H y.holders/\oK w U y.watchers/\nR P)/\((y.path.length<=maxLen/\y.value.length<=maxLen/\y.holders.length<=maxLen/\y.watchers.length<=maxLen)/\aN y.path/\(0<=y.owner/\y.owner<2^64)/\(∀i∈y.holders,0<=i/\i<2^64)/\∀i∈y.watchers,0<=i/\i<2^64)/\(0<=y.aE/\y.aE<2^64)/\(0<=y.gen/\y.gen<2^64)/\aN y.value) (λn cs x hx=>by
  let⟨y0,y1,y2,y3,y4,y5,y6,y7,m,hl,g0,g1,g2,g3,g4,g5,g6,g7⟩:=Lx Tryz.underlying110 hx
  rw[Ld]at hl;obtain⟨x0,x1,x2,x3,x4,x5,x6,x7,rfl⟩:∃x0 x1 x2 x3 x4 x5 x6 x7,cs=[x0,x1,x2,x3,x4,x5,x6,x7]:=by
   match cs,hl with
   |[a,b,c,d,e,f,g,h],_=>exact⟨a,b,c,d,e,f,g,h,rfl⟩
  simp[Fh,Ay,XE,ay1]at g0 g1 g2 g3 g4 g5 g6 g7
  let⟨q0,P,d0,e0,r0,l0,cp0,b0⟩:=Rd.qN g0
  let⟨q1,V,d1,e1,r1,l1,_,b1⟩:=Rd.qN g1
  let⟨ow,e2,_,w2⟩:=mI Tryz.underlying27 g2
  let⟨mo,e3,_,_⟩:=mI Tryz.underlying3 g3
  let⟨q4,Hs,d4,e4,l4,r4,b4⟩:=yN g4
  let⟨ep,e5,_,w5⟩:=mI Tryz.underlying27 g5
  let⟨ge,e6,_,w6⟩:=mI Tryz.underlying27 g6
  let⟨q7,Us,d7,e7,l7,r7,b7⟩:=yN g7
  have cm:d0<=maxLen:=by rcases open_ints Tryz.underlying22 Tryz.underlying5 bg g0 with⟨h0,_⟩|⟨a,len,cap,zs,h0,_,_,hm,_⟩;{rw[e0]at h0;simp at h0;omega};{rw[e0]at h0;simp at h0;omega}
  simp at e0 e1 e2 e3 e4 e5 e6 e7;subst e0 e1 e2 e3 e4 e5 e6 e7;exact⟨⟨P,V,ow,mo,Hs,ep,ge,Us⟩,_,_,_,_,rfl,⟨r0,r1,r4,r7,_,_,_,rfl,cp0,cm⟩,⟨⟨l0,l1,l4,l7⟩,b0,xI w2,b4,b7⟩,xI w5,xI w6,b1⟩) h
 refine⟨p,l,c,rfl,af,⟨p,c,rfl,?_⟩,?_⟩;{rcases h3 with h3|⟨b,o,rfl,h3⟩;{exact .inl h3};{refine .inr ⟨b,o,rfl,λi y hy=>?_⟩;obtain⟨IN,g1,P,V,H,U,rfl,⟨r0,r1,r4,r7,k0⟩,_⟩:=h3 i y hy;exact⟨P,V,H,U,by simpa using g1 0 _ rfl,by simpa[mL]using g1 1 _ rfl,by simpa[mL]using g1 2 _ rfl,by simpa[mL]using g1 3 _ rfl,by simpa[mL]using g1 4 _ rfl,by simpa[mL]using g1 5 _ rfl,by simpa[mL]using g1 6 _ rfl,by simpa[mL]using g1 7 _ rfl,r0,r1,r4,r7,k0⟩}};{
 intro y hy;rcases h3 with h3|⟨b,o,rfl,h3⟩;{rw[h3]at hy;cases hy};{
 let⟨i,hi⟩:=uL hy
 let⟨IN,_,P,V,H,U,_,_,g2⟩:=h3 i y hi
 exact g2}}
theorem Pm{H:Type}{enc:TypeId×Value->H}{x:DataW H×List MemPlace}(h:DataW.trod enc Tryz.prog w 0 (λ_=>true) true n 31 cs=some x):∃(e g x t:Int)(p q:OA)(ss:List aQ)(ns:List aD)(c c':Nat),cs=[.U e,.U g,.U x,.I t,.S p ss.length c,.S q ns.length c']/\(ss.length<=maxLen/\ns.length<=maxLen)/\vk w (.S p ss.length c) ss/\lM w (.S q ns.length c') ns∧
   (∀s∈ss,s.2.2.length<=maxLen/\∀e∈s.2.2,e.2.length<=maxLen/\aN e.2)∧
   (∀nd∈ns,((nd.path.length<=maxLen/\nd.value.length<=maxLen/\nd.holders.length<=maxLen/\nd.watchers.length<=maxLen)/\aN nd.path/\(0<=nd.owner/\nd.owner<2^64)/\(∀i∈nd.holders,0<=i/\i<2^64)/\∀i∈nd.watchers,0<=i/\i<2^64)/\(0<=nd.aE/\nd.aE<2^64)/\(0<=nd.gen/\nd.gen<2^64)/\aN nd.value)/\(0<=e/\e<2^64)/\(0<=g/\g<2^64)/\(0<=x/\x<2^64):=by
 let⟨y0,y1,y2,y3,y4,y5,m,hl,h0,h1,h2,h3,h4,h5⟩:=LD Tryz.underlying31 h
 rw[Sr]at hl;obtain⟨x0,x1,x2,x3,x4,x5,rfl⟩:∃x0 x1 x2 x3 x4 x5,cs=[x0,x1,x2,x3,x4,x5]:=by
  match cs,hl with
  |[a,b,c,d,e,f],_=>exact⟨a,b,c,d,e,f,rfl⟩
 simp[Ay,Fh,VJ,VK]at h0 h1 h2 h3 h4 h5
 let⟨e,e0,_,w0⟩:=mI Tryz.underlying27 h0
 let⟨g,e1,_,w1⟩:=mI Tryz.underlying27 h1
 let⟨x,e2,_,w2⟩:=mI Tryz.underlying27 h2
 let⟨t,e3,_,_⟩:=mI Tryz.underlying3 h3
 let⟨p,ss,c,e4,l4,r4,b4⟩:=L9 h4
 let⟨q,ns,c',e5,l5,r5,b5⟩:=Mu h5
 simp at e0 e1 e2 e3 e4 e5;subst e0 e1 e2 e3 e4 e5;exact⟨e,g,x,t,p,q,ss,ns,c,c',rfl,⟨l4,l5⟩,r4,r5,b4,b5,xI w0,xI w1,xI w2⟩
end Go.Proofs.YtnhnbpkfpaondaaGreatDoor
