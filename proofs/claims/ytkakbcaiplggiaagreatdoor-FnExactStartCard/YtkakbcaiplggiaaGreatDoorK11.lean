import Derived.Test.YtkakbcaiplggiaaGreatDoorK8
import Derived.Test.YtkakbcaiplggiaaGreatDoorK9
import Derived.Test.YtkakbcaiplggiaaGreatDoorK10
import Derived.StillTailTactics
namespace Go.Proofs.YtkakbcaiplggiaaGreatDoor
set_option maxHeartbeats 40000000
set_option linter.all false
set_option maxRecDepth 100000
open Go.ChangeShapes Go.WideShapes Go.ChangeAt Go.RowKit Go.Maps
variable {A A1 A2:List Lf}{B G N a b bn bs c cv i k nv o z:Nat}{C F K e f g hi lo s vs:Int}{D:SD}{P V l xs:LI}{fn:Func}{left:Lit->Bool}{ls:List LI}{nd nd':aC}{ns:List aC}{o0 o1 o2 o3 o4 o5 o6 o7 v v0 v1 v2 v3 v4 v5 v6 v7:Value}{p pv:OA}{rs:List R1}{ss ss':List aP}{u w0:World}
structure CI(ss:List aP)(ns:List aC):Prop where
 so:Fg ss
 nt:∀nd∈ns,NT ss nd/\nd.holders.Pairwise (·<·)/\nd.holders.length<=1048576
 kd:KD ns
def NT.ids(h:NT ss nd)(hi:ss'.map (·.1)=ss.map (·.1)):NT ss' nd:=
 ⟨h.by',h.pl,h.wpw,h.Tb,λi hi'=>by obtain⟨j,s,hj,e⟩:=aC6 hi (h.Ox i hi');exact⟨s,aY hj,e⟩⟩
theorem Fg.tell(ev:Ev):∀(ids:LI){ss:List aP},Fg ss->Fg (uA ss ids ev)
 |[],ss,h=>h
 |a::r,ss,h=>Fg.tell ev r (h.cz4 a ev)
def KD.erase(h:KD ns)(k:Nat):KD (ns.eraseIdx k):=λi j a c ha hc e=>by
 rw[ad8]at ha hc;by_cases hi:i<k<;>by_cases hj:j<k
 {rw[bN hi]at ha;rw[bN hj]at hc;exact h i j a c ha hc e};{rw[bN hi]at ha;rw[bG hj]at hc;have:=h i (j+1) a c ha hc e;omega};{rw[bG hi]at ha;rw[bN hj]at hc;have:=h (i+1) j a c ha hc e;omega};{rw[bG hi]at ha;rw[bG hj]at hc;have:=h (i+1) (j+1) a c ha hc e;omega}
theorem KD.paths{ns':List aC}(h:KD ns)(hp:ns'.map (·.path)=ns.map (·.path)):KD ns':=λi j a c ha hc e=>by
 have key:∀(i:Nat)(a:aC),ns'[i]?=some a->∃a0,ns[i]?=some a0/\a0.path=a.path:=λi a ha=>by
  have h1:(ns'.map (·.path))[i]?=some a.path:=by rw[nj,ha];rfl
  rw[hp,nj]at h1;cases hn:ns[i]? with
  |none=>rw[hn]at h1;cases h1
  |some a0=>rw[hn]at h1;exact⟨a0,rfl,by simpa using h1⟩
 obtain⟨a0,h1,e1⟩:=key i a ha;obtain⟨c0,h2,e2⟩:=key j c hc;exact h i j a0 c0 h1 h2 (by rw[e1,e2,e])
def rU(hk:ns[k]?=some nd)(hp:nd'.path=nd.path):(ns.set k nd').map (·.path)=ns.map (·.path):=by
 rw[Wh,hp];exact yY (by rw[nj,hk];rfl)
def CI.cw(h:CI ss ns)(id:Int):CI ss (ns.map (IM id)):=by
 refine⟨h.so,λnd bj=>?_,h.kd.paths (by rw[qX];rfl)⟩;obtain⟨y,hy,rfl⟩:=ji.1 bj;obtain⟨h1,h2,h3⟩:=h.nt y hy;exact⟨⟨h1.by',h1.pl,Ow h1.wpw,dQ (Fi) h1.Tb,λi hi=>h1.Ox i (qS.1 hi).1⟩,h2,h3⟩
def CI.set(h:CI ss ns)(hk:ns[k]?=some nd)(hs:Fg ss')(hi:ss'.map (·.1)=ss.map (·.1))(hp:nd'.path=nd.path)(hw:nd'.watchers=nd.watchers\/nd'.watchers=[])(hh:nd'.holders.Pairwise (·<·)/\nd'.holders.length<=1048576):CI ss' (ns.set k nd'):=by
 refine⟨hs,λx hx=>?_,h.kd.paths (rU hk hp)⟩;rcases Qh hx with hx|rfl;{obtain⟨h1,h2⟩:=h.nt x hx;exact⟨h1.ids hi,h2⟩};{
 obtain⟨h1,-⟩:=h.nt nd (aY hk);refine⟨NT.ids ⟨by rw[hp];exact h1.by',by rw[hp];exact h1.pl,?_,?_,?_⟩ hi,hh⟩;{
 rcases hw with e|e<;>rw[e]
 {exact h1.wpw};{exact List.Pairwise.nil}};{
 rcases hw with e|e<;>rw[e]
 {exact h1.Tb};{simp}};{
 rcases hw with e|e<;>rw[e]
 {exact h1.Ox};{intro i hi;cases hi}}}
def CI.tell(h:CI D.ss D.ns)(hk:D.ns[k]?=some nd)(kd:Int):CI (dV D k kd).ss (dV D k kd).ns/\(dV D k kd).ns.map (·.path)=D.ns.map (·.path)/\(dV D k kd).ss.map (·.1)=D.ss.map (·.1)/\(dV D k kd).ns[k]?=some {nd with watchers:=[]}:=by
 unfold dV;rw[hk];refine⟨h.set hk (Fg.tell _ _ h.so) (Bo _ _ _) rfl (.inr rfl) (h.nt nd (aY hk)).2,rU hk rfl,Bo _ _ _,bL hk _⟩
def CI.drop(h:CI D.ss D.ns)(hk:D.ns[k]?=some nd)(id:Int):CI (dO D k id).ss (dO D k id).ns/\(dO D k id).ns.map (·.path)=D.ns.map (·.path)/\(dO D k id).ss.map (·.1)=D.ss.map (·.1)/\∃lx,(dO D k id).ns[k]?=some lx/\lx.owner=nd.owner/\lx.path=nd.path:=by
 unfold dO;rw[hk];obtain⟨h1,h2,h3⟩:=h.nt nd (aY hk);by_cases hc:nd.holders.contains id=true;{
 simp only[hc,qt];by_cases he:qT nd.holders id=[];{
 simp only[he,qt];have rO:=bL hk {nd with holders:=[],mode:=0,aJ:=0,gen:=0}
 obtain⟨q1,q2,q3,q4⟩:=CI.tell (D:={D with ns:=D.ns.set k {nd with holders:=[],mode:=0,aJ:=0,gen:=0}}) (h.set hk h.so rfl rfl (.inl rfl) ⟨List.Pairwise.nil,ai⟩) rO 3;exact⟨q1,q2.trans (rU hk rfl),q3,_,q4,rfl,rfl⟩};{
 simp only[he,Ag];refine⟨h.set hk h.so rfl rfl (.inl rfl) ⟨Ow h2,dQ (Fi) h3⟩,rU hk rfl,?_,_,bL hk _,rfl,rfl⟩
 first|trivial|rfl}}
 {simp only[hc];exact⟨h,rfl,rfl,nd,hk,rfl,rfl⟩}
def CI.rm(h:CI D.ss D.ns)(k:Nat):CI (Sk D k).ss (Sk D k).ns:=⟨h.so,λnd bj=>h.nt nd (Gw bj),h.kd.erase k⟩
def Ih{α:Type}{l:List α}(hk:k<l.length):(l.eraseIdx k).drop k=l.drop (k+1):=by
 rw[List.eraseIdx_eq_take_drop_succ,List.drop_append,List.drop_take];simp[show min k l.length=k by omega]
theorem Xo(h:Fg ss){s:aP}(hi:ss[i]?=some s):Xp s.1 ss=ss.eraseIdx i:=by
 have cg:∀(j:Nat)(z:aP),ss[j]?=some z->z.1=s.1->j=i:=λj z hj e=>by have hp:=Jf.1 h.pw;obtain⟨l1,v1⟩:=bf.1 hi;obtain⟨l2,v2⟩:=bf.1 hj;rcases GN i j with hh|hh|hh;{have:=hp i j l1 l2 hh;rw[v1,v2]at this;omega};{exact hh.symm};{have:=hp j i l2 l1 hh;rw[v1,v2]at this;omega}
 have key:∀(l:List aP)(i:Nat),l[i]?=some s->(∀(j:Nat)(z:aP),l[j]?=some z->z.1=s.1->j=i)->Xp s.1 l=l.eraseIdx i:=by
  intro l
  induction l with
  |nil=>intro i hi;simp at hi
  | cons y r ih=>
   intro i hi hu;cases i with
   |zero=>
    simp at hi;subst hi;rw[List.eraseIdx_cons_zero,Xp,List.filter_cons,bG ai,List.filter_eq_self.2];intro z hz;obtain⟨j,hj⟩:=gH.1 hz;have:=hu (j+1) z (by simpa using hj);by_cases e:z.1=y.1;{have:=this e;omega};{simp[e]}
   |succ i=>
    have hy:¬y.1=s.1:=λe=>aG (hu 0 y ai e);rw[List.eraseIdx_cons_succ,Xp,List.filter_cons,bN (by simp[hy]),<-Xp,ih i (by simpa using hi) (λj z hj e=>aG (hu (j+1) z (by simpa using hj) e))]
 exact key ss i hi cg
def rR(f:aC->aC)(left:Lit->Bool)(ns:List aC):List aC:=ns.map λs=>if left (cL s.path)then s else f s
def Cy{f:aC->aC}(h:∀s∈ns,left (cL s.path)=true):rR f left ns=ns:=by
 unfold rR;rw[Di (g:=id) (λs hs=>by rw[bN (h s hs)];rfl),ag1]
def JI{f:aC->aC}(h:∀k,left k=false):rR f left ns=ns.map f:=by
 unfold rR;exact Di λs _=>by rw[bG (by rw[h];simp)]
def OE{f:aC->aC}{ss:List aC}{s:aC}(hs:ss[i]?=some s)(hl:left (cL s.path)=true):(rR f left ss)[i]?=some s:=by
 unfold rR;rw[nj,hs,Jg,bN hl]
theorem Fp{f:aC->aC}(hd:KD ns){s:aC}(hs:ns[i]?=some s):(rR f left ns).set i (f s)=rR f (λz=>left z&&!z.sameKey (cL s.path)) ns:=by
 refine Wi λj=>?_;unfold rR;rw[vZ,nj,nj,dZ];by_cases ej:i=j;{subst ej;have hkk:(cL s.path).sameKey (cL s.path)=true:=VP (by unfold cL;trivial);rw[bN rfl,bN (bf.1 hs).1,hs];simp[hkk]};{
 rw[bG ej];cases hj:ns[j]? with
 |none=>rfl
 |some z=>
  have cg:cL z.path≠cL s.path:=λe=>ej (hd i j s z hs hj e.symm);simp[sameKey_ne cg]}
def PS.iter{w0 w w':World}{SB NB HB UB:List Nat}(h:PS w0 w b bs bn D SB NB HB UB)(O:One w0 w w' z)(n1:∀cs ty,w.heap[z]?≠some (.cells cs ty))(n2:∀es c,w.heap[z]?≠some (.map es c)):PS w0 w' b bs bn D SB NB HB UB:=by
 have nc:∀{y:Nat}{cs:Array Value}{ty:TypeId},w.heap[y]?=some (.cells cs ty)->y≠z:=λhy e=>n1 _ _ (e▸hy);have nm:∀{y:Nat}{es:Array MapEntry}{c:Nat},w.heap[y]?=some (.map es c)->y≠z:=λhy e=>n2 _ _ (e▸hy);refine⟨h.be.trans O.b,O.obj h.hd (nc h.hd),h.tR,?_,λj s1 g1 ij gx=>?_,h.snd,h.tT,h.hlen,h.uy,?_,λj nd gb hh uu ij gx h1 h2=>?_,h.nnd,h.lo,h.Np⟩;{obtain⟨M,n,o,r⟩:=h.rT;obtain⟨es,c,hm⟩:=ownsMap_at o;exact⟨M,n,O.map o (nm hm),r⟩};{have q:=h.uF j s1 g1 ij gx;obtain⟨-,u,h1,-⟩:=id q;exact q.keep O (nc h1)};{obtain⟨M,n,o,r⟩:=h.lY;obtain⟨es,c,hm⟩:=ownsMap_at o;exact⟨M,n,O.map o (nm hm),r⟩};{have q:=h.mZ j nd gb hh uu ij gx h1 h2;obtain⟨-,⟨V,q1,-⟩,q3,q4⟩:=id q;obtain⟨es,c,m3⟩:=q3.at;obtain⟨es',c',m4⟩:=q4.at;exact q.keep O (nc q1) (nm m3) (nm m4)}
def Tryz.infoStr:(Tryz.prog.info? 9).map (λi=>(i.zero,i.size,i.bytes))=some (some (.string ByteArray.empty),1,16):=by kernel_rfl
def xU(ns:List aC)(P:LI):List LI:=(ns.filter λnd=>decide (fg nd.path=P)).map (·.path)
def Xx(ns:List aC)(P:LI):jT ns P=(xU ns P).map GO:=by
 unfold jT xU;rw[qX]
 rfl
def Xw(h:ns[k]?=some nd):xU (ns.take (k+1)) P=if fg nd.path=P then xU (ns.take k) P++[nd.path]else xU (ns.take k) P:=by
 rw[ni,h,xU,VU,kT];by_cases e:fg nd.path=P<;>simp[xU,e]
def ah6:(xU ns P).length<=ns.length:=by
 rw[xU,dZ];exact Qg _ _
def Ig(_:World)(l:LI)(c:List Value):Prop:=c=[.string (aO l)]
def yO{w:World}{ops:Array Oper}{rest:List Oper}{o:Oper}{a:Act}{Q:Exit->Act->World->Prop}(mW:o.guard=none){s x:Operand}(ho:o.op=.call {callee:=.builtin .append,args:=#[s,x],argTypes:=#[146,146]})(ek:Hid (ls.length=k))(hs:a.eval s=v)(bO:RT Ig 9 1 B w v ls){g:Nat}(hx:a.eval x=.T g 1 1)(jk:w.cell? (Ad g 0)=some (.string (aO l)))(hk:k<4194304)(hB:B<=w.heap.size)(h:∀p' c' w',RT Ig 9 1 B w' (.S p' (k+1) c') (ls++[l])->w.grownBy w' v.ownBlock->wpList Tryz.prog ops Q rest (a.put o.dst (.S p' (k+1) c')) w'):wpList Tryz.prog ops Q (o::rest) a w:=by
 obtain⟨i,hi,qc,iU,jU⟩:=gh Tryz.infoStr;obtain⟨rs,h1,h2,h3,h4⟩:=bO;rw[aa ek]at h3;refine cK mW 146 ho i 1 Tryz.underlying146 hi qc iU jU rfl aZ v hs h3 g 1 1 [.string (aO l)] hx rfl (λj u hu=>by
  have e:j=0:=by have:=(bf.1 hu).1;simpa using this
  subst e;simp at hu;subst hu;exact jk) (λu hu=>by simp at hu;rw[hu];rfl) iF ae hB ?_
 intro v' w' du hg _;have sn:RT Ig 9 1 B w' v' (ls++[l]):=RT.snoc h1 h2 h4 (λ_ _ h=>h) rfl rfl (aa ek▸du);obtain⟨p',c',rfl,-⟩:=RT.form sn;rw[ir,aa ek]at sn⊢;exact h p' c' w' sn hg
def RT.bh2{w w':World}(h:RT Ig 9 1 B w v ls)(hb:Bw w w'):RT Ig 9 1 B w' v ls:=h.keep (λ_ _ h=>h) (λb bR=>hb.block b (h.lt b bR).2)
def Nx{w:World}{SB NB HB UB:List Nat}(h:Hid (PS w0 w b bs bn D SB NB HB UB))(Oe:Hid ((D.ns.map λnd=>rz nd.path).Pairwise (·<·)))(gq:Hid (∀nd∈D.ns,aN nd.path/\nd.path.length<=1048576))(bP:Hid (aN P)){L:List LI}(eL:Hid (xU D.ns P=L)):Calls Tryz.prog 317 #[.pointer (some (Ad b 0)),.string (aO P)] w λr w'=>∃p c,r=.returned (.S p L.length c)/\RT Ig 9 1 w.heap.size w' (.S p L.length c) L/\Bw w w':=by
 obtain⟨-,-,-,-,-,h5,-⟩:=h.eh;obtain⟨M,nn,oM,hnn,mM,zM⟩:=h.lY;have hNM:=h.sto.qj;go_enter Tryz.func317,Tryz.ntmps317;go_wp2_with fail;refine(T.kH bn nn M w oM (aG oM.size_le)).mono ?_;rintro r w1⟨kv,ks,rfl,SJ,Oa,aA⟩;obtain rfl:=xJ hNM Oe mM SJ;obtain⟨p,c,rfl,Hm⟩:=L6 Oa;obtain⟨m,em⟩:=bH D.ns.length;have hm:m<=1048576:=by have:=oM.size_le;rw[zM,aa em]at this;omega
 rw[aa em];have HK:=af Hm;have B1:=af aA;go_wp2
 go_loopw[5,14](λov iv wr=>∃(j:Nat)(N:List LI),j<=m/\iv=.I j/\Hid (xU (D.ns.take j) P=N)/\Hid (RT Ig 9 1 w1.heap.size wr ov N)/\Hid (Bw w1 wr)) (λ_ iv _=>m-(intOf iv).toNat)
 exact⟨0,[],fN _,rfl,(by show _=_;simp[xU]),RT.nil _ _ _ _ _,cR _ _⟩;{
 obtain⟨j,N,hj,rfl,hN,hT,aK⟩:=hrel;obtain⟨po,co,rfl,-⟩:=RT.form hT;have zr:=aK.size;have hnl:N.length<=j:=by have h1:=ah6 (ns:=D.ns.take j) (P:=P);have h2:=Gz j D.ns;rw[aa hN]at h1;omega
 by_cases aT:j<m;{
 have bu:=aS j m;obtain⟨nd,hx⟩:∃nd,D.ns[j]?=some nd:=⟨_,bD (aa em▸aT)⟩;obtain⟨gk,rfl,hck⟩:∃gk,p=some (Ad gk 0)/\wr.cell? (Ad gk j)=some (.string (aO nd.path)):=by rcases aa HK with h0|⟨gk,rfl,h1,h2,h3⟩;{rw[h0]at hx;simp at hx};{exact⟨gk,rfl,ag (by have:=h3 j nd hx;rwa [kS]at this) (aa aK)⟩}
 obtain⟨aA,aD⟩:=aa gq nd (aY hx);have qz:=af (Xw (P:=P) hx);obtain⟨nP,eN⟩:=bH nd.path.length;rw[aa eN]at aD;have nO:=af aA;have heq:=qN (sa aA) bP;go_wp2_with fail;refine(sQ eN nO aD).mono ?_;rintro r w2⟨rfl,rfl⟩;by_cases hq:fg nd.path=P;{
 have wu:decide (fg nd.path=P)=true:=by simp[hq]
 rw[wu]at heq;have E1:=af (by have:=aa qz;rwa [bN hq,aa hN]at this:xU (D.ns.take (j+1)) P=N++[nd.path]);go_wp2_with(at_builtin;refine yO rfl rfl (v:=.S po N.length co) (l:=nd.path) (af rfl) rfl (RT.bh2 (aa hT) (au.alloc ao _)) (g:=w2.heap.size) rfl ai ae aU ?_);intro p' c' w5 T5 uo;have bA:Bw w2 (w2.alloc (.cells #[.string (aO nd.path)] 9)):=au.alloc ao _;have B5:=af ((aj (aa aK) bA).grown uo aU (λb' e=>(hT.lt b' e).1));have T5':=af T5;go_wp2;go_roundw;exact⟨j+1,_,ae,by go_num,E1,T5',B5⟩;exact bM};{
 have wu:decide (fg nd.path=P)=false:=by simp[hq]
 rw[wu]at heq;have E1:=af (by have:=aa qz;rwa [bG hq,aa hN]at this:xU (D.ns.take (j+1)) P=N);go_wp2;go_roundw;exact⟨j+1,N,ae,by go_num,E1,hT,aK⟩;exact bM}};{have bu:=dm j m;have e1:=aa hN;rw[ke (by rw[aa em];omega),aa eL]at e1;subst e1;go_wp2;go_ret;exact⟨_,_,rfl,RT.mono hT B1.size,aj B1 aK⟩}}
open Go.Proofs.Tryz
def fmI(K S F:Int)(np nv:Nat)(E G:Int):Bool:=if 1<=K/\K<=13 then Fa K.toNat S F np nv E G else false
def YR(K:Int):Bool:=!(K==1)&&(!(K==6)&&!(K==13))
def bv5(D:SD)(i:Nat):SD×RP:=match D.ss[i]? with
 |none=>(D,rV)
 |some s=>if s.2.1<D.t+10 then({D with ss:=D.ss.set i (s.1,D.t+10,s.2.2)},{rV with n:=D.t+10})else(D,{rV with n:=s.2.1})
def bt8(D:SD)(i:Nat):SD×RP:=match D.ss[i]? with
 |none=>(D,rV)
 |some s=>({D with ss:=D.ss.set i (s.1,s.2.1,[])},{rV with Ng:=s.2.2})
def Sn(ns:List aC)(P:LI):Int:=match ns.findIdx? (λnd=>decide (nd.path=P))with
 |some i=>i
 |none=>-1
def rY(K:Int)(P:LI):Bool:=decide (K=13)&&decide (P=[47])
def zy(D:SD)(K S F E G:Int)(P V:LI):SD×RP:=
 if(!rY K P&&!vp P)=true then(D,AR 4)
 else if K=4 then mr D P V S F
 else if K=10 then(D,{rV with n:=bg7 D.ns P S E G})
 else if(!rY K P&&decide (Sn D.ns P<0))=true then(D,AR 5)
 else if K=13 then(D,{rV with nms:=jT D.ns P})
 else xg D (Sn D.ns P).toNat K S F V
def fE(D:SD)(K S F E G:Int)(P V:LI):SD×RP:=
 if fmI K S F P.length V.length E G=false then(D,AR 2)
 else if K=1 then pK D
 else if(YR K&&decide (xF D.ss S<0))=true then(D,AR 3)
 else if K=2 then bv5 D (xF D.ss S).toNat
 else if K=3 then(jM D S,rV)
 else if K=12 then bt8 D (xF D.ss S).toNat
 else zy D K S F E G P V
def PD(ns:List aC):Prop:=∀(i j:Nat)(a b:aC),ns[i]?=some a->ns[j]?=some b->a.path=b.path->i=j
structure WF(D:SD):Prop where
 g:0<=D.g/\D.g<=4611686018427387904
 x:0<=D.x/\D.x<=4611686018427387904
 t:0<=D.t/\D.t<=1000000
 nb:NB D.ns
 pb:PPB D.ns
 vl:∀nd∈D.ns,nd.value.length<=1048576
 ex:∀nd∈D.ns,nd.mode=1->nd.holders≠[]
 pd:PD D.ns
def ao4{K S F E G:Int}{pp pq:OA}{np cp:Nat}{w:World}{B:Bool}(eB:Hid (fmI K S F np nv E G=B)):Cp 72 #[ID K S (.S pp np cp) F (.S pq nv cv) E G] w (Rb (.bool B) w):=by
 by_cases h:1<=K/\K<=13;{obtain⟨k,rfl⟩:∃k:Nat,K=(k:Int):=⟨K.toNat,ae⟩;have e:=aa eB;rw[fmI,bN h,qY]at e;exact Hw ae ae (af e)};{have e:=aa eB;rw[fmI,bG h]at e;subst e;exact Hu ae}
def aZ0{w:World}:Calls prog 121 #[.I K] w λr w'=>r=.returned (.bool (YR K))/\w'=w:=by
 by_cases h1:K=1;{
 subst h1
 go_in
 go_wp2;go_ret;exact⟨rfl,rfl⟩};{
 by_cases h6:K=6;{
 subst h6
 go_in
 go_wp2;go_ret;exact⟨rfl,rfl⟩};{
 by_cases h13:K=13;{
 subst h13
 go_in
 go_wp2;go_ret;exact⟨rfl,rfl⟩};{
 have e:YR K=true:=by simp[YR,h1,h6,h13]
 rw[e];have a1:(K != 1)=true:=by simp[h1]
 have a6:(K != 6)=true:=by simp[h6]
 have a13:(K != 13)=true:=by simp[h13]
 go_in
 go_wp2;go_ret;exact⟨rfl,rfl⟩}}}
def aC3(hp:PD ns)(h:ns[k]?=some nd)(hn:iq ns P=some nd):Sn ns P=k:=by
 have e:nd.path=P:=by have:=Qj hn;simpa using this
 have:ns.findIdx? (λnd=>decide (nd.path=P))=some k:=by
  rw[Da];obtain⟨h1,h2⟩:=bf.1 h;refine⟨h1,by rw[h2];simp[e],λi hi hc=>?_⟩;have ri:ns[i].path=P:=by simpa using hc
  have:=hp i k _ _ (bD ae) h (ri.trans e.symm);omega
 rw[Sn,this]
def PJ(hn:iq ns P=none):Sn ns P=-1:=by
 have:ns.findIdx? (λnd=>decide (nd.path=P))=none:=by rw[VT];intro x hx;have:=Qi.1 hn x hx;simpa using this
 rw[Sn,this]
theorem aC4(h:¬Sn ns P<0):∃(k:Nat)(nd:aC),Sn ns P=k/\ns[k]?=some nd:=by
 unfold Sn at h⊢;cases hf:ns.findIdx? (λnd=>decide (nd.path=P))with
 |none=>rw[hf]at h;simp at h
 |some k=>
  obtain⟨h1,-⟩:=Da.1 hf;exact⟨k,_,rfl,bD h1⟩
theorem aA6{S:Int}(h:¬xF ss S<0):∃(k:Nat)(s:aP),xF ss S=k/\ss[k]?=some s:=by
 unfold xF at h⊢;cases hf:ss.findIdx? (λs=>s.1==S)with
 |none=>rw[hf]at h;simp at h
 |some k=>
  obtain⟨h1,-⟩:=Da.1 hf;exact⟨k,_,rfl,bD h1⟩
def TK{x t:Int}{p q:OA}{c n d m:Nat}{S:Value}(en:Hid (ns.length=n))(em:Hid (l.length=m)){w:World}(h:oU w (.S p n c) ns)(hl:Rd w (.S q m d) l)(hn:Mg n)(hm:m<=2097152)(gq:Hid (aN l/\∀nd∈ns,aN nd.path))(hp:PD ns):Cp 129 #[ft e g x t S (.S p n c),.S q m d] w (Rb (.I (Sn ns l)) w):=by
 refine(xR en em h hl hn hm gq).mono ?_;rintro r w'⟨⟨k,nd,rfl,-,h1,h2⟩|⟨rfl,h1⟩,hb⟩;{exact⟨by rw[aC3 hp h1 h2],hb⟩};{exact⟨by rw[PJ h1],hb⟩}
def JL{kd:Int}:(dV D k kd).e=D.e/\(dV D k kd).g=D.g/\(dV D k kd).x=D.x/\(dV D k kd).t=D.t:=by
 unfold dV;split<;>exact⟨rfl,rfl,rfl,rfl⟩
def Yj{id:Int}:(dO D k id).e=D.e/\(dO D k id).g=D.g/\(dO D k id).x=D.x/\(dO D k id).t=D.t:=by
 unfold dO;split;{exact⟨rfl,rfl,rfl,rfl⟩};{split;{split;{exact JL};{exact⟨rfl,rfl,rfl,rfl⟩}};{exact⟨rfl,rfl,rfl,rfl⟩}}
theorem yB(id:Int):∀(f k:Nat)(D:SD),(dF id f k D).e=D.e/\(dF id f k D).g=D.g/\(dF id f k D).x=D.x/\(dF id f k D).t=D.t
 |0,k,D=>by unfold dF;exact⟨rfl,rfl,rfl,rfl⟩
 |f+1,k,D=>by have hd:=Yj (D:=D) (k:=k) (id:=id);unfold dF;split;{exact⟨rfl,rfl,rfl,rfl⟩};{split;{have h1:=yB id f k (Sk (dV (dO D k id) k 2) k);have h2:=JL (D:=dO D k id) (k:=k) (kd:=2);exact⟨h1.1.trans (h2.1.trans hd.1),h1.2.1.trans (h2.2.1.trans hd.2.1),h1.2.2.1.trans (h2.2.2.1.trans hd.2.2.1),h1.2.2.2.trans (h2.2.2.2.trans hd.2.2.2)⟩};{have h1:=yB id f (k+1) (dO D k id);exact⟨h1.1.trans hd.1,h1.2.1.trans hd.2.1,h1.2.2.1.trans hd.2.2.1,h1.2.2.2.trans hd.2.2.2⟩}}
def UR{id:Int}:(jM D id).e=D.e/\(jM D id).g=D.g/\(jM D id).x=D.x/\(jM D id).t=D.t:=yB id _ _ _
def H6(k:Int):Value:=if k=0 then .nilIface else .iface 254 (.agg #[.I k])
def Zo(hv:v=.agg #[]){pt:Value}{w:World}:Calls prog 303 #[v,pt] w (Rb (H6 0) w):=by
 subst hv
 go_in
 go_wp2;go_ret;exact⟨rfl,au.alloc ao _⟩
def zG(D:SD):Int:=if 50<=D.ss.length then 11 else if 4611686018427387904<=D.x then 12 else 0
def aB4{w:World}{SB NB HB UB:List Nat}(h:Hid (PS w0 w b bs bn D SB NB HB UB))(eC:Hid (zG D=C)):Calls prog 302 #[.agg #[],.pointer (some (Ad b 0))] w (Rb (H6 C) w):=by
 obtain⟨-,-,h2,-,h4,-,-⟩:=h.eh;obtain⟨M,n,o,hn,m,hz⟩:=h.rT;have k2:=λ(ob:Obj)=>ag h2 ((cR w.heap.size w).alloc ao ob);have k4:=λ(ob:Obj)=>ag h4 ((cR w.heap.size w).alloc ao ob);have hlen:=λ(ob:Obj)=>(o.alloc ob).len underlying132 3;rw[hz]at hlen;have e:=aa eC;unfold zG at e;obtain⟨nl,jJ⟩:=aI D.ss.length;rw[jJ]at hlen e;clear o m hz jJ;by_cases h50:50<=nl;{
 have be9:=dA 50 nl;rw[bN h50]at e;subst e
 go_in
 go_wp2;go_ret;exact⟨rfl,au.alloc ao _⟩};{
 have be9:¬(50:Int)<=(nl:Int):=ae;rw[bG h50]at e;by_cases hx:4611686018427387904<=D.x;{
 have XC:decide (4611686018427387904<=D.x)=true:=by simpa using hx
 rw[bN hx]at e;subst e
 go_in
 go_wp2;go_ret;exact⟨rfl,au.alloc ao _⟩};{
 have XC:decide (4611686018427387904<=D.x)=false:=by simpa using hx
 rw[bG hx]at e;subst e
 go_in
 go_wp2;go_ret;exact⟨rfl,au.alloc ao _⟩}}
def PS.rest{w0 w w':World}{SB NB HB UB:List Nat}(h:PS w0 w b bs bn D SB NB HB UB){cs:Array Value}{ty:TypeId}(hb:Below w0.heap.size w w')(hk:∀y,y<w.heap.size->y≠z->w'.heap[y]?=w.heap[y]?)(hz:∃m,w.heap[z]?=some (.cells cs ty m))(ht:ty∉[84,142,135,5,190]):PS w0 w' b bs bn D SB NB HB UB:=by
 obtain⟨mz,hz⟩:=hz;simp only[jG,Ki,uP,Je]at ht;obtain⟨t1,t2,t3,t4,t5⟩:=ht;have hf:Fr [ty] w w':=⟨hb.size,λy cur ty' m' hn hy=>by by_cases e:y=z;{subst e;rw[hz]at hy;simp at hy;exact absurd (by rw[hy.2.1];simp) hn};{exact(hk y (jV hy) e).trans hy}⟩
 have nc:∀{y:Nat}{cs':Array Value}{ty':TypeId},w.heap[y]?=some (.cells cs' ty')->ty≠ty'->w'.heap[y]?=some (.cells cs' ty'):=λ{y cs' ty'}hy ht'=>(hk y (aQ hy) (λe=>by rw[e,hz]at hy;simp at hy;exact ht' hy.2.1)).trans hy
 have nm:∀{k:TypeId}{R:Value->Option (DataW Unit×List MemPlace)}{y n:Nat}{M:DataW Unit},w.ownsMap prog k R y n M->w'.ownsMap prog k R y n M:=λo=>uJ o (λes c hh=>(hk _ (aQ hh) (λe=>by rw[e,hz]at hh;cases hh)).trans hh)
 have ab:∀{v:Value}{l:LI},AB w0 w v l->AB w0 w' v l:=λq=>q.fr hf (by simp;exactλe=>t4 e.symm);have sm:∀{y:Nat}{s:LI},SM w y s->SM w' y s:=λ⟨M,n,o,r⟩=>⟨M,n,nm o,r⟩;refine⟨h.be.trans hb,nc h.hd t3,h.tR,?_,λj s1 g1 ij gx=>?_,h.snd,h.tT,h.hlen,h.uy,?_,λj nd gb hh uu ij gx h1 h2=>?_,h.nnd,h.lo,h.Np⟩;{obtain⟨M,n,o,r⟩:=h.rT;exact⟨M,n,nm o,r⟩};{obtain⟨q0,u,q1,q2⟩:=h.uF j s1 g1 ij gx;exact⟨q0,u,nc q1 t1,q2.fr hb hf (by simp;exact⟨λe=>t4 e.symm,λe=>t5 e.symm⟩)⟩};{obtain⟨M,n,o,r⟩:=h.lY;exact⟨M,n,nm o,r⟩};{obtain⟨q0,⟨V,q1,q2⟩,q3,q4⟩:=h.mZ j nd gb hh uu ij gx h1 h2;exact⟨q0,⟨V,nc q1 t2,ab q2⟩,sm q3,sm q4⟩}
def km{id:Nat}{Q:Exit->Act->World->Prop}{a:Act}{w:World}{l:List Oper}(hB:Region.lexB .any l.toArray=true)(h:∀W,W=w.drew->wpStill prog l.toArray W (λa'=>Q .normal a' W) l a):(Code.region id l.toArray true).wp prog Q a w:=wp_region_still_lit (by kernel_rfl) hB (h _ rfl)
def dW{id:Nat}{Q:Exit->Act->World->Prop}{a:Act}{w:World}{l:List Oper}(n:Nat)(hB:Region.lexTailB .any l.toArray n=true)(h:∀W,W=w.drew->wpStill prog l.toArray W (λa'=>wpList prog l.toArray Q (l.drop n) a' W) (l.take n) a):(Code.region id l.toArray true).wp prog Q a w:=wp_region_still_tail n (by kernel_rfl) hB (h _ rfl)
def PS.rep{w0 w:World}{SB NB HB UB:List Nat}(h:PS w0 w b bs bn D SB NB HB UB){vs:List Value}(hz:RX w z vs)(YU:w0.heap.size<=z)(v0 v1 v2 v3 v4 v5 v6 v7:Value):PS w0 (lD w z v0 v1 v2 v3 v4 v5 v6 v7) b bs bn D SB NB HB UB:=by
 obtain⟨-,cur,hc⟩:=hz;exact h.rest ((di).mono YU) (λy _ cg=>JY cg) ⟨_,hc⟩ aZ
def Nz(w:World)(cs:Array Value)(ty:TypeId):∃X Y,X=w.alloc (.cells cs ty)/\Y=X.alloc (.cells #[.I 0,.U 0,.U 0,.U 0,.I 0,.S none 0 0,.S none 0 0,.S none 0 0] 79)/\Bw w Y/\X.heap.size=w.heap.size+1/\Y.heap.size=w.heap.size+2/\al Y w.heap.size cs.toList/\RX Y (w.heap.size+1) [.I 0,.U 0,.U 0,.U 0,.I 0,.S none 0 0,.S none 0 0,.S none 0 0]:=by
 obtain⟨X,hX,bX,zX,CX,gX⟩:=ar w cs ty;obtain⟨Y,hY,bY,zY,RY⟩:=rA X (.I 0) (.U 0) (.U 0) (.U 0) (.I 0) (.S none 0 0) (.S none 0 0) (.S none 0 0);rw[zX]at RY;exact⟨X,Y,hX,hY,aj bX bY,zX,ae,CX.dG (bY.block _ ae),RY⟩
def zt{R:Ending->World->Prop}{a:Act}{Z:World}(hR:Hid (RX Z z [o0,o1,o2,o3,o4,o5,o6,o7]))(hf:fn.results=#[.cell 4 79])(ha:a.tmps.getD 4 undef=.pointer (some (Ad z 0)))(hd:a.defers=[])(hQ:R (.returned (.agg #[v0,v1,v2,v3,v4,v5,v6,v7])) (lD Z z v0 v1 v2 v3 v4 v5 v6 v7)):bodyPost prog fn R .ret a (lD Z z v0 v1 v2 v3 v4 v5 v6 v7):=by
 obtain⟨q0,q1,q2,q3,q4,q5,q6,q7,-⟩:=(hR.put v0 v1 v2 v3 v4 v5 v6 v7).1.cells;generalize lD Z z v0 v1 v2 v3 v4 v5 v6 v7=W at*;refine dD (v:=.agg #[v0,v1,v2,v3,v4,v5,v6,v7]) ?_ hd hQ;have Oh:=ha;simp only[aO4]at Oh;simp[results,hf,go_sem,Oh,q0,q1,q2,q3,q4,q5,q6,q7]
def rpn(R:RP):Value:=yF R.k R.i R.e R.g R.n (.S none 0 0) (.S none 0 0) (.S none 0 0)
def tG(w0 w:World)(b bs bn:Nat)(D:SD)(SB NB HB UB:List Nat)(R:RP)(r:Ending)(w':World):Prop:=PS w0 w' b bs bn D SB NB HB UB/\Fr T3 w w'/\r=.returned (rpn R)
def zw{a:Act}{w0 w Z:World}{SB NB HB UB:List Nat}{R:RP}(PZ:Hid (PS w0 Z b bs bn D SB NB HB UB))(FZ:Hid (Fr T3 w Z))(RZ:Hid (RX Z (w.heap.size+1) [o0,o1,o2,o3,o4,o5,o6,o7]))(Sh:w0.heap.size<=w.heap.size)(hf:fn.results=#[.cell 4 79])(ha:a.tmps.getD 4 undef=.pointer (some (Ad (w.heap.size+1) 0)))(hd:a.defers=[])(eR:rpn R=.agg #[v0,v1,v2,v3,v4,v5,v6,v7]):bodyPost prog fn (tG w0 w b bs bn D SB NB HB UB R) .ret a (lD Z (w.heap.size+1) v0 v1 v2 v3 v4 v5 v6 v7):=
 zt RZ hf ha hd ⟨PS.rep (aa PZ) (aa RZ) ae _ _ _ _ _ _ _ _,FZ.low ((di (w:=Z) (b:=w.heap.size+1) (v0:=v0) (v1:=v1) (v2:=v2) (v3:=v3) (v4:=v4) (v5:=v5) (v6:=v6) (v7:=v7)).mono ae),by rw[eR]⟩
def WV{w:World}{SB NB HB UB:List Nat}(h:Hid (PS w0 w b bs bn D SB NB HB UB))(hk:Hid (D.ns[k]?=some nd))(hS:Hid (Fg D.ss))(hT:Hid (NT D.ss nd)){id:Int}(hid:0<=id/\id<18446744073709551616)(hhp:Hid (nd.holders.Pairwise (·<·)))(hhl:nd.holders.length<=1048576)(Dw:Hid (nd.holders.contains id=true)):Calls prog 323 #[.agg #[.U id,.string (aO nd.path)],.pointer (some (Ad b 0))] w (tG w0 w b bs bn (dO D k id) SB NB HB UB rV):=by
 obtain⟨X,Y,hX,hY,bY,zX,zY,CY,RY⟩:=Nz w #[.U id,.string (aO nd.path)] 273
 go_in
 go_wp2_with fail;rw[<-hX,<-hY];refine(Xf (af (h.below bY)) hk hS hT hid hhp hhl Dw).mono ?_;rintro r Z⟨PZ,hF,v,rfl⟩;have RZ0:=RY.fr hF;obtain⟨r0,r1,r2,r3,r4,r5,r6,r7,rf⟩:=RZ0.cells;replace PZ:=af PZ;have FZ:=af ((Fr.below (T:=T3) bY).trans hF);have RZ:=af RZ0;have Sh:=h.be.size;go_wp2;exact zw PZ FZ RZ Sh bg rfl rfl rfl
def Yl{w:World}{SB NB HB UB:List Nat}(h:Hid (PS w0 w b bs bn D SB NB HB UB))(hk:Hid (D.ns[k]?=some nd))(hS:Hid (Fg D.ss))(hT:Hid (NT D.ss nd))(hD:Hid (KD D.ns)){id:Int}:Calls prog 315 #[.agg #[.U id,.string (aO nd.path)],.pointer (some (Ad b 0))] w (tG w0 w b bs bn (Sk (dV D k 2) k) SB (NB.eraseIdx k) (HB.eraseIdx k) (UB.eraseIdx k) rV):=by
 obtain⟨X,Y,hX,hY,bY,zX,zY,CY,RY⟩:=Nz w #[.U id,.string (aO nd.path)] 266
 go_in
 go_wp2_with fail;rw[<-hX,<-hY];refine(ZW (af (h.below bY)) hk hS hT hD).mono ?_;rintro r Z⟨PZ,hF,v,rfl⟩;have RZ0:=RY.fr hF;obtain⟨r0,r1,r2,r3,r4,r5,r6,r7,rf⟩:=RZ0.cells;replace PZ:=af PZ;have FZ:=af ((Fr.below (T:=T3) bY).trans hF);have RZ:=af RZ0;have Sh:=h.be.size;go_wp2;exact zw PZ FZ RZ Sh bg rfl rfl rfl
def PS.TL{w0 w:World}{SB NB HB UB:List Nat}(h:PS w0 w b bs bn D SB NB HB UB)(hi:D.ns[i]?=some nd)(hl:nd.path.length<=1048576):∃g hh uu V,NB[i]?=some g/\HB[i]?=some hh/\UB[i]?=some uu/\g<w.heap.size/\hh<w.heap.size/\uu<w.heap.size/\w0.heap.size<=g/\∀W,Bw w W->W.cell? (Ad b 5)=some (.map (some bn))/\(Instr.lookup 133 (.map (some bn)) (.string (aO nd.path)) false).run prog W=.ok (.pointer (some (Ad g 0))) W/\PN w0 W g hh uu nd/\W.heap[g]?=some (.cells #[V,.U nd.owner,.I nd.mode,.map (some hh),.U nd.aJ,.U nd.gen,.map (some uu)] 142):=by
 obtain⟨g,hh,uu,hg,og,mO,hN,-⟩:=h.Qz hi hl;obtain⟨V,h1,-⟩:=hN.blk;obtain⟨es,c,m3⟩:=hN.Wv.at;obtain⟨es',c',m4⟩:=hN.WT.at;refine⟨g,hh,uu,V,hg,og,mO,aQ h1,aQ m3,aQ m4,hN.lo.1,λW hW=>?_⟩;have hP:=h.below hW;obtain⟨-,-,-,-,-,k5,-⟩:=hP.eh;obtain⟨g',hh',uu',yJ,bB6,bx8,MX,EP⟩:=hP.Qz hi hl;rw[hg]at yJ;rw[og]at bB6;rw[mO]at bx8;cases yJ;cases bB6;cases bx8;exact⟨k5,EP,MX,(hW.block g (aQ h1)).trans h1⟩
def aW6{w:World}{SB NB HB UB:List Nat}(h:Hid (PS w0 w b bs bn D SB NB HB UB))(hk:Hid (D.ns[k]?=some nd))(hS:Hid (Fg D.ss))(hT:Hid (NT D.ss nd)){id:Int}(hV:Hid (AB w0 w (.S pv nv cv) V)):Calls prog 319 #[.agg #[.U id,.string (aO nd.path),.S pv nv cv],.pointer (some (Ad b 0))] w (tG w0 w b bs bn (dV {D with ns:=D.ns.set k {nd with value:=V}} k 1) SB NB HB UB rV):=by
 obtain⟨g,hh,uu,V0,hg,og,mO,gl,-,-,g0,hW⟩:=h.TL hk hT.pl;obtain⟨X,Y,hX,hY,bY,zX,zY,CY,RY⟩:=Nz w #[.U id,.string (aO nd.path),.S pv nv cv] 270;have HW:=af hW;clear hW
 go_in
 go_wp2_with fail;rw[<-hX,<-hY];refine dW 12 bg (λW eW=>?_);have bW:Bw w W:=eW▸bY.drew;obtain⟨k5,kl,kN,kb⟩:=aa HW W bW;have c1:W.cell? (Ad w.heap.size 1)=some (.string (aO nd.path)):=eW▸CY.1 1 _ rfl;have c2:W.cell? (Ad w.heap.size 2)=some (.S pv nv cv):=eW▸CY.1 2 _ rfl;have RW:=RY.below (w':=W) (eW▸au.drew);have CW:=CY.dG (w':=W) (by rw[eW];rfl);have Sh:=h.be.size;have PW:=af (h.below bW);have g0c:=aq kb 0;have gf:∀o,W.frozen? (Ad g o)=false:=λo=>by simp[World.frozen?,kb]
 have KB:=af kb;have KN:=af kN;clear hX hY eW kb CY RY kN;simp only[Ab,sg,xO,tW]
 repeat still_step
 refine iQ ?_;obtain⟨Z,hZ⟩:=az (W.setCell (Ad g 0) (.S pv nv cv));have IF:Z.heap[g]?=some (.cells #[.S pv nv cv,.U nd.owner,.I nd.mode,.map (some hh),.U nd.aJ,.U nd.gen,.map (some uu)] 142):=by rw[hZ];simp[World.setCell,xM,aa KB]
 have bZ:Below g W Z:=by rw[hZ];exact au.setCell (p:=(Ad g 0)) ao _
 have kZ:∀z,z<W.heap.size->z≠g->Z.heap[z]?=W.heap[z]?:=λz _ cg=>by rw[hZ];exact fW _ _ _ _ (show z≠_ from cg)
 have O:=One.ofC PW.be bZ (aa KB) g0 ai kZ;have PZ:=af (PW.ab7 (aa hk) hg og mO O _ V nd.owner nd.mode nd.aJ nd.gen IF ((hV.fr (aM bW) ai).fr O.fr));have RZ:=RW.fr O.fr;have zz:w.heap.size<W.heap.size:=aG (jV RW.2.choose_spec);have d1:Z.cell? (Ad w.heap.size 1)=some (.string (aO nd.path)):=(CW.dG (kZ _ zz ae)).1 1 _ rfl;have FZ:=af ((Fr.below (T:=T3) bW).trans O.fr);have YV:=af (bL hk {nd with value:=V});clear IF bZ kZ O RW CW KB KN;go_wp2_with fail;rw[<-hZ];refine(aV6 PZ (k:=k) {nd with value:=V} YV 1 hS (af ⟨hT.by',hT.pl,hT.wpw,hT.Tb,hT.Ox⟩)).mono ?_;rintro r U⟨PU,hF,v,rfl⟩;have RU0:=RZ.fr hF;obtain⟨r0,r1,r2,r3,r4,r5,r6,r7,rf⟩:=RU0.cells;replace PU:=af PU;have FU:=af (FZ.trans hF);have RU:=af RU0;clear RU0 hF RZ d1 hZ;go_wp2;exact zw PU FU RU Sh bg rfl rfl rfl
def WU{w:World}{SB NB HB UB:List Nat}(h:Hid (PS w0 w b bs bn D SB NB HB UB))(hk:Hid (D.ns[k]?=some nd))(rK:nd.path.length<=1048576){id:Int}(hid:0<=id/\id<18446744073709551616)(eC:Hid ((if nd.holders.contains id=true then 0 else 10)=C)):Calls prog 324 #[.agg #[.U id,.string (aO nd.path)],.pointer (some (Ad b 0))] w (Rb (H6 C) w):=by
 obtain⟨g,hh,uu,V0,hg,og,mO,gl,-,ul,g0,hW⟩:=h.TL hk rK;obtain⟨X,hX,bX,zX,CX,-⟩:=ar w #[.U id,.string (aO nd.path)] 273;have HW:=af hW;clear hW
 go_in
 go_wp2_with fail;rw[<-hX];refine dW 11 bg (λW eW=>?_);have bW:Bw w W:=eW▸bX.drew;obtain⟨k5,kl,kN,kb⟩:=aa HW W bW;have c0:W.cell? (Ad w.heap.size 0)=some (.U id):=eW▸CX.1 0 _ rfl;have c1:W.cell? (Ad w.heap.size 1)=some (.string (aO nd.path)):=eW▸CX.1 1 _ rfl;have KN:=af kN;clear hX eW kb CX kN;simp only[Ab,sg,xO,tW]
 repeat still_step
 refine iQ ?_;obtain⟨B,eB⟩:=bH (nd.holders.contains id);go_wp2_with fail;refine(ld KN hid eB).mono ?_;rintro r w1⟨rfl,aA⟩;have nO:=af (aj bW aA);have e:=aa eC;rw[aa eB]at e;clear aA c0 c1 k5 kl;cases B;{
 have e':C=10:=by rw[<-e];rfl
 subst e';go_wp2;go_ret;exact⟨rfl,nO⟩};{
 have e':C=0:=by rw[<-e];rfl
 subst e';go_wp2;go_ret;exact⟨rfl,nO⟩}
def aI9(D:SD)(nd:aC)(id:Int):Int:=if jT D.ns nd.path≠[]then 8 else if mQ nd id=false then 9 else 0
def Yk{w:World}{SB NB HB UB:List Nat}(h:Hid (PS w0 w b bs bn D SB NB HB UB))(Oe:Hid ((D.ns.map λnd=>rz nd.path).Pairwise (·<·)))(gq:Hid (∀nd∈D.ns,aN nd.path/\nd.path.length<=1048576))(hk:Hid (D.ns[k]?=some nd)){id:Int}(hid:0<=id/\id<18446744073709551616)(eC:Hid (aI9 D nd id=C)):Calls prog 316 #[.agg #[.U id,.string (aO nd.path)],.pointer (some (Ad b 0))] w (Rb (H6 C) w):=by
 obtain⟨am1,rK⟩:=aa gq nd (aY (aa hk));obtain⟨g,hh,uu,V0,hg,og,mO,gl,-,ul,g0,hW⟩:=h.TL hk rK;obtain⟨X,hX,bX,zX,CX,-⟩:=ar w #[.U id,.string (aO nd.path)] 266;have HW:=af hW;have HBY:=af am1;have e:=aa eC;unfold aI9 at e;rw[Xx]at e;obtain⟨L,eL⟩:=bH (xU D.ns nd.path);rw[aa eL]at e;obtain⟨m,em⟩:=aI L.length;have E:=af e;have EM:=af em;clear hW am1 e em
 go_in
 go_wp2_with fail;rw[<-hX];refine(Nx (af (h.below bX)) Oe gq HBY eL).mono ?_;rintro r w1⟨p,c,rfl,-,aA⟩;rw[aa EM];have CW:=CX.dG (w':=w1) (aA.block _ ae);have B1:=af (aj bX aA);clear CX hX aA;by_cases h0:m=0;{
 subst h0;have hL:L=[]:=sV.1 EM;have e2:(if mQ nd id=false then 9 else 0)=C:=by have:=aa E;rw[hL]at this;simpa using this
 have E2:=af e2;clear e2 hL;go_wp2_with fail;refine dW 11 bg (λW eW=>?_);have bW:Bw w W:=eW▸B1.drew;obtain⟨k5,kl,kN,kb⟩:=aa HW W bW;have c0:W.cell? (Ad w.heap.size 0)=some (.U id):=eW▸CW.1 0 _ rfl;have c1:W.cell? (Ad w.heap.size 1)=some (.string (aO nd.path)):=eW▸CW.1 1 _ rfl;have KN:=af kN;clear eW kb CW kN;simp only[Ab,sg,xO,tW]
 repeat still_step
 refine iQ ?_;obtain⟨B,eB⟩:=bH (mQ nd id);go_wp2_with fail;refine(XU KN hid eB).mono ?_;rintro r w5⟨rfl,e8⟩;have ui:=af (aj bW e8);have e:=aa E2;rw[aa eB]at e;clear e8 c0 c1 k5 kl;cases B;{
 have e':C=9:=by rw[<-e];rfl
 subst e';go_wp2;go_ret;exact⟨rfl,ui⟩};{
 have e':C=0:=by rw[<-e];rfl
 subst e';go_wp2;go_ret;exact⟨rfl,ui⟩}};{
 have h0':=qi 0 m;have e':C=8:=by have:=aa E;rw[bN (λe=>h0 (by rw[<-aa EM];simpa using e))]at this;exact this.symm
 subst e';go_wp2;go_ret;exact⟨rfl,B1⟩}
def ZI(nd:aC)(id:Int):Int:=if nd.mode=1/\nd.holders.contains id=false then 9 else 0
def aW5{w:World}{SB NB HB UB:List Nat}(h:Hid (PS w0 w b bs bn D SB NB HB UB))(hk:Hid (D.ns[k]?=some nd))(rK:nd.path.length<=1048576){id:Int}(hid:0<=id/\id<18446744073709551616){V:Value}(eC:Hid (ZI nd id=C)):Calls prog 320 #[.agg #[.U id,.string (aO nd.path),.S pv nv cv],.pointer (some (Ad b 0))] w (Rb (H6 C) w):=by
 obtain⟨g,hh,uu,V0,hg,og,mO,gl,-,ul,g0,hW⟩:=h.TL hk rK;obtain⟨X,hX,bX,zX,CX,-⟩:=ar w #[.U id,.string (aO nd.path),.S pv nv cv] 270;have HW:=af hW;clear hW
 go_in
 go_wp2_with fail;rw[<-hX];refine km bg (λW eW=>?_);have bW:Bw w W:=eW▸bX.drew;obtain⟨k5,kl,kN,kb⟩:=aa HW W bW;have c0:W.cell? (Ad w.heap.size 0)=some (.U id):=eW▸CX.1 0 _ rfl;have c1:W.cell? (Ad w.heap.size 1)=some (.string (aO nd.path)):=eW▸CX.1 1 _ rfl;have KN:=af kN;have g2:=aq kb 2;clear hX eW kb CX kN
 repeat still_step
 refine iQ ?_;have e:=aa eC;unfold ZI at e;by_cases hm:nd.mode=1;{
 have hm':(nd.mode==1)=true:=by simp[hm]
 obtain⟨B,eB⟩:=bH (nd.holders.contains id);rw[aa eB]at e;have E:=af (by simpa[hm]using e:(if B=false then 9 else 0)=C);clear hm e;go_wp2_with fail;refine(ld KN hid eB).mono ?_;rintro r w5⟨rfl,e8⟩;have ui:=af (aj bW e8);clear e8 c0 c1 k5 kl g2;have e:=aa E;cases B;{
 have e':C=9:=by rw[<-e];rfl
 subst e';go_wp2;go_ret;exact⟨rfl,ui⟩};{
 have e':C=0:=by rw[<-e];rfl
 subst e';go_wp2;go_ret;exact⟨rfl,ui⟩}};{
 have hm':(nd.mode==1)=false:=by simp[hm]
 have e':C=0:=by rw[<-e];simp[hm]
 subst e';clear hm e;go_wp2;go_ret;exact⟨rfl,bW⟩}
def nL(D:SD)(nd:aC)(id F:Int):Int:=if nd.holders.contains id then 9 else if F=2 then(if nd.mode=1 then 9 else 0)else if nd.mode≠0 then 9 else if 4611686018427387904<=D.g then 12 else 0
def aC8{w:World}{SB NB HB UB:List Nat}(h:Hid (PS w0 w b bs bn D SB NB HB UB))(hk:Hid (D.ns[k]?=some nd))(rK:nd.path.length<=1048576){id:Int}(hid:0<=id/\id<18446744073709551616)(hF:F=1\/F=2)(eC:Hid (nL D nd id F=C)):Calls prog 322 #[.agg #[.U id,.string (aO nd.path),.I F],.pointer (some (Ad b 0))] w (Rb (H6 C) w):=by
 obtain⟨g,hh,uu,V0,hg,og,mO,gl,-,ul,g0,hW⟩:=h.TL hk rK;obtain⟨X,hX,bX,zX,CX,-⟩:=ar w #[.U id,.string (aO nd.path),.I F] 272;have HW:=af hW;clear hW;have HF:=af hF;clear hF
 go_in
 go_wp2_with fail;rw[<-hX];refine km bg (λW eW=>?_);have bW:Bw w W:=eW▸bX.drew;obtain⟨k5,kl,kN,kb⟩:=aa HW W bW;obtain⟨-,kg,-⟩:=(h.below bW).eh;have c0:W.cell? (Ad w.heap.size 0)=some (.U id):=eW▸CX.1 0 _ rfl;have c1:W.cell? (Ad w.heap.size 1)=some (.string (aO nd.path)):=eW▸CX.1 1 _ rfl;have c2:W.cell? (Ad w.heap.size 2)=some (.I F):=eW▸CX.1 2 _ rfl;have KN:=af kN;have g2:=aq kb 2;clear hX eW kb CX kN
 repeat still_step
 refine iQ ?_;rcases aa HF with e1|e1;{
 subst e1;by_cases hm:nd.mode=0;{
 have HM:=af hm;have m1:(nd.mode==1)=false:=by simp[hm]
 have m0:(nd.mode != 0)=false:=by simp[hm]
 clear hm;obtain⟨B,eB⟩:=bH (nd.holders.contains id);go_wp2_with fail;refine(ld KN hid eB).mono ?_;rintro r w5⟨rfl,e8⟩;have d2:=ag c2 e8;have d1:=ag kg e8;have ui:=af (aj bW e8);have e:=aa eC;unfold nL at e;rw[aa eB]at e;clear e8 c0 c1 c2 k5 kl g2 kg;cases B;{
 by_cases hx:4611686018427387904<=D.g;{
 have XC:decide (4611686018427387904<=D.g)=true:=by simpa using hx
 have e':C=12:=by rw[<-e];simp[aa HM,hx]
 subst e';clear e hx;go_wp2;go_ret;exact⟨rfl,ui⟩};{
 have XC:decide (4611686018427387904<=D.g)=false:=by simpa using hx
 have e':C=0:=by rw[<-e];simp[aa HM,hx]
 subst e';clear e hx;go_wp2;go_ret;exact⟨rfl,ui⟩}};{
 have e':C=9:=by rw[<-e];simp
 subst e';clear e;go_wp2;go_ret;exact⟨rfl,ui⟩}};{
 have HM:=af hm;by_cases Dt:nd.mode=1;{
 have m1:(nd.mode==1)=true:=by simp[Dt]
 clear hm Dt;obtain⟨B,eB⟩:=bH (nd.holders.contains id);go_wp2_with fail;refine(ld KN hid eB).mono ?_;rintro r w5⟨rfl,e8⟩;have d2:=ag c2 e8;have d1:=ag kg e8;have ui:=af (aj bW e8);have e:=aa eC;unfold nL at e;rw[aa eB]at e;clear e8 c0 c1 c2 k5 kl g2 kg;cases B;{
 have e':C=9:=by rw[<-e];simp[aa HM]
 subst e';clear e;go_wp2;go_ret;exact⟨rfl,ui⟩};{
 have e':C=9:=by rw[<-e];simp
 subst e';clear e;go_wp2;go_ret;exact⟨rfl,ui⟩}};{
 have m1:(nd.mode==1)=false:=by simp[Dt]
 have m0:(nd.mode != 0)=true:=by simp[hm]
 clear hm Dt;obtain⟨B,eB⟩:=bH (nd.holders.contains id);go_wp2_with fail;refine(ld KN hid eB).mono ?_;rintro r w5⟨rfl,e8⟩;have d2:=ag c2 e8;have d1:=ag kg e8;have ui:=af (aj bW e8);have e:=aa eC;unfold nL at e;rw[aa eB]at e;clear e8 c0 c1 c2 k5 kl g2 kg;cases B;{
 have e':C=9:=by rw[<-e];simp[aa HM]
 subst e';clear e;go_wp2;go_ret;exact⟨rfl,ui⟩};{
 have e':C=9:=by rw[<-e];simp
 subst e';clear e;go_wp2;go_ret;exact⟨rfl,ui⟩}}}};{
 subst e1;by_cases hm:nd.mode=1;{
 have HM:=af hm;have m1:(nd.mode==1)=true:=by simp[hm]
 clear hm;obtain⟨B,eB⟩:=bH (nd.holders.contains id);go_wp2_with fail;refine(ld KN hid eB).mono ?_;rintro r w5⟨rfl,e8⟩;have d2:=ag c2 e8;have d1:=ag kg e8;have ui:=af (aj bW e8);have e:=aa eC;unfold nL at e;rw[aa eB]at e;clear e8 c0 c1 c2 k5 kl g2 kg;cases B;{
 have e':C=9:=by rw[<-e];simp[aa HM]
 subst e';clear e;go_wp2;go_ret;exact⟨rfl,ui⟩};{
 have e':C=9:=by rw[<-e];simp
 subst e';clear e;go_wp2;go_ret;exact⟨rfl,ui⟩}};{
 have HM:=af hm;have m1:(nd.mode==1)=false:=by simp[hm]
 clear hm;obtain⟨B,eB⟩:=bH (nd.holders.contains id);go_wp2_with fail;refine(ld KN hid eB).mono ?_;rintro r w5⟨rfl,e8⟩;have d2:=ag c2 e8;have d1:=ag kg e8;have ui:=af (aj bW e8);have e:=aa eC;unfold nL at e;rw[aa eB]at e;clear e8 c0 c1 c2 k5 kl g2 kg;cases B;{
 have e':C=0:=by rw[<-e];simp[aa HM]
 subst e';clear e;go_wp2;go_ret;exact⟨rfl,ui⟩};{
 have e':C=9:=by rw[<-e];simp
 subst e';clear e;go_wp2;go_ret;exact⟨rfl,ui⟩}}}
def vu(w:World)(cs:Array Value)(ty:TypeId):∃X Y,X=w.alloc (.cells cs ty)/\Y=X.alloc (.cells #[.I 0,.U 0,.U 0,.U 0,.I 0,.S none 0 0,.S none 0 0,.S none 0 0] 79)/\Bw w Y/\X.heap.size=w.heap.size+1/\Y.heap.size=w.heap.size+2/\Y.heap[w.heap.size]?=some (.cells cs ty)/\RX Y (w.heap.size+1) [.I 0,.U 0,.U 0,.U 0,.I 0,.S none 0 0,.S none 0 0,.S none 0 0]:=by
 obtain⟨X,hX,bX,zX,-,gX⟩:=ar w cs ty;obtain⟨Y,hY,bY,zY,RY⟩:=rA X (.I 0) (.U 0) (.U 0) (.U 0) (.I 0) (.S none 0 0) (.S none 0 0) (.S none 0 0);rw[zX]at RY;exact⟨X,Y,hX,hY,aj bX bY,zX,ae,(bY.block _ ae).trans gX,RY⟩
def ag6{w:World}{SB NB HB UB:List Nat}(h:Hid (PS w0 w b bs bn D SB NB HB UB))(hk:Hid (D.ns[k]?=some nd))(rK:nd.path.length<=1048576)(Oe:Hid (nd.holders.Pairwise (·<·)))(XI:Hid (nd.holders.length<=1048576)){id:Int}(hid:0<=id/\id<18446744073709551616)(he:Hid (nd.aJ=0/\nd.gen=0)):Calls prog 321 #[.agg #[.U id,.string (aO nd.path),.I 2],.pointer (some (Ad b 0))] w (tG w0 w b bs bn {D with ns:=D.ns.set k {nd with mode:=2,holders:=xA nd.holders id}} SB NB HB UB rV):=by
 obtain⟨g,hh,uu,V0,hg,og,mO,gl,-,-,g0,hW⟩:=h.TL hk rK;obtain⟨X,Y,hX,hY,bY,zX,zY,BX,RY⟩:=vu w #[.U id,.string (aO nd.path),.I 2] 272;have HW:=af hW;have BXH:=af BX;have RYH:=af RY;have IX:=af (ah hg (ah og mO));have Sh:=h.be.size;have cQ:=keyOf_int_mk underlying31 (oY hid)
 go_in
 go_wp2_with fail;rw[<-hX,<-hY];refine km bg (λW eW=>?_);have ND:=nH eW;obtain⟨k5,kl,kN,kb⟩:=aa HW W (aj bY ND);have FW:=af (Fr.below (T:=T3) ND);have bx:=FW.2 _ _ _ _ aZ BXH;have c1:=aq bx 1;have c2:=aq bx 2;have g2:=aq kb 2;have gf:∀o,W.frozen? (Ad g o)=false:=λo=>by simp[World.frozen?,kb]
 have PW:=af (h.below (aj bY ND));obtain⟨V',hV',bR,-⟩:=kN.cells;rw[kb]at bR;cases bR;have HV:=af hV';have KB:=af kb;clear hX hY eW kb kN bx hV' ND
 repeat still_step
 refine iQ ?_;obtain⟨Z,hZ⟩:=az (W.setCell (Ad g 2) (.I 2));have IF:Z.heap[g]?=some (.cells #[V0,.U nd.owner,.I 2,.map (some hh),.U nd.aJ,.U nd.gen,.map (some uu)] 142):=by rw[hZ];simp[World.setCell,xM,aa KB]
 have bZ:Below g W Z:=by rw[hZ];exact au.setCell (p:=(Ad g 2)) ao _
 have kZ:∀z,z<W.heap.size->z≠g->Z.heap[z]?=W.heap[z]?:=λz _ cg=>by rw[hZ];exact fW _ _ _ _ (show z≠_ from cg)
 have O:=One.ofC PW.be bZ (aa KB) g0 ai kZ;have PZ:=af (PW.ab7 hk IX.1 IX.2.1 IX.2.2 O V0 nd.value nd.owner 2 nd.aJ nd.gen IF (HV.fr O.fr));have FZ:=af (FW.trans O.fr);clear bZ kZ O IF;go_wp2_with fail;rw[<-hZ];clear hZ c1 c2 g2 gf k5 kl KB HV PW FW;refine dW 8 bg (λW1 eW1=>?_);have bZW:=nH eW1;have PW1:=af (PZ.below bZW);have FW1:=af (FZ.trans (Fr.below (T:=T3) bZW));have bx:=FW1.2 _ _ _ _ aZ BXH;have c0:=aq bx 0;have la:=bL hk {nd with mode:=2}
 have kN:=PW1.mZ k _ g hh uu la IX.1 IX.2.1 IX.2.2;obtain⟨V1,-,-,-,-,-,n3,-⟩:=kN.cells;obtain⟨M,n,o,hn,hs,hz⟩:=kN.Wv;have o':=fv o;rw[hz]at o';obtain⟨Y2,dN,ho,yJ⟩:=o'.update iO underlying139 (by have:=aa XI;show nd.holders.length<_;unfold maxLen;omega) (val:=.agg #[]) cQ unitElem_mk;have O2:=One.ofG PW1.be yJ kN.lo.2.1 (ownsMap_at o');have SZ:=SM.put (w:=W1) hs o'.isMap Oe (by have:=aa XI;show nd.holders.length+1<=_;omega) ho;have WN:=PW1.Wv la IX.1 IX.2.1 IX.2.2 O2 SZ;simp only[qK]at WN;replace WN:=af WN;have FY2:=af (FW1.trans O2.fr);have rO:=af (bL hk {nd with mode:=2,holders:=xA nd.holders id});have bx2:=FY2.2 _ _ _ _ aZ BXH;have e2:=aq bx2 2;clear eW1 kN O2 SZ ho yJ o o' hs hz bx bx2 la bZW;simp only[Ab,sg,xO,tW]
 repeat still_step
 refine iQ ?_;go_wp2_with fail;clear dN c0 n3 e2;refine dW 9 bg (λW2 eW2=>?_);have bY2:=nH eW2;have Zf:=af (WN.below bY2);have FW2:=FY2.trans (Fr.below (T:=T3) bY2);have RW2:=RYH.fr FW2;have kN:=Zf.mZ k _ g hh uu rO IX.1 IX.2.1 IX.2.2;obtain⟨V1,-,-,-,-,-,-,n4,n5,-⟩:=kN.cells;simp only[he.1,he.2]at n4 n5;obtain⟨r0,r1,r2,r3,r4,r5,r6,r7,rf⟩:=RW2.cells;have FZ2:=af ((Fr.below (T:=T3) bY).trans FW2);have RZ2:=af RW2;clear eW2 kN FW2 RW2 bY2;simp only[Ab,sg,xO,tW]
 repeat still_step
 refine iQ ?_;go_wp2;exact zw Zf FZ2 RZ2 Sh bg rfl rfl rfl
def ag7{w:World}{SB NB HB UB:List Nat}(h:Hid (PS w0 w b bs bn D SB NB HB UB))(hk:Hid (D.ns[k]?=some nd))(rK:nd.path.length<=1048576)(Oe:Hid (nd.holders.Pairwise (·<·)))(XI:Hid (nd.holders.length<=1048576)){id:Int}(hid:0<=id/\id<18446744073709551616)(hgg:0<=D.g/\D.g<4611686018427387904):Calls prog 321 #[.agg #[.U id,.string (aO nd.path),.I 1],.pointer (some (Ad b 0))] w (tG w0 w b bs bn {D with g:=D.g+1,ns:=D.ns.set k {nd with mode:=1,holders:=xA nd.holders id,aJ:=D.e,gen:=D.g+1}} SB NB HB UB {rV with e:=D.e,g:=D.g+1}):=by
 obtain⟨g,hh,uu,V0,hg,og,mO,gl,-,-,g0,hW⟩:=h.TL hk rK;obtain⟨X,Y,hX,hY,bY,zX,zY,BX,RY⟩:=vu w #[.U id,.string (aO nd.path),.I 1] 272;have HW:=af hW;have BXH:=af BX;have RYH:=af RY;have IX:=af (ah hg (ah og mO));have Sh:=h.be.size;clear hW BX RY hg og mO;have cQ:=keyOf_int_mk underlying31 (oY hid)
 go_in
 go_wp2_with fail;rw[<-hX,<-hY];refine km bg (λW eW=>?_);have ND:=nH eW;obtain⟨k5,kl,kN,kb⟩:=aa HW W (aj bY ND);have FW:=af (Fr.below (T:=T3) ND);have bx:=FW.2 _ _ _ _ aZ BXH;have c1:=aq bx 1;have c2:=aq bx 2;have g2:=aq kb 2;have gf:∀o,W.frozen? (Ad g o)=false:=λo=>by simp[World.frozen?,kb]
 have PW:=af (h.below (aj bY ND));obtain⟨V',hV',bR,-⟩:=kN.cells;rw[kb]at bR;cases bR;have HV:=af hV';have KB:=af kb;clear hX hY eW kb kN bx hV' ND
 repeat still_step
 refine iQ ?_;obtain⟨Z,hZ⟩:=az (W.setCell (Ad g 2) (.I 1));have IF:Z.heap[g]?=some (.cells #[V0,.U nd.owner,.I 1,.map (some hh),.U nd.aJ,.U nd.gen,.map (some uu)] 142):=by rw[hZ];simp[World.setCell,xM,aa KB]
 have bZ:Below g W Z:=by rw[hZ];exact au.setCell (p:=(Ad g 2)) ao _
 have kZ:∀z,z<W.heap.size->z≠g->Z.heap[z]?=W.heap[z]?:=λz _ cg=>by rw[hZ];exact fW _ _ _ _ (show z≠_ from cg)
 have O:=One.ofC PW.be bZ (aa KB) g0 ai kZ;have PZ:=af (PW.ab7 hk IX.1 IX.2.1 IX.2.2 O V0 nd.value nd.owner 1 nd.aJ nd.gen IF (HV.fr O.fr));have FZ:=af (FW.trans O.fr);clear bZ kZ O IF;go_wp2_with fail;rw[<-hZ];clear hZ c1 c2 g2 gf k5 kl KB HV PW FW;refine dW 8 bg (λW1 eW1=>?_);have bZW:=nH eW1;have PW1:=af (PZ.below bZW);have FW1:=af (FZ.trans (Fr.below (T:=T3) bZW));have bx:=FW1.2 _ _ _ _ aZ BXH;have c0:=aq bx 0;have la:=bL hk {nd with mode:=1}
 have kN:=PW1.mZ k _ g hh uu la IX.1 IX.2.1 IX.2.2;obtain⟨V1,-,-,-,-,-,n3,-⟩:=kN.cells;obtain⟨M,n,o,hn,hs,hz⟩:=kN.Wv;have o':=fv o;rw[hz]at o';obtain⟨Y2,dN,ho,yJ⟩:=o'.update iO underlying139 (by have:=aa XI;show nd.holders.length<_;unfold maxLen;omega) (val:=.agg #[]) cQ unitElem_mk;have O2:=One.ofG PW1.be yJ kN.lo.2.1 (ownsMap_at o');have SZ:=SM.put (w:=W1) hs o'.isMap Oe (by have:=aa XI;show nd.holders.length+1<=_;omega) ho;have WN:=PW1.Wv la IX.1 IX.2.1 IX.2.2 O2 SZ;simp only[qK]at WN;replace WN:=af WN;have FY2:=af (FW1.trans O2.fr);have rO:=af (bL hk {nd with mode:=1,holders:=xA nd.holders id});have bx2:=FY2.2 _ _ _ _ aZ BXH;have e2:=aq bx2 2;clear eW1 kN O2 SZ ho yJ o o' hs hz bx bx2 la bZW;simp only[Ab,sg,xO,tW]
 repeat still_step
 refine iQ ?_;obtain⟨q0,q1,q2,q3,q4,q5,qf⟩:=WN.eh;obtain⟨Z3,hZ3⟩:=az (Y2.setCell (Ad b 1) (.U (D.g+1)));have IF:Z3.heap[b]?=some (.cells #[.U D.e,.U (D.g+1),.U D.x,.I D.t,.map (some bs),.map (some bn)] 135):=by rw[hZ3];simp[World.setCell,xM,WN.hd]
 have O3:=One.ofC WN.be (by rw[hZ3];exact au.setCell (p:=(Ad b 1)) ao _:Below b Y2 Z3) WN.hd WN.lo.1 ai (λz _ cg=>by rw[hZ3];exact fW _ _ _ _ (show z≠_ from cg));have P3:=af (WN.Vp O3 D.e (D.g+1) D.x D.t IF);have F3:=af (FY2.trans O3.fr);clear IF O3;go_wp2_with fail;rw[<-hZ3];clear hZ3 dN c0 n3 e2 q0 q1 q2 q3 q4 q5 qf;obtain⟨vA,jH⟩:=az Z3.drew;have bA:=nH jH;have PA:=af (P3.below bA);have FA:=af (F3.trans (Fr.below (T:=T3) bA));obtain⟨q0,q1,-⟩:=PA.eh;have kN:=PA.mZ k _ g hh uu rO IX.1 IX.2.1 IX.2.2;obtain⟨V1,Y7,kb1,-,-,-,-,n4,n5,-,nf⟩:=kN.cells;have hbg:b≠g:=λe=>by have:=PA.hd;rw[e,kb1]at this;simp at this
 have HKB:=af (ah Y7 kb1);clear bA kN Y7 kb1;refine dC (λw'=>w'.cell? (Ad b 0)=some (.U D.e)/\w'.cell? (Ad b 1)=some (.U (D.g+1))) (by rw[<-jH];exact⟨q0,q1⟩) λhS=>?_;rw[<-jH]at hS⊢;clear jH;refine nK 0 1 2 3 4 5 6 7 hS ?_;refine mU 8 9 10 11 hS ?_;refine ry [12] ?_;refine cn (λKK hK=>?_) ?_;rotate_left;exact eG
 rotate_right
 go_simp;obtain⟨Z4,hZ4⟩:=az (vA.setCell (Ad g 4) (.U D.e));have k4:∀z,z≠g->Z4.heap[z]?=vA.heap[z]?:=λz cg=>by rw[hZ4];exact fW _ _ _ _ (show z≠_ from cg)
 have b4:Below g vA Z4:=by rw[hZ4];exact au.setCell (p:=(Ad g 4)) ao _
 have QN:Z4.heap[g]?=some (.cells #[V1,.U nd.owner,.I 1,.map (some hh),.U D.e,.U nd.gen,.map (some uu)] 142):=by rw[hZ4];simp[World.setCell,xM,HKB.2]
 rw[<-hZ4];have p0:=(aF (k4 b hbg) 0).trans q0;have p1:=(aF (k4 b hbg) 1).trans q1;refine gr hK (by exact⟨p0,p1⟩) λhS=>?_;clear hK KK n4 n5 nf hZ4 q0 q1;refine kG 13 14 hS ?_;have m5:=aq QN 5;have mf:∀o,Z4.frozen? (Ad g o)=false:=λo=>by simp[World.frozen?,QN]
 have H4:=af (ah QN (ah k4 b4));clear QN k4 b4;refine ry [15] ?_;refine cn (λKK hK=>?_) ?_;rotate_left;exact eG
 rotate_right
 go_simp;obtain⟨Z5,hZ5⟩:=az (Z4.setCell (Ad g 5) (.U (D.g+1)));have k5:∀z,z≠g->Z5.heap[z]?=Z4.heap[z]?:=λz cg=>by rw[hZ5];exact fW _ _ _ _ (show z≠_ from cg)
 have b5:Below g Z4 Z5:=by rw[hZ5];exact au.setCell (p:=(Ad g 5)) ao _
 have hz5:Z5.heap[g]?=some (.cells #[V1,.U nd.owner,.I 1,.map (some hh),.U D.e,.U (D.g+1),.map (some uu)] 142):=by rw[hZ5];simp[World.setCell,xM,H4.1]
 rw[<-hZ5];have s0:=(aF (k5 b hbg) 0).trans p0;have s1:=(aF (k5 b hbg) 1).trans p1;have O5:=One.ofC PA.be (H4.2.2.trans b5) HKB.2 g0 ai (λz _ cg=>(k5 z cg).trans (H4.2.1 z cg));have P5:=PA.ab7 rO IX.1 IX.2.1 IX.2.2 O5 V1 nd.value nd.owner 1 D.e (D.g+1) hz5 (HKB.1.fr O5.fr);simp only[qK]at P5;have PY3:=af P5;have FY3:=af (FA.trans O5.fr);have rM:=af (bL hk {nd with mode:=1,holders:=xA nd.holders id,aJ:=D.e,gen:=D.g+1});refine gr hK (by exact⟨s0,s1⟩) λhS=>?_;clear hK KK hZ5 k5 b5 hz5 s0 s1 O5 P5 m5 mf p0 p1;refine dw ?_;clear hS;go_wp2_with fail;refine dW 9 bg (λW2 eW2=>?_);have bY2:=nH eW2;have Zf:=af (PY3.below bY2);have FW2:=FY3.trans (Fr.below (T:=T3) bY2);have RW2:=RYH.fr FW2;have kN:=Zf.mZ k _ g hh uu rM IX.1 IX.2.1 IX.2.2;obtain⟨V2,-,-,-,-,-,-,n4,n5,-⟩:=kN.cells;obtain⟨r0,r1,r2,r3,r4,r5,r6,r7,rf⟩:=RW2.cells;have FZ2:=af ((Fr.below (T:=T3) bY).trans FW2);have RZ2:=af RW2;clear eW2 kN FW2 RW2 bY2;simp only[Ab,sg,xO,tW]
 repeat still_step
 refine iQ ?_;go_wp2;exact zw Zf FZ2 RZ2 Sh bg rfl rfl rfl
abbrev bH6(se pa:Bool)(lo hi vs:Int)(sq jo:Bool):Value:=.agg #[.bool se,.bool pa,.I lo,.I hi,.I vs,.bool sq,.bool jo]
def zs(se:Bool)(s:Int):se=true\/(se=false/\s=0)\/(se=false/\(s==0)=false):=by
 cases se;{exact .inr ((zf 0 s).imp (⟨rfl,·⟩) (⟨rfl,·⟩))};{exact .inl rfl}
def zp(pa:Bool)(n:Nat):pa=true\/(pa=false/\n=0)\/(pa=false/\((n:Int)==0)=false):=by
 rcases zs pa n with h|⟨h,h2⟩|h;{exact .inl h};{exact .inr (.inl ⟨h,ae⟩)};{exact .inr (.inr h)}
def ao7{se pa:Bool}{sq jo:Bool}{k:Int}{p q:OA}{n m c d:Nat}{w:World}{B:Bool}(eB:Hid (fmF se pa lo hi vs sq s f n m e g=B)):Calls prog 235 #[bH6 se pa lo hi vs sq jo,zI k s (.S p n c) f (.S q m d) e g] w (Rb (.bool B) w):=by
 rcases zs se s with rfl|⟨rfl,rfl⟩|⟨rfl,dd⟩
 all_goals(first|(have x:=dd;clear x)|rcases zp pa n with rfl|⟨rfl,rfl⟩|⟨rfl,dd⟩)
 all_goals(first|(have x:=dd;clear x)|rcases Aj (lo<=f)with h1|dd)
 all_goals(first|(have x:=dd;clear x)|rcases Aj (f<=hi)with h2|dd)
 all_goals(first|(have x:=dd;clear x)|rcases Aj ((m:Int)<=vs)with h3|dd)
 all_goals(first|(have x:=dd;clear x)|rcases zs sq e with rfl|⟨rfl,rfl⟩|⟨rfl,dd⟩)
 all_goals(first|(have x:=dd;clear x)|rcases zf 0 g with rfl|hg)
 all_goals(cases B<;>first|(exfalso;have h:=aa eB;clear eB;simp_all[fmF]<;>omega)|clear eB)
 all_goals(go_in;go_wp2;go_ret;exact⟨rfl,(au.alloc ao _).alloc ai _⟩)
abbrev xw(w:World)(G o:Nat)(se pa:Bool)(lo hi vs:Int)(sq jo:Bool):Prop:=w.cell? (Ad G o)=some (.bool se)/\w.cell? (Ad G (o+1))=some (.bool pa)/\w.cell? (Ad G (o+2))=some (.I lo)/\w.cell? (Ad G (o+3))=some (.I hi)/\w.cell? (Ad G (o+4))=some (.I vs)/\w.cell? (Ad G (o+5))=some (.bool sq)/\w.cell? (Ad G (o+6))=some (.bool jo)
def xw.below{w w':World}{se pa:Bool}{sq jo:Bool}(h:xw w G o se pa lo hi vs sq jo)(hb:Bw w w'):xw w' G o se pa lo hi vs sq jo:=
 ⟨ag h.1 hb,ag h.2.1 hb,ag h.2.2.1 hb,ag h.2.2.2.1 hb,ag h.2.2.2.2.1 hb,ag h.2.2.2.2.2.1 hb,ag h.2.2.2.2.2.2 hb⟩
def oW(la:1<=k)(rO:k<=13){se pa:Bool}{sq jo:Bool}{p q:OA}{n m c d:Nat}{w:World}(hT:xw w 0 (k*7) se pa lo hi vs sq jo){B:Bool}(eB:Hid (fmF se pa lo hi vs sq s f n m e g=B)):Calls prog 224 #[zI k s (.S p n c) f (.S q m d) e g] w (Rb (.bool B) w):=by
 have h1:=dA 1 k;have h2:(k:Int)<=13:=ae;have h3:(k:Int)<14:=ae;have h4:k<14:=ae;have h5:=dA 0 k
 go_in
 go_wp2_with fail;obtain⟨W,hW⟩:=az (w.alloc (.cells #[.I k,.U s,.S p n c,.I f,.S q m d,.U e,.U g] 73));have bW:=ew hW;have hA:sG W w.heap.size (.I k) (.U s) (.S p n c) (.I f) (.S q m d) (.U e) (.U g):=by rw[hW];simp[sG,go_sem]
 have hTW:=hT.below bW;rw[<-hW];clear hW hT
 go_region_held3 (λw'=>sG w' w.heap.size (.I k) (.U s) (.S p n c) (.I f) (.S q m d) (.U e) (.U g)/\xw w' 0 (k*7) se pa lo hi vs sq jo) (first|exact⟨hA,hTW⟩|exact⟨Rc,hT1⟩)
  (first|(go_at_call 235;refine(ao7 eB).mono ?_;rintro r w1⟨rfl,aA⟩;have bR:Bw W w1:=(by first|exact aA|exact aj (cR W.heap.size W).drew aA);have Rc:=hA.below bR;have hT1:=hTW.below bR))
 have b1:=aj bW bR;clear hA hTW Rc hT1 aA bR bW;go_wp2;go_ret;exact⟨rfl,b1⟩
def Fk{k:Int}{p q:OA}{n m c d:Nat}{w:World}(hk:k<1\/13<k):Calls prog 224 #[zI k s (.S p n c) f (.S q m d) e g] w (Rb (.bool false) w):=by
 have b0:∀o:Obj,Bw w (w.alloc o):=λo=>au.alloc ao _;by_cases h1:k<1;{
 have h1':¬(1:Int)<=k:=ae;have h1d:decide ((1:Int)<=k)=false:=by simp;omega
 go_in
 go_wp2_with fail
 go_region
 all_goals(
  go_wp2;go_ret;exact⟨rfl,by first|exact b0 _|exact(b0 _).drew⟩)}
 {
 have h1':(1:Int)<=k:=ae;have h2':¬k<=13:=ae;have h1d:decide ((1:Int)<=k)=true:=by simp;omega
 have h2d:decide (k<=(13:Int))=false:=by simp;omega
 go_in
 go_wp2_with fail
 go_region
 all_goals(
  go_wp2;go_ret;exact⟨rfl,by first|exact b0 _|exact(b0 _).drew⟩)}
structure sF where
 e:Int
 g:Int
 x:Int
 t:Int
 ss:List aP
 ns:List aC
def im:sF:=⟨0,0,0,0,[],[]⟩
def gD(B:Nat)(w:World)(p:OA)(n c:Nat)(q:OA)(m d:Nat)(ss:List aP)(ns:List aC):Prop:=
 ∃A1 A2,mg w (.S p n c) ss/\oU w (.S q m d) ns/\wS w (.S p n c) ss A1/\xy w (.S q m d) ns A2/\nI B w (A1++A2)
def gD.zero(B:Nat)(w:World):gD B w none 0 0 none 0 0 [] []:=
 ⟨[],[],⟨none,0,rfl,.inl rfl⟩,⟨none,0,rfl,.inl rfl⟩,⟨none,0,[],rfl,rfl,rfl,.inl rfl⟩,⟨none,0,[],rfl,rfl,rfl,.inl rfl⟩,nI.nil _ _⟩
def gD.keep{w w':World}{p q:OA}{n c m d:Nat}(h:gD B w p n c q m d ss ns)(hk:∀b,B<=b->b<w.heap.size->w'.heap[b]?=w.heap[b]?):gD B w' p n c q m d ss ns:=by
 obtain⟨A1,A2,h1,h2,h3,h4,h5⟩:=h;have k:∀a∈A1++A2,w'.heap[a.b]?=w.heap[a.b]?:=λa ha=>hk _ (h5.lo a ha) (h5.uV.lt ha);have k1:∀a∈A1,w'.heap[a.b]?=w.heap[a.b]?:=λa ha=>k a (De _ ha);have k2:∀a∈A2,w'.heap[a.b]?=w.heap[a.b]?:=λa ha=>k a (Gr _ ha);exact⟨A1,A2,h1.dR h3 k1,h2.dR h4 k2,wS.keep h3 k1,xy.keep h4 k2,h5.keep k⟩
def gD.below{w w':World}{p q:OA}{n c m d:Nat}(h:gD B w p n c q m d ss ns)(hb:Bw w w'):gD B w' p n c q m d ss ns:=h.keep λb _ hl=>hb.block b hl
def gD.mono{B':Nat}{w:World}{p q:OA}{n c m d:Nat}(h:gD B w p n c q m d ss ns)(hB:B'<=B):gD B' w p n c q m d ss ns:=by
 obtain⟨A1,A2,h1,h2,h3,h4,h5⟩:=h;exact⟨A1,A2,h1,h2,h3,h4,h5.mono hB⟩
def at0(B:Nat)(r:Ending)(w:World)(D:sF)(code:Int):Prop:=∃p c q d,r=.returned (.tuple #[ft D.e D.g D.x D.t (.S p D.ss.length c) (.S q D.ns.length d),.I code])/\gD B w p D.ss.length c q D.ns.length d D.ss D.ns
def bS(w:World)(A:List Lf)(k:Int):Prop:=∀(i:Nat)(a:Lf),A[i]?=some a->w.cell? (Ad a.b a.o)=some (.int a.k (mkV a.k (k+i)))
def bS.below{w w':World}{k:Int}(h:bS w A k)(hb:Bw w w'):bS w' A k:=λi a ha=>ag (h i a ha) hb
def bS.app{w:World}{k:Int}(h:bS w (A++A2) k):bS w A k/\bS w A2 (k+A.length):=by
 refine⟨λi a ha=>h i a ?_,λi a ha=>?_⟩;{rw[lE (bf.1 ha).1];exact ha};{
 have:=h (A.length+i) a (by rw[nZ ae];simpa using ha);rw[this]
 congr 3
 push_cast
 omega}
def bS.cons{w:World}{a:Lf}{k:Int}(h:bS w (a::A2) k):w.cell? (Ad a.b a.o)=some (.int a.k (mkV a.k k))/\bS w A2 (k+1):=by
 have h1:=(bS.app (A:=[a]) (A2:=A2) (by simpa using h));refine⟨?_,by simpa using h1.2⟩;have:=h1.1 0 a ai;simpa using this
def bS.flat{w:World}{Ls:List (List Lf)}{k:Int}{j:Nat}{l:List Lf}(h:bS w Ls.flatten k)(sA:(Ls.take (j+1)).flatten=(Ls.take j).flatten++l):bS w l (k+(Ls.take j).flatten.length):=by
 have e:Ls.flatten=(Ls.take j).flatten++(l++(Ls.drop (j+1)).flatten):=by rw[<-sU,<-sA,<-Ko,Dg]
 rw[e]at h;exact h.app.2.app.1
def Mk.held{w w':World}{k:Int}(h:Mk w w' A k)(bj:(A.map λa=>(a.b,a.o)).Nodup):bS w' A k:=h.val bj
def Ep.below{w w':World}{xs:List Ev}{l:List Lf}(h:Ep w v xs l)(hb:Bw w w'):Ep w' v xs l:=Ep.mk h (Mk.dY hb 0) (db.nil _)
def Iw.below{w w':World}{x:aP}{l:List Lf}(h:Iw w x b a l)(hb:Bw w w'):Iw w' x b a l:=h.mk (Mk.dY hb 0) (db.nil _)
def wS.below{w w':World}{xs:List aP}{l:List Lf}(h:wS w v xs l)(hb:Bw w w'):wS w' v xs l:=wS.mk h (Mk.dY hb 0) (db.nil _)
def JD.below{w w':World}{x:aC}{l:List Lf}(h:JD w x b a l)(hb:Bw w w'):JD w' x b a l:=h.mk (Mk.dY hb 0) (db.nil _)
def xy.below{w w':World}{xs:List aC}{l:List Lf}(h:xy w v xs l)(hb:Bw w w'):xy w' v xs l:=xy.mk h (Mk.dY hb 0) (db.nil _)
def Au{c n:Nat}{k:Int}{w:World}(h:SK (.S p n c) xs A)(hA:bS w A k)(k0:0<=k)(k1:k+A.length<=100000000):Calls prog 116 #[.S p n c,.I k] w (Rb (.I (k+A.length)) w):=by
 have QU:=h.len (λx b a l hl=>by rw[show l=_ from hl];simp);obtain⟨Ls,en,lL,eA,fT⟩:=h.at;have yN:=af fT;have HA:=af (show bS w Ls.flatten k by rw[<-eA];exact hA);have EA:=af eA;have K1:k+(Ls.flatten.length:Int)<=100000000:=eA▸k1;have hn:n<=100000000:=ae;have LL:=af lL
 go_in
 go_wp2
 go_loopw[1,5](λkk i wr=>∃j:Nat,j<=n/\i=.I j/\kk=.I (k+(((Ls.take j).flatten.length:Nat):Int))/\Bw w wr) (λ_ i _=>n-(intOf i).toNat)
 exact⟨0,fN _,rfl,ai,cR _ _⟩;{
 obtain⟨j,hj,rfl,rfl,aK⟩:=hrel;have hle:=br Ls j;by_cases aT:j<n;{
 have bu:=aS j n;obtain⟨b,o,x,l,rfl,hx,hl,hP,sA,iE⟩:=aa yN j aT;have hh:=(HA.flat sA).below aK;have Ux:(Ls.take (j+1)).flatten.length=(Ls.take j).flatten.length+l.length:=by rw[sA,ir]
 have uY:k+((Ls.take j).flatten.length:Int)+(l.length:Int)<=100000000:=by have:=br Ls (j+1);omega
 have HT:=af Ux;generalize hT:(Ls.take j).flatten.length=T at*;have hT0:0<=k+(T:Int):=ae;obtain rfl:l=[⟨b,o+j,.u8⟩]:=by rw[show l=_ from hP,Dc]
 have wF:wr.cell? (Ad b (o+j))=some (.int .u8 ((k+(T:Int)) % 256)):=hh.cons.1;have cg:(((k+(T:Int)) % 256) != ((k+(T:Int)) % 256))=false:=ai;have cp7:k+(T:Int)+1<=100000000:=by simpa using uY
 go_wp2;go_roundw;exact⟨j+1,ae,by go_num,by rw[aa HT];first|go_num|(simp;omega)|(congr 1;simp;omega),by first|exact aK|exact below_drewN aK⟩;exact bM};{
 have e:j=n:=ae;subst e;have e2:(Ls.take j).flatten=A:=by rw[<-aa LL,ng];exact EA.symm
 rw[e2];go_wp2;go_ret;exact⟨rfl,aK⟩}}
def uZ(p:OA)(c n:Nat)(xs:LI)(A:List Lf)(k:Int)(w:World)(h:YC (.S p n c) xs A)(hA:bS w A k)(k0:0<=k)(k1:k+A.length<=100000000):Calls prog 118 #[.S p n c,.I k] w (Rb (.I (k+A.length)) w):=by
 have QU:=h.len (λx b a l hl=>by rw[show l=_ from hl];simp);obtain⟨Ls,en,lL,eA,fT⟩:=h.at;have yN:=af fT;have HA:=af (show bS w Ls.flatten k by rw[<-eA];exact hA);have EA:=af eA;have K1:k+(Ls.flatten.length:Int)<=100000000:=eA▸k1;have hn:n<=100000000:=ae;have LL:=af lL
 go_in
 go_wp2
 go_loopw[1,5](λkk i wr=>∃j:Nat,j<=n/\i=.I j/\kk=.I (k+(((Ls.take j).flatten.length:Nat):Int))/\Bw w wr) (λ_ i _=>n-(intOf i).toNat)
 exact⟨0,fN _,rfl,ai,cR _ _⟩;{
 obtain⟨j,hj,rfl,rfl,aK⟩:=hrel;have hle:=br Ls j;by_cases aT:j<n;{
 have bu:=aS j n;obtain⟨b,o,x,l,rfl,hx,hl,hP,sA,iE⟩:=aa yN j aT;have hh:=(HA.flat sA).below aK;have Ux:(Ls.take (j+1)).flatten.length=(Ls.take j).flatten.length+l.length:=by rw[sA,ir]
 have uY:k+((Ls.take j).flatten.length:Int)+(l.length:Int)<=100000000:=by have:=br Ls (j+1);omega
 have HT:=af Ux;generalize hT:(Ls.take j).flatten.length=T at*;have hT0:0<=k+(T:Int):=ae;obtain rfl:l=[⟨b,o+j,.u64⟩]:=by rw[show l=_ from hP,Dc]
 have wF:wr.cell? (Ad b (o+j))=some (.U (k+(T:Int))):=hh.cons.1;have cg:((k+(T:Int)) != (k+(T:Int)))=false:=ai;have cp7:k+(T:Int)+1<=100000000:=by simpa using uY
 go_wp2;go_roundw;exact⟨j+1,ae,by go_num,by rw[aa HT];first|go_num|(simp;omega)|(congr 1;simp;omega),by first|exact aK|exact below_drewN aK⟩;exact bM};{
 have e:j=n:=ae;subst e;have e2:(Ls.take j).flatten=A:=by rw[<-aa LL,ng];exact EA.symm
 rw[e2];go_wp2;go_ret;exact⟨rfl,aK⟩}}
def Jt{c n:Nat}{xs:List Ev}{k:Int}{w:World}(h:Ep w (.S p n c) xs A)(hA:bS w A k)(hn:n<=0)(k0:0<=k)(k1:k+A.length<=100000000):Calls prog 117 #[.S p n c,.I k] w (Rb (.I (k+A.length)) w):=by
 have QU:=h.len (λx b a l hl=>hl.pos);obtain⟨Ls,en,lL,eA,fT⟩:=h.at;have yN:=af fT;have HA:=af (show bS w Ls.flatten k by rw[<-eA];exact hA);have EA:=af eA;have K1:k+(Ls.flatten.length:Int)<=100000000:=eA▸k1;have hn:n<=100000000:=ae;have LL:=af lL;clear h fT hA eA en lL QU
 go_in
 go_wp2
 go_loopw[1,5](λkk i wr=>∃j:Nat,j<=n/\i=.I j/\kk=.I (k+(((Ls.take j).flatten.length:Nat):Int))/\Bw w wr) (λ_ i _=>n-(intOf i).toNat)
 exact⟨0,fN _,rfl,ai,cR _ _⟩;{
 obtain⟨j,hj,rfl,rfl,aK⟩:=hrel;have hle:=br Ls j;by_cases aT:j<n;{exact absurd aT ae};{
 have e:j=n:=ae;subst e;have e2:(Ls.take j).flatten=A:=by rw[<-aa LL,ng];exact EA.symm
 rw[e2];clear hle yN HA;go_wp2;go_ret;exact⟨rfl,aK⟩}}
def Eg(p:OA)(c n:Nat)(xs:List aP)(A:List Lf)(k:Int)(w:World)(h:wS w (.S p n c) xs A)(hA:bS w A k)(hq:Hid (∀s∈xs,s.2.2.length<=0))(k0:0<=k)(k1:k+A.length<=100000000):Calls prog 62 #[.S p n c,.I k] w (Rb (.I (k+A.length)) w):=by
 have QU:=h.len (λx b a l hl=>hl.pos);obtain⟨Ls,en,lL,eA,fT⟩:=h.at;have yN:=af fT;have HA:=af (show bS w Ls.flatten k by rw[<-eA];exact hA);have EA:=af eA;have K1:k+(Ls.flatten.length:Int)<=100000000:=eA▸k1;have hn:n<=100000000:=ae;have LL:=af lL;clear h fT hA eA en lL QU
 go_in
 go_wp2
 go_loopw[1,5](λkk i wr=>∃j:Nat,j<=n/\i=.I j/\kk=.I (k+(((Ls.take j).flatten.length:Nat):Int))/\Bw w wr) (λ_ i _=>n-(intOf i).toNat)
 exact⟨0,fN _,rfl,ai,cR _ _⟩;{
 obtain⟨j,hj,rfl,rfl,aK⟩:=hrel;have hle:=br Ls j;by_cases aT:j<n;{
 have bu:=aS j n;obtain⟨b,o,x,l,rfl,hx,hl,hP,sA,iE⟩:=aa yN j aT;have HQ:=af (aa hq x (aY hx));have hh:=(HA.flat sA).below aK;have Ux:(Ls.take (j+1)).flatten.length=(Ls.take j).flatten.length+l.length:=by rw[sA,ir]
 have uY:k+((Ls.take j).flatten.length:Int)+(l.length:Int)<=100000000:=by have:=br Ls (j+1);omega
 have HT:=af Ux;generalize hT:(Ls.take j).flatten.length=T at*;clear hT hx hl sA iE Ux;have hT0:0<=k+(T:Int):=ae;have hP':=hP.below aK;obtain⟨q,d,lb,rfl,hd,hlv⟩:=hP';have HD:=af hd;have NQ:=af hlv;clear hd hlv;have hlen:k+(T:Int)+(2+(lb.length:Int))<=100000000:=by simp only[ir,iT]at uY;omega
 clear uY hP;have wF:wr.cell? (Ad b (o+j*3))=some (.U (k+(T:Int))):=(bS.cons hh).1;have t0:=(bS.cons hh).2;have iW:wr.cell? (Ad b (o+j*3+1))=some (.I (k+(T:Int)+1)):=(bS.cons t0).1;have t1:=(bS.cons t0).2;have s2:bS wr lb (k+(T:Int)+1+1):=t1;have HS:=af (s2);have vW:=af (ah wF (iW));have W0:=af (cR wr.heap.size wr);clear hh t0 t1 s2 wF iW;have wF:=ag vW.1 W0;have co7:((k+(T:Int)) != (k+(T:Int)))=false:=ai;have iW:=ag vW.2 W0;have bz5:((k+(T:Int)+1) != (k+(T:Int)+1))=false:=ai;have hd2:=ag HD W0;go_wp2_with fail;clear wF co7 iW bz5 hd2;have lv0:=NQ.below W0;refine(Jt lv0 (HS.below W0) HQ ae ae).mono ?_;rintro e v0⟨rfl,N0⟩;have BV0:=af (aj W0 N0);have by9:¬k+(T:Int)+1+1+(lb.length:Int)<0:=ae;clear N0;have b1:=aj aK BV0;clear aK;go_wp2;go_roundw;exact⟨j+1,ae,by go_num,by rw[aa HT];first|go_num|(simp;omega)|(congr 1;simp;omega),by first|exact b1|exact below_drewN b1⟩;exact bM};{
 have e:j=n:=ae;subst e;have e2:(Ls.take j).flatten=A:=by rw[<-aa LL,ng];exact EA.symm
 rw[e2];clear hle yN HA;go_wp2;go_ret;exact⟨rfl,aK⟩}}
def rD.news{w:World}{a:Addr}(h:rD w (.S (some a) l.length c) l):(l.map (Value.int .u64)).length=l.length*1/\(∀j u,(l.map (Value.int .u64))[j]?=some u->w.cell? (a.add j)=some u)/\(∀u∈l.map (Value.int .u64),u.oneCell'=true):=by
 refine⟨ai,λj u hu=>?_,λu hu=>by obtain⟨n,-,rfl⟩:=ji.1 hu;rfl⟩;have hj:j<l.length:=by have:=(bf.1 hu).1;simpa using this
 obtain⟨p,c',e,hd⟩:=h;obtain⟨rfl,-,-⟩:=js e;rcases hd with h0|⟨b,o,e1,hc⟩;{rw[h0]at hj;simp at hj};{simp only[kU]at e1;subst e1;rw[CO,hc j hj,<-hu];simp[gK,hj]}
theorem Wl{c n:Nat}(en:Hid (l.length=n)){w:World}(h:rD w (.S p n c) l)(hl:Mg n):Calls prog 193 #[.S p n c] w λe w'=>∃p' c',e=.returned (.S p' n c')/\lr w.heap.size w' (.S p' n c') l/\Bw w w':=by
 have e:=aa en;subst e;obtain⟨i,hi,qc,iU,jU⟩:=gh Tryz.infoU64
 go_in
 have Jo:w.ownsRow w.heap.size 31 1 (.S none 0 0) 0 []:=gC w _ _ 1;cases p with
 |none=>
  have e0:l=[]:=by obtain⟨p,c',e,hd⟩:=h;simp only[qZ]at e;rcases hd with h0|⟨b,o,e1,hc⟩;{exact h0};{rw[e1]at e;simp at e}
  subst e0;have Y6:=fO (P:=prog) 117 i underlying117 hi c Jo;go_wp2_with(at_builtin;refine Lib.wpList_append_run w rfl _ _ 117 117 rfl _ _ rfl rfl _ _ Y6 ?_);go_ret;exact⟨_,_,rfl,lr.nil _ _,cR _ _⟩
 |some ad=>
  obtain⟨n1,n2,n3⟩:=h.news;obtain⟨v',w',hr,h1,h2,h3⟩:=zk (ty:=117) i hi qc iU jU Jo (ZT.nil w) c n1 n2 n3 iF ae ao;go_wp2_with(at_builtin;refine Lib.wpList_append_run w rfl _ _ 117 117 rfl _ _ rfl rfl _ _ hr ?_);have ho:lr w.heap.size w' v' l:=⟨by simpa[jX]using h1,h3⟩;obtain⟨p',c',rfl⟩:=ho.form;have hb:Bw w w':=⟨h2.os,h2.tape,h2.output,h2.size,λk hk=>h2.block k hk (by simp[Value.ownBlock])⟩;clear h1 h2 h3 hr n1 n2 n3 h;go_wp2;go_ret;exact⟨_,_,rfl,ho,hb⟩
def Own.cg5{R:Nat}{w:World}(h:Own B w v l)(hn:∀b,v.ownBlock=some b->b≠R)(x y:Value):Own B ((w.setCell (Ad R 0) x).setCell (Ad R 1) y) v l:=by
 refine⟨h.1,?_⟩;rcases h.2 with h0|⟨g,cap,cur,rfl,hb,hg,rest⟩;{exact .inl h0};{exact .inr ⟨g,cap,cur,rfl,hb,((Kd _ _ _ _ (hn g rfl)).trans (Kd _ _ _ _ (hn g rfl))).trans hg,rest⟩}
def rZ{w wr:World}{K:Nat}{vs:List Value}(e:rl l=rs)(ek:Hid (rs.length=K))(ea:Hid (yT rs=a))(ho:il w.heap.size wr (.S p K c) rs vs)(hb:Bw w wr):WM w (rl l) (.returned (.tuple #[.S p K c,.I (a:Int)])) wr:=by
 have e1:=aa ek;have e2:=aa ea;subst e1 e2;rw[e];exact⟨p,c,vs,rfl,ho,hb⟩
def Sa(l:LI)(rs:List R1)(a f:Nat):Prop:=
 Hx none (yl (l.length+1) l)=rs++Hx (mJ rs) (yl f (l.drop a))/\yT rs=a/\f+rs.length=l.length+1/\rs.length<=a/\(∀r∈rs,r.2.length<=1000/\0<=r.1/\r.1<18446744073709551616)
def Sa.stop{f:Nat}(h:Sa l rs a f)(h0:kK (l.drop a)=none):rl l=rs:=by
 unfold rl;rw[h.1,Ld h0];simp[Hx]
def Sa.bs7{f:Nat}(h:Sa l rs a f)(ha:a<=l.length){r:R1}(h0:kK (l.drop a)=some r)(h1:IE (mJ rs) r.1=false):rl l=rs:=by
 obtain⟨f',rfl⟩:∃f',f=f'+1:=⟨f-1,by have:=h.2.2.1;have:=h.2.2.2.1;omega⟩;unfold rl;rw[h.1,sH h0];simp[Hx,h1]
def Sa.next{f:Nat}(h:Sa l rs a f)(ha:a<=l.length){b:LI}(h0:kK (l.drop a)=some (s,b))(h1:IE (mJ rs) s=true)(hb:b.length<=1000/\0<=s/\s<18446744073709551616):Sa l (rs++[(s,b)]) (a+(14+b.length)) (f-1):=by
 obtain⟨h2,h3,h4,h5,h6⟩:=h;obtain⟨f',rfl⟩:∃f',f=f'+1:=⟨f-1,ae⟩;refine⟨?_,by rw[xC];simp[yT];omega,aU,aU,?_⟩;{rw[h2,sH h0,GY,Am,show a+(14+b.length)=a+(b.length+14) by omega,<-Gn];simp[Hx,h1,Km]};{intro r hr;rcases gM.1 hr with h|h;{exact h6 r h};{simp at h;subst h;exact hb}}
set_option maxRecDepth 100000 in
theorem OV{len cap:Nat}{w:World}(hR:Rd w (.S p len cap) l)(hB:aN l)(el:Hid (l.length=len))(hlen:len<=1048576)(Eh:len<=cap)(EU:cap<=maxLen):Calls prog 35 #[.S p len cap] w (WM w (rl l)):=by
 have HRB:=af (ah hR hB);clear hR hB
 go_in
 go_wp2
 go_loopw[4,5](λov i wr=>∃(a f K:Nat)(rs:List R1)(pv:OA)(cv:Nat)(vs:List Value),a<=len/\i=.I a/\ov=.S pv K cv/\Hid (rs.length=K)/\Hid (Sa l rs a f)/\il w.heap.size wr (.S pv K cv) rs vs/\Bw w wr) (λ_ i _=>len+1-(intOf i).toNat)
 exact⟨0,len+1,0,[],none,0,[],fN _,rfl,rfl,rfl,⟨by rw[<-aa el];rfl,rfl,by rw[<-aa el];rfl,iP _,ai⟩,il.nil _ _,cR _ _⟩;{
 obtain⟨a,f,K,rs,pv,cv,vs,Uw,rfl,rfl,eK,hinv,ho,aK⟩:=hrel;have hKa:K<=1048576:=by have:=hinv.2.2.2.1;have:=aa eK;omega
 obtain⟨A14,e14⟩:∃A:Nat,(a:Int)+14=(A:Int):=⟨a+14,ae⟩;obtain⟨A2,e2⟩:∃A:Nat,(a:Int)+2=(A:Int):=⟨a+2,ae⟩;obtain⟨Zj,e10⟩:∃A:Nat,(a:Int)+10=(A:Int):=⟨a+10,ae⟩;have be7:A14=a+14:=ae;have Uz:A2=a+2:=ae;have be8:Zj=a+10:=ae;have HA:=af (ah be7 (ah Uz be8));by_cases h14:A14<=len;{
 have bH4:=iH A14 len;have Yc:=aa el;obtain⟨b,o,rfl,-,-⟩:=HRB.1.at ae;obtain⟨m,em⟩:=az (l.drop a);have hBm:aN m:=by rw[em];exact HRB.2.drop a
 have hml:m.length=len-a:=by rw[em,sX];omega
 have hRm:∀d,Rd w (.S (some (Ad b (o+a))) (len-a) d) m:=λd=>HRB.1.cut a len Uw ae _ (.inr rfl) d m (by rw[em,ke ae]);obtain⟨N,eN⟩:=az (D8 m);obtain⟨UJ,XP⟩:=Wk hBm;rw[<-eN]at UJ XP;obtain⟨Z,eZ⟩:∃Z:Nat,(A14:Int)+(N:Int)=(Z:Int):=⟨A14+N,ae⟩;obtain⟨E,eE⟩:∃E:Nat,(Zj:Int)+(N:Int)=(E:Int):=⟨Zj+N,ae⟩;have r1:∀(d:Nat)(w':World),Bw w w'->Rd w' (.S (some (Ad b (o+a))) 2 d) (sub m 0 2):=λd w' bR=>((hRm d).below bR).cut 0 2 ae ae _ (.inr rfl) d _ rfl;have s1:(sub m 0 2).length=2:=dI ae;have g1:=iH a A2;have g2:=iH A2 cap;have g3:cap≠a:=ae;have g4:A2-a=2:=ae;have HM:=af (ah em (ah hBm (ah hml (ah hRm (ah eN UJ)))));have HZ:=af (ah eZ eE);have DQ:=af r1;have DP:=af s1;clear em hBm hml hRm eN UJ r1 s1 be7 Uz be8 Yc;unfold maxLen at EU;go_wp2_with fail;refine(tc (sub m 0 2) _ _ 2 DP _ (aa DQ _ _ aK) (HM.2.1.sub 0 2) ae ae iF).mono ?_;rintro e w1⟨rfl,aA⟩;rw[HM.2.2.2.2.2];have b1:=aj aK aA;have ho1:=ho.below aA;clear aK aA ho DQ DP;by_cases MR:len<Z\/1000<N;{
 have tg:=af (hinv.stop (by obtain⟨em,-,hml,-,eN,-⟩:=aa HM;have:=aa HA;rw[<-em];unfold kK;rw[<-eN,bN ae]))
 have Ss:=af hinv.2.1;by_cases hN:1000<N;{have MX:=qi 1000 N;go_wp2;refine dD (v:=.tuple #[.S pv K cv,.I (a:Int)]) (by simp[results,results35,go_sem]) rfl (rZ (aa tg) eK Ss ho1 b1)};{have MX:¬(1000:Int)<(N:Int):=ae;have hZ':=aS len Z;go_wp2;refine dD (v:=.tuple #[.S pv K cv,.I (a:Int)]) (by simp[results,results35,go_sem]) rfl (rZ (aa tg) eK Ss ho1 b1)}};{
 have MX:¬(1000:Int)<(N:Int):=ae;have hZ':=dm len Z;have Jv:N<=1000:=ae;have k1:=iH A2 Zj;have k2:=iH Zj cap;have k3:cap≠A2:=ae;have k4:=iH Zj E;have k5:=iH E cap;have k6:cap≠Zj:=ae;have k7:=iH a Z;have k8:=iH Z cap;have k9:Zj-A2=8:=ae;have k10:E-Zj=N:=ae;have k11:Z-a=14+N:=ae;have r2:∀(d:Nat)(w':World),Bw w w'->Rd w' (.S (some (Ad b (o+A2))) 8 d) (sub m 2 10):=λd w' bR=>by have:=(((HM.2.2.2.1 d).below bR).cut 2 10 ae (by have:=HM.2.2.1;omega) (some (Ad b (o+a+2))) (.inr rfl) d _ rfl);rw[show o+A2=o+a+2 by have:=aa HA;omega];exact this
 have r3:∀(d:Nat)(w':World),Bw w w'->Rd w' (.S (some (Ad b (o+Zj))) N d) (sub m 10 (10+N)):=λd w' bR=>by have:=(((HM.2.2.2.1 d).below bR).cut 10 (10+N) ae (by have:=HM.2.2.1;omega) (some (Ad b (o+a+10))) (.inr rfl) d _ rfl);rw[show 10+N-10=N by omega]at this;rw[show o+Zj=o+a+10 by have:=aa HA;omega];exact this
 have r4:∀(d:Nat)(w':World),Bw w w'->Rd w' (.S (some (Ad b (o+a))) (14+N) d) (sub m 0 (14+N)):=λd w' bR=>
  ((HM.2.2.2.1 d).below bR).cut 0 (14+N) ae (by have:=HM.2.2.1;omega) (some (Ad b (o+a))) (.inr rfl) d _ rfl
 have WQ:=af r2;have A9:=af r3;have HR4:=af r4;have tF:Hid ((sub m 2 10).length=8):=dI (by have:=HM.2.2.1;omega);have HS3:Hid ((sub m 10 (10+N)).length=N):=by show _=_;rw[dI (by have:=HM.2.2.1;omega)];omega
 have HS4:Hid ((sub m 0 (14+N)).length=14+N):=by show _=_;rw[dI (by have:=HM.2.2.1;omega)];omega
 obtain⟨sq0,sq1⟩:=kM (HM.2.1.sub 2 10) (by rw[aa tF];omega);clear r2 r3 r4;have wA2:=fk A2;have cf3:=fk Zj;have cf2:=fk A14;have wE:=fk E;have wZ:=fk Z;have iY:=HM.2.1.sub 2 10;have hl8:(8:Nat)<=8:=iP _;have hl9:8<=cap-A2:=ae;have bA7:cap-A2<=maxLen:=by unfold maxLen;omega
 have bA6:N<=2097152:=ae;have yK:∀(vs:Array Value)(w:World),(callFunc 64 vs).run prog w=.ok (.enter 64 vs) w:=λvs w=>bg;have hcg:∀(vs:Array Value)(w:World),(callFunc 65 vs).run prog w=.ok (.enter 65 vs) w:=λvs w=>bg
 go_upto_region 6 with fail
 go_cut[7](λrp wc=>∃R pb cb,rp=.pointer (some (Ad R 0))/\w1.heap.size<=R/\SR wc R (.U (num (sub m 2 10))) (.S pb N cb)/\Own w1.heap.size wc (.S pb N cb) (sub m 10 (10+N))/\Bw w1 wc)
 case first=>(
 obtain⟨v,mL⟩:=az w1.drew;have BV:Hid (Bw w1 v):=by rw[mL];exact au.drew
 refine dC (λ_=>True) jR λhS=>?_;rw[<-mL];clear mL;refine nK 0 1 2 3 4 5 7 8 hS ?_;refine mU 9 10 11 12 hS ?_;refine kG 13 14 hS ?_
 iterate 3 (
  all_goals(first|refine IW 6 (λKK hK=>?_)|refine IW 15 (λKK hK=>?_)|refine IW 17 (λKK hK=>?_)|refine Sl 6 17 (λKK hK=>?_) (λKK hK=>?_)|refine Sl 15 17 (λKK hK=>?_) (λKK hK=>?_))
  all_goals(first
   |(
    refine Tag.go 6 ?_;refine jv (tc (sub m 2 10) _ _ 8 tF _ (aa WQ _ _ (aj b1 BV)) iY hl8 hl9 bA7) ?_;rintro z9 v'⟨rfl,hb⟩;refine⟨_,rfl,?_⟩)
   |(
    refine Tag.go 15 ?_;refine jv (jS (n:=N) (l:=sub m 10 (10+N)) HS3 (aa A9 _ _ (aj b1 BV)) bA6) ?_;rintro z9 v'⟨p3,c3,rfl,o3,hb⟩;refine⟨_,rfl,?_⟩
    try have RN:=af (λb e=>show b≠R by have:=(Own.lt o3 b e).1;have:=RC.1;omega)
    have RO:=af (ah (Own.mono o3 BV.size) (λb e=>(Own.lt o3 b e).2));have T16:=jR;clear o3)
   |(
    refine Tag.go 17 ?_;go_simp;obtain⟨v',hv,hb,zv,cv',-⟩:=ar v #[.U 0,.S none 0 0] 71;rw[<-hv]
    try have RN:=af (λb e=>show b≠v.heap.size by have:=RO.2 b e;omega)
    have RB:=af BV.size;obtain⟨R,hR⟩:=az v.heap.size;rw[<-hR]at cv'⊢
    try rw[<-hR]at RN
    rw[<-hR]at RB;have RC:=af (ah (by omega:R<v'.heap.size) cv');clear hv zv cv' hR))
  all_goals(
   have zb:=hb.size
   try have RO:=af (ah (Own.below RO.1 hb) (λb e=>gQ (RO.2 b e) zb))
   try have RC:=af (ah (gQ RC.1 zb) (RC.2.below RC.1 hb))
   have BV:=af (aj BV hb);refine gr hK jR λhS=>?_;clear hK KK hb zb
   try(
    clear T16;refine tk 16 hS (h:=?_);simp only[Act.put,xa,xb,xc])
   rename World=>v
   skip))
 all_goals(
  refine dM 18 (λKK hK=>?_);have n0:=RC.2.1 0 _ rfl;have n1:=RC.2.1 1 _ rfl;have nf:=RC.2.2;go_simp;refine gr hK jR λhS=>?_;clear hK KK hS;refine dw ?_;go_wp2_with fail;go_meet;refine⟨R,p3,c3,rfl,aa RB,⟨by simp[go_sem,n0,n1],by simp[go_sem,n0,n1]⟩,?_,(aa BV |>.setCell (by exact aa RB) _).setCell (by exact aa RB) _⟩;exact Own.cg5 RO.1 RN _ _))
 case rest=>(
 obtain⟨R,pb,cb,rfl,rr,hA,oB,DA⟩:=hcut;have bc:=aj b1 DA;have mV:=ho1.below DA;have bH0:=HM.2.1.sub 10 (10+N);have u4:=dL HS4 (aa HR4 (cap-a) _ bc.drew);have hch:∀(vs:Array Value)(w:World),(callFunc 71 vs).run prog w=.ok (.enter 71 vs) w:=λvs w=>bg;clear DA yK hcg WQ A9 tF;go_wp2_with fail;refine dC (λw'=>SR w' R (.U (num (sub m 2 10))) (.S pb N cb)/\(convert 22 9 (.S (some (Ad b (o+a))) (14+N) (cap-a))).run prog w'=.ok (.string (aO (sub m 0 (14+N)))) w') ⟨hA,u4⟩ λhS=>?_;refine nK 0 3 4 5 6 7 8 9 hS ?_;refine tn 10 hS ?_;refine ry [1] ?_;refine cn (λKK hK=>?_) ?_;{
 refine iC aH (f:=71) aH (v1:=zE (num (sub m 2 10)) (.S pb N cb)) aH (λ_=>hch _ _) (Tj (s:=num (sub m 2 10)) (p:=pb) (c:=cb) (n:=N) (l:=sub m 10 (10+N)) HS3 (oB.rd.below (cR wc.heap.size wc).drew) bH0 Jv sq0 sq1) ?_;rintro e w5⟨p5,c5,rfl,o5,bD8⟩;refine⟨_,rfl,?_⟩;have e8:Bw wc w5:=aj (cR wc.heap.size wc).drew bD8;have A5:=hA.below e8;have u5:=dL HS4 (aa HR4 (cap-a) _ (aj bc e8));have e5:=dL (l:=DT (num (sub m 2 10)) (sub m 10 (10+N))) (by rw[CK,aa HS3]) o5.rd;refine hK.out _ _ ?_ (λhS=>?_);{exact⟨A5,u5⟩};clear hK KK
 try simp only[Act.put,aO1,GM,ae1]
 refine dM 2 λKK hK=>?_;go_simp;refine hK.out _ _ ?_ (λhS=>?_);{exact⟨A5,u5⟩};clear hK KK
 try simp only[Act.put,aO1,GM,ae1]
 refine tn 11 hS ?_;refine dw ?_;have b5:=aj bc e8;have MG:=mV.below e8;have oB5:Own w.heap.size w5 (.S pb N cb) (sub m 10 (10+N)):=Own.mono (Own.below oB e8) b1.size;have aG4:∀u'∈vs,IC u' (.S pb N cb):=λu' hu' bb e1 e2=>by have h1:=ho1.lt u' hu' bb e1;have h2:=(Own.lt oB bb e2).1;omega
 have HC:=af (qN (Pl (s:=num (sub m 2 10)) bH0) (HM.2.1.sub 0 (14+N)));have HNB:=af (show¬(m.length<14+N\/1000<N) by have:=HM.2.2.1;have:=aa HA;omega);have AL:=af (show a+(14+N)<=len by have:=aa HA;omega);clear e8 bD8 o5 hA u4 mV bc oB hS u5 e5 k1 k2 k3 k4 k5 k6 k7 k8 k9 k10 k11 g1 g2 g3 g4 wA2 cf3 cf2 wE wZ HR4 HS4 hch hl8 hl9 bA7 bA6 iY ho1 MR hZ' e2 e10 e14 eZ eE bH4 HZ;have Ss:=af hinv.2.1;rw[aa HC];clear HC;by_cases hq:DT (num (sub m 2 10)) (sub m 10 (10+N))=sub m 0 (14+N);{
 have wo:kK (l.drop a)=some (num (sub m 2 10),sub m 10 (10+N)):=by obtain⟨em,-,hml,-,eN,-⟩:=aa HM;have:=aa HA;rw[<-em];unfold kK;rw[<-eN,bG (aa HNB),bN hq]
 have Vi:=af wo;rw[BN hq,Bool.not_true];clear hq wo;by_cases hK0:K=0;{
 subst hK0;have iV:IE (mJ rs) (num (sub m 2 10))=true:=by rw[Jd (aa eK)];rfl
 have vz:=af iV;clear iV;go_wp2_with(at_builtin;refine uv rfl rfl (B:=w.heap.size) (v:=.S pv 0 cv) (rs:=rs) (vs:=vs) (n:=0) eK w5.heap.size rfl rfl (MG.below (au.alloc ao _)) (r:=(num (sub m 2 10),sub m 10 (10+N))) (u:=.S pb N cb) ai ai (Own.below oB5 (au.alloc ao _)) aG4 ae (by have:=b5.size;simp;omega) ?_);intro p9 c9 w9 hR9 AW;have b9:Bw w w9:=(b5.alloc b5.size _).grown AW (by have:=b5.size;simp;omega) (λbb e=>(MG.VB bb e).1);have eN3:=aa HS3;have hnx:=af (hinv.next (by rw[aa el];exact Uw) (aa Vi) (aa vz) ⟨ae,sq0,sq1⟩);have eKn:Hid ((rs++[(num (sub m 2 10),sub m 10 (10+N))]).length=0+1):=by show _=_;rw[ir,aa eK];rfl
 clear AW MG oB5 aG4 b5 A5;go_wp2;go_roundw
 case rel=>(
 refine⟨a+(14+N),f-1,0+1,_,p9,c9,_,AL,by go_num,rfl,eKn,?_,hR9,b9⟩;have:=aa hnx;rw[eN3]at this;exact this)
 case measure=>simp[intOf];omega}
 {
 have hkr:K-1<rs.length:=by rw[aa eK];omega
 obtain⟨⟨t,bt⟩,IG⟩:∃r,rs[K-1]?=some r:=⟨_,bD hkr⟩;have QW:mJ rs=some t:=by unfold mJ;rw[ad6,aa eK,IG];rfl
 obtain⟨t0,t1⟩:=hinv.2.2.2.2 _ (aY IG) |>.2;obtain⟨u,hu⟩:∃u,vs[K-1]?=some u:=⟨_,bD (by rw[MG.len];exact hkr)⟩;rcases id MG.row.2 with⟨_,h0⟩|⟨g,yC,cur,ev,MI,hgg,_,_,_,_⟩;{have:=aa eK;omega};{
 simp only[qZ]at ev;obtain⟨rfl,-,rfl⟩:=ev;have Tz:=MG.row;rw[aa eK]at Tz;have d0:=(Tz.cellAt (2*(K-1)) ae).trans (nQ rs vs (K-1) _ u IG hu).1;rw[Qq]at d0;dsimp only at d0;obtain⟨K1,eK1⟩:=aI (K-1);rw[eK1]at d0;have Uy:(K:Int)-1=(K1:Int):=ae;have XP:=qi 0 K;have XO:=aS K1 K;have hK4:0<K:=ae;have Y8:K1<=1048578:=ae;have hK6:(K1:Int)<=1048578:=ae;have hK7:=fk K1;clear hkr IG hu Tz hgg eK1;by_cases iV:IE (some t) (num (sub m 2 10))=true;{
 have vz:Hid (IE (mJ rs) (num (sub m 2 10))=true):=by show _=_;rw[QW];exact iV
 have e1:t≠18446744073709551615/\num (sub m 2 10)=t+1:=by simpa[IE]using iV
 have f1:(t==18446744073709551615)=false:=by simp[e1.1]
 have f2:IntKind.u64.wrap (t+1)=t+1:=u64_wrap_id _ ae ae;have f3:(num (sub m 2 10) != t+1)=false:=by simp[e1.2]
 clear iV QW e1;go_wp2_with(at_builtin;refine uv rfl rfl (B:=w.heap.size) (v:=.T g K cv) (rs:=rs) (vs:=vs) (n:=K) eK w5.heap.size rfl rfl (MG.below (au.alloc ao _)) (r:=(num (sub m 2 10),sub m 10 (10+N))) (u:=.S pb N cb) ai ai (Own.below oB5 (au.alloc ao _)) aG4 ae (by have:=b5.size;simp;omega) ?_);intro p9 c9 w9 hR9 AW;have b9:Bw w w9:=(b5.alloc b5.size _).grown AW (by have:=b5.size;simp;omega) (λbb e=>(MG.VB bb e).1);have eN3:=aa HS3;have hnx:=af (hinv.next (by rw[aa el];exact Uw) (aa Vi) (aa vz) ⟨ae,sq0,sq1⟩);have eKn:Hid ((rs++[(num (sub m 2 10),sub m 10 (10+N))]).length=K+1):=by show _=_;rw[ir,aa eK];rfl
 clear AW MG oB5 aG4 b5 A5;go_wp2;go_roundw
 case rel=>(
 refine⟨a+(14+N),f-1,K+1,_,p9,c9,_,AL,by go_num,rfl,eKn,?_,hR9,b9⟩;have:=aa hnx;rw[eN3]at this;exact this)
 case measure=>simp[intOf];omega}
 {
 have aZ5:IE (some t) (num (sub m 2 10))=false:=by simpa using iV
 have tg:=af (hinv.bs7 (by rw[aa el];exact Uw) (aa Vi) (by rw[QW];exact aZ5));by_cases ht:t=18446744073709551615;{
 have f1:(t==18446744073709551615)=true:=by simp[ht]
 clear iV aZ5 QW ht;go_wp2;refine dD (v:=.tuple #[.T g K cv,.I (a:Int)]) (by simp[results,results35,go_sem]) rfl (rZ (aa tg) eK Ss MG b5)};{
 have cg:num (sub m 2 10)≠t+1:=by intro e;apply iV;simp[IE,ht,e]
 have f1:(t==18446744073709551615)=false:=by simp[ht]
 have f2:IntKind.u64.wrap (t+1)=t+1:=u64_wrap_id _ ae ae;have f3:(num (sub m 2 10) != t+1)=true:=by simp[cg]
 clear iV aZ5 QW ht cg;go_wp2;refine dD (v:=.tuple #[.T g K cv,.I (a:Int)]) (by simp[results,results35,go_sem]) rfl (rZ (aa tg) eK Ss MG b5)}}}}};{
 have tg:=af (hinv.stop (by obtain⟨em,-,hml,-,eN,-⟩:=aa HM;have:=aa HA;rw[<-em];unfold kK;rw[<-eN,bG (aa HNB),bG hq]))
 rw[tX hq,af3];clear hq;go_wp2;refine dD (v:=.tuple #[.S pv K cv,.I (a:Int)]) (by simp[results,results35,go_sem]) rfl (rZ (aa tg) eK Ss MG b5)}};exact eG)}}
 {have bH4:¬(A14:Int)<=(len:Int):=ae;have tg:=af (hinv.stop (FR (by rw[sX,aa el];omega)));have Ss:=af hinv.2.1;clear be7 Uz be8;go_wp2;refine dD (v:=.tuple #[.S pv K cv,.I (a:Int)]) (by simp[results,results35,go_sem]) rfl (rZ (aa tg) eK Ss ho aK)}}
def gp{w u:World}(h:Below w.heap.size w u){o:Obj}:Below w.heap.size w (u.alloc o):=h.alloc h.size o
def Zm{v:Nat}{w:World}(h64:v<18446744073709551616){M:Nat}(eM:Hid ((vi v).length=M)):Cp 166 #[.int .u64 v] w λe w'=>∃p' c',e=.returned (.slice p' M c')/\Own w.heap.size w' (.slice p' M c') (vi v)/\Below w.heap.size w w':=by
 have e:=aa eM;subst e;exact jd h64
def WI{x:Value}{t:TypeId}(h:b=u.heap.size):(u.alloc (.cells #[x] t)).cell? (Ad b 0)=some x:=by subst h;simp
def WH(h:u.cell? (Ad b o)=some v){ob:Obj}:(u.alloc ob).cell? (Ad b o)=some v:=ag h (au.alloc ao _)
def WG(h:u.cell? (Ad b o)=some v):u.drew.cell? (Ad b o)=some v:=h
def rd1{y:Int}(h:u.cell? (Ad b 0)=some (.int .u8 y)):Rd u (.slice (some (Ad b 0)) 1 1) [y]:=by
 refine⟨_,_,rfl,.inr ⟨b,0,rfl,λi hi=>?_⟩⟩;have e:i=0:=by simpa using hi
 subst e;simpa using h
def aD9{X:World}{l0 l1 l2 l3 l4 lm:LI}(e:Hid (lm=cat [l0,l1,l2,l3,l4]))(en:Hid (lm.length=N))(r0:Rd X v0 l0)(r1:Rd X v1 l1)(r2:Rd X v2 l2)(r3:Rd X v3 l3)(r4:Rd X v4 l4)(hl:N<=4194304)(hG:G=X.heap.size):Cp 88 #[.slice (some (Ad G 0)) 5 5] (X.alloc (.cells #[v0,v1,v2,v3,v4] 22)) λe w'=>∃p' c',e=.returned (.slice p' N c')/\Own X.heap.size w' (.slice p' N c') lm/\Below X.heap.size X w':=by
 subst hG;have ba:Below X.heap.size X (X.alloc (.cells #[v0,v1,v2,v3,v4] 22)):=au.alloc ao _;refine(gv [l0,l1,l2,l3,l4] 5 rfl e en (aa3 ai ai ai ai ai (r0.below ba) (r1.below ba) (r2.below ba) (r3.below ba) (r4.below ba)) hl ae).mono ?_;rintro e w'⟨p',c',rfl,o,hb⟩;exact⟨p',c',rfl,Own.mono o ai,aj ba hb⟩
def cz8{w X x4:World}(dS:Below X.heap.size X x4)(oj:Own X.heap.size x4 v l)(hX:Below w.heap.size w X):Own w.heap.size x4 v l/\Below w.heap.size w x4:=⟨Own.mono oj hX.size,aj hX dS⟩
def DV(k s:Nat)(P:LI)(f:Nat)(V:LI):LI:=[(k:Int)]++(vi s++(tx P++([(f:Int)]++tx V)))
theorem xn(k:Nat)(la:1<=k)(rO:k<=13){se pa:Bool}{sq:Bool}(s f:Nat)(hs:s<18446744073709551616)(hf:f<=2){p q:OA}{n m c d:Nat}(P V:LI)(ep:Hid (P.length=n))(ev:Hid (V.length=m)){w:World}(hp:Rd w (.slice p n c) P)(hv:Rd w (.slice q m d) V)(hn:Mg n)(hm:Mg m)(hT:xw w 0 (k*7) se pa lo hi vs sq true)(eB:Hid (fmF se pa lo hi vs sq s f n m e g=true))(eN:Hid ((DV k s P f V).length=N)):Calls prog 200 #[zI k s (.slice p n c) f (.slice q m d) e g] w λr w'=>∃p' c',r=.returned (.slice p' N c')/\Own w.heap.size w' (.slice p' N c') (DV k s P f V)/\Below w.heap.size w w':=by
 have h1:=dA 1 k;have h2:(k:Int)<=13:=ae;have h3:(k:Int)<14:=ae;have h4:k<14:=ae;have h5:=dA 0 k;have wk:IntKind.u8.wrap (k:Int)=(k:Int):=by rw[Ai];omega
 have wf:IntKind.u8.wrap (f:Int)=(f:Int):=by rw[Ai];omega
 have HP:=af λ(w':World)(hb:Below w.heap.size w w')=>hp.below hb;have HV:=af λ(w':World)(hb:Below w.heap.size w w')=>hv.below hb;clear hp hv
 go_in
 go_wp2_with fail;obtain⟨W,hW⟩:=az (w.alloc (.cells #[.int .i64 k,.int .u64 s,.slice p n c,.int .i64 f,.slice q m d,.int .u64 e,.int .u64 g] 73));have bW:=ew hW;have hA:sG W w.heap.size (.int .i64 k) (.int .u64 s) (.slice p n c) (.int .i64 f) (.slice q m d) (.int .u64 e) (.int .u64 g):=by rw[hW];simp[sG,go_sem]
 have zW:w.heap.size<W.heap.size:=by rw[hW];simp
 have hTW:=hT.below bW;rw[<-hW];clear hW hT;refine(oW la rO hTW eB).mono ?_;rintro r w1⟨rfl,aA⟩;have Rc:=hA.below aA;have hT1:=hTW.below aA;have b1:=aj bW aA;have z1:=aA.size;clear hA hTW bW aA;obtain⟨a0,a1,a2,a3,a4,a5,a6⟩:=Rc;obtain⟨t0,t1,t2,t3,t4,t5,t6⟩:=hT1;obtain⟨M,eM⟩:∃M,Hid ((vi s).length=M):=⟨_,rfl⟩;obtain⟨N1,Zb⟩:∃M,Hid ((tx P).length=M):=⟨_,rfl⟩;obtain⟨N2,eN2⟩:∃M,Hid ((tx V).length=M):=⟨_,rfl⟩;have Rc:sG w1 w.heap.size (.int .i64 k) (.int .u64 s) (.slice p n c) (.int .i64 f) (.slice q m d) (.int .u64 e) (.int .u64 g):=⟨a0,a1,a2,a3,a4,a5,a6⟩;have EE:Hid (DV k s P f V=cat [[(k:Int)],vi s,tx P,[(f:Int)],tx V]):=by show _=_;rw[cE1];rfl
 have hNb:N<=4194304:=by have h1:=fq s;have h2:=uz P;have h3:=uz V;have h4:=aa eN;rw[DV]at h4;simp only[ir,iT,Af]at h4;rw[aa ep]at h2;rw[aa ev]at h3;omega
 go_wp2_with fail;clear a0 a1 a2 a3 a4 a5 a6 t0 t1 t2 t3 t4 t5 t6
 go_region_held3 (λw'=>sG w' w.heap.size (.int .i64 k) (.int .u64 s) (.slice p n c) (.int .i64 f) (.slice q m d) (.int .u64 e) (.int .u64 g)) (exact sG.below Rc (by repeat(first|with_reducible exact cR _ _|with_reducible refine gp ?_|with_reducible refine Gv ?_|with_reducible refine aj ?_ dS|with_reducible refine aj ?_ aL|with_reducible refine aj ?_ aD|with_reducible refine aj ?_ aA)))
  (first
   |(go_at_call 166;with_reducible refine(Zm hs eM).mono ?_;rintro r x1⟨pv,cv,rfl,ov,aA⟩)
   |(go_at_call 218;with_reducible refine(mh (p:=p) (c:=c) ep (by exact aa HP _ (by repeat(first|with_reducible exact b1|with_reducible refine gp ?_|with_reducible refine Gv ?_|with_reducible refine aj ?_ aL|with_reducible refine aj ?_ aD|with_reducible refine aj ?_ aA))) hn Zb).mono ?_;rintro r x2⟨pt,ct,rfl,ot,aD⟩)
   |(go_at_call 218;with_reducible refine(mh (p:=q) (c:=d) ev (by exact aa HV _ (by repeat(first|with_reducible exact b1|with_reducible refine gp ?_|with_reducible refine Gv ?_|with_reducible refine aj ?_ aL|with_reducible refine aj ?_ aD|with_reducible refine aj ?_ aA))) hm eN2).mono ?_;rintro r x3⟨pu,cu,rfl,ou,aL⟩)
   |(go_at_call 88;with_reducible refine(aD9 EE eN (by exact rd1 (by repeat(first|with_reducible exact WI ai|with_reducible refine WH ?_|with_reducible refine WG ?_|with_reducible refine ag ?_ aL|with_reducible refine ag ?_ aD|with_reducible refine ag ?_ aA))) (by exact Rd.below ov.rd (by repeat(first|with_reducible exact cR _ _|with_reducible refine gp ?_|with_reducible refine Gv ?_|with_reducible refine aj ?_ aL|with_reducible refine aj ?_ aD))) (by exact Rd.below ot.rd (by repeat(first|with_reducible exact cR _ _|with_reducible refine gp ?_|with_reducible refine Gv ?_|with_reducible refine aj ?_ aL|with_reducible refine aj ?_ aD))) (by exact rd1 (by repeat(first|with_reducible exact WI ai|with_reducible refine WH ?_|with_reducible refine WG ?_|with_reducible refine ag ?_ aL|with_reducible refine ag ?_ aD|with_reducible refine ag ?_ aA))) (by exact Rd.below ou.rd (by repeat(first|with_reducible exact cR _ _|with_reducible refine gp ?_|with_reducible refine Gv ?_|with_reducible refine aj ?_ aL|with_reducible refine aj ?_ aD))) ae ai).mono ?_;rintro r x4⟨pj,cj,rfl,oj,dS⟩))
 all_goals(
  have tg:=cz8 (w:=w) dS oj (by repeat(first|with_reducible exact b1|with_reducible refine gp ?_|with_reducible refine Gv ?_|with_reducible refine aj ?_ aL|with_reducible refine aj ?_ aD|with_reducible refine aj ?_ aA));clear dS oj aA aD aL ov ot ou;go_wp2;go_ret;exact⟨pj,cj,rfl,tg⟩)
def Hy{n m:Nat}(h1:1<=k)(h2:k<=13)(h:Fa k s f n m e g=true):0<=f/\f<=2:=by
 unfold Fa fmF at h;simp only[fx,jw]at h;obtain⟨-,-,YU,hhi,-⟩:=h;rcases kinds h1 h2 with rfl|rfl|rfl|rfl|rfl|rfl|rfl|rfl|rfl|rfl|rfl|rfl|rfl<;>simp[rowOf]at YU hhi<;>omega
def sG.U7{w w':World}(h:sG w b v0 v1 v2 v3 v4 v5 v6)(hb:Below B w w')(hl:b<B):sG w' b v0 v1 v2 v3 v4 v5 v6:=by
 have e:=λo=>hb.cell (p:=(Ad b o)) hl;exact⟨(e 0).trans h.1,(e 1).trans h.2.1,(e 2).trans h.2.2.1,(e 3).trans h.2.2.2.1,(e 4).trans h.2.2.2.2.1,(e 5).trans h.2.2.2.2.2.1,(e 6).trans h.2.2.2.2.2.2⟩
def ah4{f:Nat}(wk:IntKind.u8.wrap K=(k:Int))(wf:IntKind.u8.wrap F=(f:Int)){s:Nat}(hs:s<18446744073709551616){p q:OA}{n m c d:Nat}(ep:Hid (P.length=n))(ev:Hid (V.length=m)){w:World}(hp:Rd w (.S p n c) P)(hv:Rd w (.S q m d) V)(hn:Mg n)(hm:Mg m)(eN:Hid ((DV k s P f V).length=N)):Calls prog 74 #[zI K s (.S p n c) F (.S q m d) e g] w λr w'=>∃p' c',r=.returned (.S p' N c')/\Own w.heap.size w' (.S p' N c') (DV k s P f V)/\Bw w w':=by
 have HP:=af λ(w':World)(hb:Bw w w')=>hp.below hb;have HV:=af λ(w':World)(hb:Bw w w')=>hv.below hb;clear hp hv;obtain⟨M,eM⟩:∃M,Hid ((vi s).length=M):=⟨_,rfl⟩;obtain⟨N1,Zb⟩:∃M,Hid ((tx P).length=M):=⟨_,rfl⟩;obtain⟨N2,eN2⟩:∃M,Hid ((tx V).length=M):=⟨_,rfl⟩;have hM:M<=10:=by have:=fq s;rw[aa eM]at this;omega
 have IK:N1<=1048586:=by have:=uz P;rw[aa Zb,aa ep]at this;omega
 have DB:N2<=1048586:=by have:=uz V;rw[aa eN2,aa ev]at this;omega
 obtain⟨A1,Rc⟩:∃l,Hid (l=[(k:Int)]++vi s):=⟨_,rfl⟩;obtain⟨A2,Uz⟩:∃l,Hid (l=A1++tx P):=⟨_,rfl⟩;obtain⟨A3,hA3⟩:∃l,Hid (l=A2++[(f:Int)]):=⟨_,rfl⟩;have hA4:Hid (DV k s P f V=A3++tx V):=by show _=_;rw[aa hA3,aa Uz,aa Rc,DV];simp
 have lA1:Hid (A1.length=1+M):=by show _=_;rw[aa Rc,ir,aa eM];rfl
 have lA2:Hid (A2.length=1+M+N1):=by show _=_;rw[aa Uz,ir,aa lA1,aa Zb]
 have lA3:Hid (A3.length=1+M+N1+1):=by show _=_;rw[aa hA3,ir,aa lA2];rfl
 go_in
 go_wp2_with fail;obtain⟨W0,dP⟩:=az (w.alloc (.cells #[.I K,.U s,.S p n c,.I F,.S q m d,.U e,.U g] 73));have bW0:=ew dP;have hO0:sG W0 w.heap.size (.I K) (.U s) (.S p n c) (.I F) (.S q m d) (.U e) (.U g):=by rw[dP];simp[sG,go_sem]
 have zW0:W0.heap.size=w.heap.size+1:=by rw[dP];simp
 rw[<-dP];clear dP;have oo:Own W0.heap.size (W0.alloc (.cells #[.int .u8 (k:Int)] 5)) (.T W0.heap.size 1 1) [(k:Int)]:=Own.one W0 k;rw[zW0]at oo;obtain⟨W,hW⟩:∃W,W=W0.alloc (.cells #[.int .u8 (k:Int)] 5):=⟨_,rfl⟩;have bW:Bw w W:=hW▸bW0.alloc bW0.size _;have hO:sG W w.heap.size (.I K) (.U s) (.S p n c) (.I F) (.S q m d) (.U e) (.U g):=hO0.below (hW▸au.alloc ao _);have zW:w.heap.size+1<W.heap.size:=by rw[hW];simp;omega
 rw[<-hW]at oo⊢;clear hW bW0 hO0 zW0;refine(Cg 9 s _ ae hs ae M eM).mono ?_;rintro r x1⟨pv,cv,rfl,ov,aA⟩;have oo1:=Own.below oo aA;have hO1:=hO.below aA;have b1:=aj bW aA;have r1:Rd x1 (.S pv M cv) (vi s):=ov.rd;have z1:=aA.size;clear oo hO bW ov aA;obtain⟨a0,a1,a2,a3,a4,a5,a6⟩:=id hO1;go_wp2_with(at_builtin;refine bQ rfl rfl (B:=w.heap.size+1) (.T (w.heap.size+1) 1 1) (l:=[(k:Int)]) (m:=vi s) (lm:=A1) Rc pv cv M eM rfl rfl oo1 r1 (by rw[aa eM];simp;omega) ae ?_);intro p2 c2 x2 o2 gi;have b2:=dz b1 gi oo1 ae ae;have hO2:=hO1.U7 ((cR (w.heap.size+1) x1).grown gi ae (λk e=>(oo1.lt k e).1)) ae;have z2:=gi.size;rw[aa lA1]at o2⊢;clear oo1 hO1 b1 r1 gi a0 a1 a2 a3 a4 a5 a6;obtain⟨a0,a1,a2,a3,a4,a5,a6⟩:=id hO2;go_wp2_with fail;refine(ta (p:=p) (c:=c) (n:=n) (l:=P) ep (aa HP _ b2) hn (N:=N1) Zb).mono ?_;rintro r x3⟨pt,ct,rfl,ot,aL⟩;have o3:=Own.below o2 aL;have hO3:=hO2.below aL;have b3:=aj b2 aL;have r3:=ot.rd;have z3:=aL.size;clear o2 hO2 b2 ot aL a0 a1 a2 a3 a4 a5 a6;obtain⟨a0,a1,a2,a3,a4,a5,a6⟩:=id hO3;go_wp2_with(at_builtin;refine bQ rfl rfl (B:=w.heap.size+1) (.S p2 (1+M) c2) (l:=A1) (m:=tx P) (lm:=A2) Uz pt ct N1 Zb rfl rfl o3 r3 (by rw[aa lA1,aa Zb];omega) ae ?_);intro p4 c4 x4 o4 tL;have b4:=dz b3 tL o3 ae ae;have hO4:=hO3.U7 ((cR (w.heap.size+1) x3).grown tL ae (λk e=>(o3.lt k e).1)) ae;have z4:=tL.size;rw[aa lA2]at o4⊢;clear o3 hO3 b3 r3 tL a0 a1 a2 a3 a4 a5 a6;obtain⟨a0,a1,a2,a3,a4,a5,a6⟩:=id hO4;go_wp2_with(at_builtin;refine fo rfl rfl (B:=w.heap.size+1) (.S p4 (1+M+N1) c4) (l:=A2) (lm:=A3) (y:=(f:Int)) hA3 x4.heap.size rfl rfl (Own.below o4 (au.alloc ao _)) ai (by rw[aa lA2];omega) aU ?_);intro p5 c5 x5 o5 uo;have o4A:=Own.below o4 (w':=x4.alloc (.cells #[.int .u8 (f:Int)] 5)) (au.alloc ao _);have b5:=dz (b4.alloc b4.size _) uo o4A ae aU;have hO5:=(hO4.below (au.alloc ao _)).U7 ((cR (w.heap.size+1) _).grown uo aU (λk e=>(o4A.lt k e).1)) ae;have z5:x4.heap.size+1<=x5.heap.size:=by have:=uo.size;simpa using this
 rw[aa lA3]at o5⊢;clear o4 o4A hO4 b4 uo a0 a1 a2 a3 a4 a5 a6;obtain⟨a0,a1,a2,a3,a4,a5,a6⟩:=id hO5;go_wp2_with fail;refine(ta (p:=q) (c:=d) (n:=m) (l:=V) ev (aa HV _ b5) hm (N:=N2) eN2).mono ?_;rintro r x6⟨pu,cu,rfl,ou,ky⟩;have o6:=Own.below o5 ky;have b6:=aj b5 ky;have r6:=ou.rd;have z6:=ky.size;clear o5 hO5 b5 ou ky a0 a1 a2 a3 a4 a5 a6;go_wp2_with(at_builtin;refine bQ rfl rfl (B:=w.heap.size+1) (.S p5 (1+M+N1+1) c5) (l:=A3) (m:=tx V) (lm:=DV k s P f V) hA4 pu cu N2 eN2 rfl rfl o6 r6 (by rw[aa lA3,aa eN2];omega) ae ?_);intro p7 c7 x7 o7 hg7;have b7:=dz b6 hg7 o6 ae ae;rw[aa eN]at o7⊢;have o8:=Own.mono (B':=w.heap.size) o7 ae;clear o6 b6 r6 hg7 o7;go_wp2;go_ret;exact⟨p7,c7,rfl,o8,b7⟩
def Wm(rO:k<=13){s f:Nat}(hs:s<18446744073709551616)(hf:f<=2){p q:OA}{n m c d:Nat}(ep:Hid (P.length=n))(ev:Hid (V.length=m)){w:World}(hp:Rd w (.S p n c) P)(hv:Rd w (.S q m d) V)(hn:Mg n)(hm:Mg m)(eN:Hid ((DV k s P f V).length=N)):Cp 74 #[zI k s (.S p n c) f (.S q m d) e g] w λr w'=>∃p' c',r=.returned (.S p' N c')/\Own w.heap.size w' (.S p' N c') (DV k s P f V)/\Bw w w':=
 ah4 (K:=k) (F:=f) (by rw[Ai];omega) (by rw[Ai];omega) hs (e:=e) (g:=g) ep ev hp hv hn hm eN
def Z7{s f:Nat}(hs:s<18446744073709551616)(hP:P.length<18446744073709551616)(hV:V.length<18446744073709551616):oB (some (DV k s P f V))=((k:Int),some (vi s++(tx P++([(f:Int)]++tx V))))/\oV (some (vi s++(tx P++([(f:Int)]++tx V))))=((s:Int),some (tx P++([(f:Int)]++tx V)))/\oT (some (tx P++([(f:Int)]++tx V)))=(P,some ([(f:Int)]++tx V))/\oB (some ([(f:Int)]++tx V))=((f:Int),some (tx V))/\oT (some (tx V))=(V,some []):=by
 refine⟨rfl,?_,?_,rfl,?_⟩;{rw[oV,VA _ hs]};{rw[oT,ZP _ hP]};{have:=ZP [] hV;rw[D5]at this;rw[oT,this]}
def JG(l:LI)(k s:Nat)(P:LI)(f:Nat)(V:LI):Prop:=1<=k/\k<=13/\s<18446744073709551616/\f<=2/\Fa k s f P.length V.length 0 0=true/\joR k=true/\l=DV k s P f V
theorem Tl{c n:Nat}(en:Hid (l.length=n)){w:World}(h:Rd w (.S p n c) l)(hb:aN l)(hl:Mg n)(xq:n<=c){k:Int}{o1 o2 o3 o4 o5:Option LI}(e1:Hid (oB (some l)=(k,o1)))(e2:Hid (oV o1=(s,o2)))(e3:Hid (oT o2=(P,o3)))(e4:Hid (oB o3=(f,o4)))(e5:Hid (oT o4=(V,o5))){NP NV:Nat}(eP:Hid (P.length=NP))(eV:Hid (V.length=NV))(l9:Hid (∀K S F:Nat,k=K->s=S->f=F->¬JG l K S P F V)):Calls prog 36 #[.S p n c] w (Rb (.tuple #[zI 0 0 (.S none 0 0) 0 (.S none 0 0) 0 0,.I 13]) w):=by
 have HB:=af hb;have S0:Hid (ki n l (some l)):=ki.start en;have S1:Hid (ki n l o1):=by have:=BK (aa en) (aa S0);rw[aa e1]at this;exact this
 have S2:Hid (ki n l o2):=by have:=ig (aa en) (aa S1);rw[aa e2]at this;exact this
 have S3:Hid (ki n l o3):=by have:=Gh (aa en) (aa S2);rw[aa e3]at this;exact this
 have S4:Hid (ki n l o4):=by have:=BK (aa en) (aa S3);rw[aa e4]at this;exact this
 have hNP:NP<=1048576:=by have:=(qV hb (aa S2)).2;rw[aa e3]at this;rw[<-aa eP];exact dQ this hl
 have hNV:NV<=1048576:=by have:=(qV hb (aa S4)).2;rw[aa e5]at this;rw[<-aa eV];exact dQ this hl
 have a0:nG n (some l)=0:=by simp[nG,aa en]
 obtain⟨A1,eA1⟩:=aI (nG n o1);obtain⟨A2,eA2⟩:=aI (nG n o2);obtain⟨A3,eA3⟩:=aI (nG n o3);obtain⟨A4,eA4⟩:=aI (nG n o4);obtain⟨A5,eA5⟩:=aI (nG n o5);have c1:=λw'(bR:Bw w w')=>pI en (h.below bR) hb hl S0 e1;rw[a0,eA1]at c1;have c2:=λw'(bR:Bw w w')=>BJ en (h.below bR) hb hl S1 e2;rw[eA1,eA2]at c2;have c3:=λw'(bR:Bw w w')=>pG en (h.below bR) hb hl xq S2 e3 eP;rw[eA2,eA3]at c3;have c4:=λw'(bR:Bw w w')=>pI en (h.below bR) hb hl S3 e4;rw[eA3,eA4]at c4;have c5:=λw'(bR:Bw w w')=>pG en (h.below bR) hb hl xq S4 e5 eV;rw[eA4,eA5]at c5;have C1:=af c1;have C2:=af c2;have C3:=af c3;have C4:=af c4;have C5:=af c5;have HH:=af h
 go_in
 go_wp2_with fail;obtain⟨W,hW⟩:=az (w.alloc (.cells #[.I 0,.U 0,.S none 0 0,.I 0,.S none 0 0,.U 0,.U 0] 73));have bW:=ew hW;have hR:sG W w.heap.size (.I 0) (.U 0) (.S none 0 0) (.I 0) (.S none 0 0) (.U 0) (.U 0):=by rw[hW];simp[sG,go_sem]
 have fR:∀o,W.frozen? (Ad w.heap.size o)=false:=λo=>by rw[hW];simp[go_sem]
 have zW:w.heap.size<W.heap.size:=by rw[hW];simp
 rw[<-hW];clear hW;refine(aa C1 _ bW).mono ?_;rintro r w'⟨rfl,rfl⟩;go_wp2_with fail;refine(aa C2 _ bW).mono ?_;rintro r w'⟨rfl,rfl⟩;go_wp2_with fail;refine(aa C3 _ bW).mono ?_;rintro r w1⟨p1,c1,rfl,x1,aA⟩;have b1:=aj bW aA;have rr:=hR.below aA;have fR1:=cI fR zW aA;have z1:=aA.size;go_wp2_with fail;refine(aa C4 _ b1).mono ?_;rintro r w2⟨rfl,rfl⟩;go_wp2_with fail;refine(aa C5 _ b1).mono ?_;rintro r w3⟨p3,c3,rfl,x3,aL⟩;have b3:=aj b1 aL;have x1':=Own.below x1 aL;have tM:=rr.below aL;have fR3:=cI fR1 ae aL;have z3:=aL.size;have bF3:Hid (aN P/\aN V/\0<=s/\s<18446744073709551616):=by have h1:=(qV HB S2).1;have h2:=(qV HB S4).1;have h3:=Gg (om:=o1);rw[aa e3]at h1;rw[aa e5]at h2;rw[aa e2]at h3;exact⟨h1,h2,h3.1,h3.2⟩
 obtain⟨X,hX⟩:=az (w3.alloc (.cells #[.I k,.U s,.S p1 NP c1,.I f,.S p3 NV c3,.U 0,.U 0] 73));have Eo:=ew hX;have bX:Bw w X:=aj b3 Eo;have hRX:=tM.below Eo;have fRX:=cI fR3 ae Eo;have hOX:sG X w3.heap.size (.I k) (.U s) (.S p1 NP c1) (.I f) (.S p3 NV c3) (.U 0) (.U 0):=by rw[hX];simp[sG,go_sem]
 have zX:w3.heap.size<X.heap.size:=by rw[hX];simp
 have xP:=Own.below x1' Eo;have xV:=Own.below x3 Eo;have bo:∀ob:Obj,Bw w3 (w3.alloc ob):=λob=>au.alloc ao _;have q0:=λob=>ag tM.1 (bo ob);have q1:=λob=>ag tM.2.1 (bo ob);have q2:=λob=>ag tM.2.2.1 (bo ob);have q3:=λob=>ag tM.2.2.2.1 (bo ob);have q4:=λob=>ag tM.2.2.2.2.1 (bo ob);have q5:=λob=>ag tM.2.2.2.2.2.1 (bo ob);have q6:=λob=>ag tM.2.2.2.2.2.2 (bo ob);have qf:=λ(ob:Obj)=>cI fR3 ae (bo ob);obtain⟨r0,r1,r2,r3,r4,r5,r6⟩:=id hRX;obtain⟨j0,j1,j2,j3,j4,j5,j6⟩:=id hOX;by_cases hA5:A5<0;{
 go_wp2;refine dD (v:=.tuple #[zI 0 0 (.S none 0 0) 0 (.S none 0 0) 0 0,.I 13]) (by simp[results,results36,go_sem,q0,q1,q2,q3,q4,q5,q6]) rfl ⟨rfl,?_⟩
 repeat(refine gF ?_ ai _)
 exact gp b3};{
 have cx8:¬A5<0:=hA5;go_wp2_with fail;rw[<-hX];obtain⟨hPB,hVB,s0,s1⟩:=aa bF3;by_cases hk:1<=k/\k<=13;{
 obtain⟨K,rfl⟩:∃K:Nat,k=(K:Int):=⟨k.toNat,ae⟩;obtain⟨S,rfl⟩:∃S:Nat,s=(S:Int):=⟨s.toNat,ae⟩;have h1:1<=K:=ae;have h2:K<=13:=ae;obtain⟨B,eB⟩:=aI (Fa K S f NP NV 0 0);have DP:Hid (S<18446744073709551616):=by show _<_;omega
 have HPV:=af (ah hPB hVB);refine(Hw h1 h2 eB).mono ?_;rintro r x1⟨rfl,tj⟩;have U0:=aj bX tj;have rr:=hRX.below tj;have hO1:=hOX.below tj;have f1:=cI fRX ae tj;have zx1:=tj.size;have xP1:=Own.below xP tj;have xV1:=Own.below xV tj;obtain⟨r0,r1,r2,r3,r4,r5,r6⟩:=id rr;obtain⟨j0,j1,j2,j3,j4,j5,j6⟩:=id hO1;cases B with
 |false=>
  go_wp2;refine dD (v:=.tuple #[zI 0 0 (.S none 0 0) 0 (.S none 0 0) 0 0,.I 13]) (by simp[results,results36,go_sem,r0,r1,r2,r3,r4,r5,r6]) rfl ⟨rfl,?_⟩
  repeat(refine gF ?_ ai _)
  exact U0
 | true=>
  go_wp2_with fail;refine(Dm h1 h2).mono ?_;rintro r x2⟨rfl,rfl⟩;obtain⟨J,eJ⟩:=aI (joR K);rw[eJ];cases J with
  |false=>
   go_wp2;refine dD (v:=.tuple #[zI 0 0 (.S none 0 0) 0 (.S none 0 0) 0 0,.I 13]) (by simp[results,results36,go_sem,r0,r1,r2,r3,r4,r5,r6]) rfl ⟨rfl,?_⟩
   repeat(refine gF ?_ ai _)
   exact U0
  |true=>
   obtain⟨f0,f2⟩:=Hy h1 h2 eB;obtain⟨F,rfl⟩:∃F:Nat,f=(F:Int):=⟨f.toNat,ae⟩;have hF:F<=2:=ae;have hd:decide (DV K S P F V=l)=false:=by simp only[xL];intro e;exact aa l9 K S F rfl rfl rfl ⟨h1,h2,aa DP,hF,by rw[aa eP,aa eV];exact eB,eJ,e.symm⟩
   have HD:=af hd;obtain⟨M,eM⟩:∃M,Hid ((DV K S P F V).length=M):=⟨_,rfl⟩;go_wp2_with fail;refine(Wm h2 DP hF eP eV xP1.rd xV1.rd hNP hNV eM).mono ?_;rintro r x3⟨p5,c5,rfl,o5',e8⟩;have bx3:=aj U0 e8;have tM:=rr.below e8;have f3:=cI f1 ae e8;have zx3:=e8.size;obtain⟨r0,r1,r2,r3,r4,r5,r6⟩:=id tM;go_wp2_with fail;refine(lZ eM en o5'.rd (HH.below bx3) (by refine aN.app (λz hz=>by simp at hz;subst hz;omega) (aN.app (kF (aa DP)) (aN.app ?_ (aN.app (λz hz=>by simp at hz;subst hz;omega) ?_)));{exact aN.app (kF (by rw[aa eP];omega)) HPV.1};{exact aN.app (kF (by rw[aa eV];omega)) HPV.2}) (aa HB)).mono ?_
   rintro r x4⟨rfl,ky⟩;rw[aa HD];have bx4:=aj bx3 ky;have hR4:=tM.below ky;have f4:=cI f3 ae ky;obtain⟨r0,r1,r2,r3,r4,r5,r6⟩:=id hR4;go_wp2;refine dD (v:=.tuple #[zI 0 0 (.S none 0 0) 0 (.S none 0 0) 0 0,.I 13]) (by simp[results,results36,go_sem,r0,r1,r2,r3,r4,r5,r6]) rfl ⟨rfl,?_⟩
   repeat(refine gF ?_ ai _)
   exact bx4};{
 refine(Hu ae).mono ?_;rintro r x1⟨rfl,tj⟩;have U0:=aj bX tj;have rr:=hRX.below tj;have f1:=cI fRX ae tj;obtain⟨r0,r1,r2,r3,r4,r5,r6⟩:=id rr;go_wp2;refine dD (v:=.tuple #[zI 0 0 (.S none 0 0) 0 (.S none 0 0) 0 0,.I 13]) (by simp[results,results36,go_sem,r0,r1,r2,r3,r4,r5,r6]) rfl ⟨rfl,?_⟩
 repeat(refine gF ?_ ai _)
 exact U0}}
theorem MB(la:1<=k)(rO:k<=13){se pa:Bool}{sq jo:Bool}{p q:OA}{n m c d:Nat}{w:World}(hT:xw w 0 (k*7) se pa lo hi vs sq jo){B:Bool}(eB:Hid (fmF se pa lo hi vs sq s f n m e g=B))(eJ:(B&&jo)=false):Calls prog 200 #[zI k s (.S p n c) f (.S q m d) e g] w (Rb (.S none 0 0) w):=by
 have h1:=dA 1 k;have h2:(k:Int)<=13:=ae;have h3:(k:Int)<14:=ae;have h4:k<14:=ae;have h5:=dA 0 k
 go_in
 go_wp2_with fail;obtain⟨W,hW⟩:=az (w.alloc (.cells #[.I k,.U s,.S p n c,.I f,.S q m d,.U e,.U g] 73));have bW:=ew hW;have hA:sG W w.heap.size (.I k) (.U s) (.S p n c) (.I f) (.S q m d) (.U e) (.U g):=by rw[hW];simp[sG,go_sem]
 have hTW:=hT.below bW;rw[<-hW];clear hW hT;refine(oW la rO hTW eB).mono ?_;rintro r w1⟨rfl,aA⟩;have Rc:=hA.below aA;have hT1:=hTW.below aA;have b1:=aj bW aA;clear hA hTW bW aA;obtain⟨a0,a1,a2,a3,a4,a5,a6⟩:=Rc;obtain⟨t0,t1,t2,t3,t4,t5,t6⟩:=hT1;cases B with
 |false=>
  go_wp2;go_ret;exact⟨rfl,b1⟩
 |true=>
  rw[pM]at eJ;subst eJ;go_wp2;go_ret;exact⟨rfl,b1⟩
def Jk{k:Int}{p q:OA}{n m c d:Nat}{w:World}(hk:k<1\/13<k):Calls prog 200 #[zI k s (.S p n c) f (.S q m d) e g] w (Rb (.S none 0 0) w):=by
 go_in
 go_wp2_with fail;obtain⟨W,hW⟩:=az (w.alloc (.cells #[.I k,.U s,.S p n c,.I f,.S q m d,.U e,.U g] 73));have bW:=ew hW;rw[<-hW];clear hW;refine(Fk hk).mono ?_;rintro r x1⟨rfl,aA⟩;have b1:=aj bW aA;clear bW aA;go_wp2;go_ret;exact⟨rfl,b1⟩
abbrev NS(F:Nat)(w:World)(k s f e g:Int)(n m N:Nat)(P V R:LI):Prop:=
 ∀(q1 q2:OA)(d1 d2:Nat)(w':World),Bw w w'->Rd w' (.S q1 n d1) P->Rd w' (.S q2 m d2) V->Calls prog F #[zI k s (.S q1 n d1) f (.S q2 m d2) e g] w' λr w''=>∃p' c',r=.returned (.S p' N c')/\Own w'.heap.size w'' (.S p' N c') R/\Bw w' w''
def ap9{F:Nat}{w:World}{k:Int}{n m:Nat}(h:∀(q1 q2:OA)(d1 d2:Nat)(w':World),Bw w w'->Calls prog F #[zI k s (.S q1 n d1) f (.S q2 m d2) e g] w' λr w''=>r=.returned (.S none 0 0)/\Bw w' w''):NS F w k s f e g n m 0 P V []:=
 λq1 q2 d1 d2 w' hb _ _=>(h q1 q2 d1 d2 w' hb).mono (by rintro r w''⟨rfl,h2⟩;exact⟨none,0,rfl,gC _ _ _ _,h2⟩)
def OW{c n:Nat}(en:Hid (l.length=n)){w:World}(h:Rd w (.S p n c) l)(hb:aN l)(hl:Mg n)(xq:n<=c){k:Int}{o1 o2 o3 o4 o5:Option LI}(e1:Hid (oB (some l)=(k,o1)))(e2:Hid (oV o1=(s,o2)))(e3:Hid (oT o2=(P,o3)))(e4:Hid (oB o3=(f,o4)))(e5:Hid (oT o4=(V,o5))){NP NV:Nat}(eP:Hid (P.length=NP))(eV:Hid (V.length=NV)){K S F:Nat}(hk:k=K)(hs:s=S)(hf:f=F)(ho:o5=some [])(cr8:JG l K S P F V):Calls prog 36 #[.S p n c] w λr w'=>∃p' c' q' d' B,r=.returned (.tuple #[zI K S (.S p' NP c') F (.S q' NV d') 0 0,.I 0])/\w.heap.size<=B/\Own w.heap.size w' (.S p' NP c') P/\Btw w.heap.size B (.S p' NP c')/\Own B w' (.S q' NV d') V/\Bw w w':=by
 obtain⟨h1,h2,hS,hF,hfm,hj,hdl⟩:=cr8;have HB:=af hb;have S0:Hid (ki n l (some l)):=ki.start en;have S1:Hid (ki n l o1):=by have:=BK (aa en) (aa S0);rw[aa e1]at this;exact this
 have S2:Hid (ki n l o2):=by have:=ig (aa en) (aa S1);rw[aa e2]at this;exact this
 have S3:Hid (ki n l o3):=by have:=Gh (aa en) (aa S2);rw[aa e3]at this;exact this
 have S4:Hid (ki n l o4):=by have:=BK (aa en) (aa S3);rw[aa e4]at this;exact this
 have hNP:NP<=1048576:=by have:=(qV hb (aa S2)).2;rw[aa e3]at this;rw[<-aa eP];exact dQ this hl
 have hNV:NV<=1048576:=by have:=(qV hb (aa S4)).2;rw[aa e5]at this;rw[<-aa eV];exact dQ this hl
 have a0:nG n (some l)=0:=by simp[nG,aa en]
 obtain⟨A1,eA1⟩:=aI (nG n o1);obtain⟨A2,eA2⟩:=aI (nG n o2);obtain⟨A3,eA3⟩:=aI (nG n o3);obtain⟨A4,eA4⟩:=aI (nG n o4);obtain⟨A5,eA5⟩:=aI (nG n o5);have c1:=λw'(bR:Bw w w')=>pI en (h.below bR) hb hl S0 e1;rw[a0,eA1]at c1;have c2:=λw'(bR:Bw w w')=>BJ en (h.below bR) hb hl S1 e2;rw[eA1,eA2]at c2;have c3:=λw'(bR:Bw w w')=>pG en (h.below bR) hb hl xq S2 e3 eP;rw[eA2,eA3]at c3;have c4:=λw'(bR:Bw w w')=>pI en (h.below bR) hb hl S3 e4;rw[eA3,eA4]at c4;have c5:=λw'(bR:Bw w w')=>pG en (h.below bR) hb hl xq S4 e5 eV;rw[eA4,eA5]at c5;have C1:=af c1;have C2:=af c2;have C3:=af c3;have C4:=af c4;have C5:=af c5;have HH:=af h;clear c1 c2 c3 c4 c5 a0 eA1 eA2 eA3 eA4 h hb
 go_in
 go_wp2_with fail;obtain⟨W,hW⟩:=az (w.alloc (.cells #[.I 0,.U 0,.S none 0 0,.I 0,.S none 0 0,.U 0,.U 0] 73));have bW:=ew hW;have hR:sG W w.heap.size (.I 0) (.U 0) (.S none 0 0) (.I 0) (.S none 0 0) (.U 0) (.U 0):=by rw[hW];simp[sG,go_sem]
 have fR:∀o,W.frozen? (Ad w.heap.size o)=false:=λo=>by rw[hW];simp[go_sem]
 have zW:w.heap.size<W.heap.size:=by rw[hW];simp
 rw[<-hW];clear hW;refine(aa C1 _ bW).mono ?_;rintro r w'⟨rfl,rfl⟩;go_wp2_with fail;refine(aa C2 _ bW).mono ?_;rintro r w'⟨rfl,rfl⟩;go_wp2_with fail;refine(aa C3 _ bW).mono ?_;rintro r w1⟨p1,c1,rfl,x1,aA⟩;have b1:=aj bW aA;have rr:=hR.below aA;have fR1:=cI fR zW aA;have z1:=aA.size;go_wp2_with fail;refine(aa C4 _ b1).mono ?_;rintro r w2⟨rfl,rfl⟩;go_wp2_with fail;refine(aa C5 _ b1).mono ?_;rintro r w3⟨p3,c3,rfl,x3,aL⟩;have b3:=aj b1 aL;have x1':=Own.below x1 aL;have tM:=rr.below aL;have fR3:=cI fR1 ae aL;have z3:=aL.size;have bF3:Hid (aN P/\aN V/\0<=s/\s<18446744073709551616):=by have h1:=(qV HB S2).1;have h2:=(qV HB S4).1;have h3:=Gg (om:=o1);rw[aa e3]at h1;rw[aa e5]at h2;rw[aa e2]at h3;exact⟨h1,h2,h3.1,h3.2⟩
 obtain⟨X,hX⟩:=az (w3.alloc (.cells #[.I k,.U s,.S p1 NP c1,.I f,.S p3 NV c3,.U 0,.U 0] 73));have Eo:=ew hX;have bX:Bw w X:=aj b3 Eo;have hRX:=tM.below Eo;have fRX:=cI fR3 ae Eo;have hOX:sG X w3.heap.size (.I k) (.U s) (.S p1 NP c1) (.I f) (.S p3 NV c3) (.U 0) (.U 0):=by rw[hX];simp[sG,go_sem]
 have zX:w3.heap.size<X.heap.size:=by rw[hX];simp
 have xP:=Own.below x1' Eo;have xV:=Own.below x3 Eo;have bo:∀ob:Obj,Bw w3 (w3.alloc ob):=λob=>au.alloc ao _;have q0:=λob=>ag tM.1 (bo ob);have q1:=λob=>ag tM.2.1 (bo ob);have q2:=λob=>ag tM.2.2.1 (bo ob);have q3:=λob=>ag tM.2.2.2.1 (bo ob);have q4:=λob=>ag tM.2.2.2.2.1 (bo ob);have q5:=λob=>ag tM.2.2.2.2.2.1 (bo ob);have q6:=λob=>ag tM.2.2.2.2.2.2 (bo ob);have qf:=λ(ob:Obj)=>cI fR3 ae (bo ob);have tP:Btw w.heap.size w2.heap.size (.S p1 NP c1):=λb hb=>by have:=x1.lt b hb;omega
 obtain⟨r0,r1,r2,r3,r4,r5,r6⟩:=id hRX;obtain⟨j0,j1,j2,j3,j4,j5,j6⟩:=id hOX;have cx8:¬A5<0:=by rw[<-eA5,ho];simp[nG]
 subst hk;subst hs;subst hf;have DP:=af hS;have HDL:=af hdl;have HFM:Hid (Fa K S F NP NV 0 0=true):=by show _=_;rw[<-aa eP,<-aa eV];exact hfm
 go_wp2_with fail;rw[<-hX];refine(Hw h1 h2 HFM).mono ?_;rintro r y1⟨rfl,tj⟩;have U0:=aj bX tj;have rr:=hRX.below tj;have hO1:=hOX.below tj;have f1:=cI fRX ae tj;have zx1:=tj.size;have xP1:=Own.below xP tj;have xV1:=Own.below xV tj;obtain⟨r0,r1,r2,r3,r4,r5,r6⟩:=id rr;obtain⟨j0,j1,j2,j3,j4,j5,j6⟩:=id hO1;go_wp2_with fail;refine(Dm h1 h2).mono ?_;rintro r y2⟨rfl,rfl⟩;rw[hj];obtain⟨M,eM⟩:∃M,Hid ((DV K S P F V).length=M):=⟨_,rfl⟩;go_wp2_with fail;refine(Wm h2 DP hF eP eV xP1.rd xV1.rd hNP hNV eM).mono ?_;rintro r y3⟨p5,c5,rfl,o5',e8⟩;have bx3:=aj U0 e8;have tM:=rr.below e8;have hO3:=hO1.below e8;have f3:=cI f1 ae e8;have zx3:=e8.size;have xP3:=Own.below xP1 e8;have xV3:=Own.below xV1 e8;obtain⟨r0,r1,r2,r3,r4,r5,r6⟩:=id tM;obtain⟨j0,j1,j2,j3,j4,j5,j6⟩:=id hO3;have hd:decide (DV K S P F V=l)=true:=by rw[<-aa HDL];simp
 have HD:=af hd;go_wp2_with fail;refine(lZ eM en o5'.rd (HH.below bx3) (aa HDL▸aa HB) (aa HB)).mono ?_;rintro r y4⟨rfl,ky⟩;rw[aa HD];have bx4:=aj bx3 ky;have hR4:=tM.below ky;have hO4:=hO3.below ky;have f4:=cI f3 ae ky;have zx4:=ky.size;have xP4:=af (Own.below xP3 ky);have xV4:=af (Own.below xV3 ky);obtain⟨r0,r1,r2,r3,r4,r5,r6⟩:=id hR4;obtain⟨j0,j1,j2,j3,j4,j5,j6⟩:=id hO4;have BX4:=af bx4;have HZ:=af (ah zW (ah z1 (ah z3 (ah zX (ah zx1 (ah zx3 zx4))))));have cg:¬w.heap.size=w3.heap.size:=ae;have co8:¬w3.heap.size=w.heap.size:=ae;go_wp2;obtain⟨zW,z1,z3,zX,zx1,zx3,zx4⟩:=aa HZ;refine dD (v:=.tuple #[zI K S (.S p1 NP c1) F (.S p3 NV c3) 0 0,.I 0]) (by simp[results,results36,go_sem,r0,r1,r2,r3,r4,r5,r6]) rfl ⟨p1,c1,p3,c3,w2.heap.size,rfl,ae,?_,tP,?_,?_⟩;{
 refine Own.mono (B:=w'.heap.size) ?_ ae
 iterate 7 (refine qn ?_ zW _)
 exact xP4};{
 have zz:w.heap.size<w2.heap.size:=ae
 iterate 7 (refine qn ?_ zz _)
 exact xV4};{
 iterate 7 (refine gF ?_ ai _)
 exact BX4}
def PB.yv{w w':World}{M N z0:Nat}(h:PB w M N v xs A)(hM:z0<M)(hk:∀z,z≠z0->w'.heap[z]?=w.heap[z]?):PB w' M N v xs A:=
 have k:∀a∈A,w'.heap[a.b]?=w.heap[a.b]?:=λa ha=>hk _ (aG (h.ap.lo a ha))
 ⟨h.rd.dR h.lv k,h.cap,h.lv,h.ap.keep k,h.hi⟩
def PU.yv{w w':World}{M N z0:Nat}(h:PU w M N v xs A)(hM:z0<M)(hk:∀z,z≠z0->w'.heap[z]?=w.heap[z]?):PU w' M N v xs A:=
 have k:∀a∈A,w'.heap[a.b]?=w.heap[a.b]?:=λa ha=>hk _ (aG (h.ap.lo a ha))
 ⟨h.rd.dR h.lv k,h.lv,h.ap.keep k,h.hi⟩
def jX.pu{w:World}{n c:Nat}(h:jX B w (.S p n c) l):∃A,PU w B w.heap.size (.S p n c) l A:=by
 obtain⟨A,q1,q2,q3,q4⟩:=BI (kd:=.u64) h;refine⟨A,?_,q1,q2,λa ha=>q2.uV.lt ha⟩;rcases h.2 with⟨e,h0⟩|⟨g,cap,cur,e,hb,hg,hr⟩;{rw[e];exact⟨none,0,by rw[h0],.inl (sV.1 h0)⟩};{rw[e]at h⊢;refine⟨_,cap,rfl,.inr ⟨g,0,rfl,λi hi=>?_⟩⟩;have:=Gu h i ae;rw[kS,this];simp[gK,hi]}
def NJ.rde{w:World}{es:List Ev}(h:NJ B w v es):Oo w v es:=by
 obtain⟨p,c,rfl,-,-,hp⟩:=RT.form h;refine⟨p,c,rfl,?_⟩;by_cases h0:es=[];{exact .inl h0};{obtain⟨g,rfl⟩:=hp (VW.2 h0);refine .inr ⟨g,0,rfl,λi e hi=>?_⟩;obtain⟨cc,-,⟨P,ec,tP⟩,hc,-⟩:=RT.at h hi;subst ec;exact⟨by have:=hc 0 _ rfl;simpa using this,P,by have:=hc 1 _ rfl;simpa using this,tP.1⟩}
def kx.rds{w:World}{Qs:List Value}(h:kx B w v ss Qs):yL w v ss:=by
 have hz:(ss.zip Qs).length=ss.length:=by rw[Qf,h.len];simp
 obtain⟨p,c,e,-,-,hp⟩:=RT.form h.row;rw[hz]at e hp;subst e;refine⟨p,c,rfl,?_⟩;by_cases h0:ss=[];{exact .inl h0};{obtain⟨g,rfl⟩:=hp (VW.2 h0);refine .inr ⟨g,0,rfl,λi s hi=>?_⟩;have KL:=(bf.1 hi).1;obtain⟨Q,hQ⟩:∃Q,Qs[i]?=some Q:=⟨_,bD (h.len▸KL)⟩;obtain⟨cc,-,ec,hc,-⟩:=RT.at h.row (i:=i) (x:=(s,Q)) (by rw[Kg];exact⟨hi,hQ⟩);rw[show cc=_ from ec]at hc;exact⟨by have:=hc 0 _ rfl;simpa using this,by have:=hc 1 _ rfl;simpa using this,Q,by have:=hc 2 _ rfl;simpa using this,(h.Xh i s Q hi hQ).rde⟩}
def MO(p:OA)(c n:Nat)(xs:List aC)(A:List Lf)(k:Int)(w:World)(h:xy w (.S p n c) xs A)(hA:bS w A k)(k0:0<=k)(k1:k+A.length<=100000000):Calls prog 63 #[.S p n c,.I k] w (Rb (.I (k+A.length)) w):=by
 have QU:=h.len (λx b a l hl=>hl.pos);obtain⟨Ls,en,lL,eA,fT⟩:=h.at;have yN:=af fT;have HA:=af (show bS w Ls.flatten k by rw[<-eA];exact hA);have EA:=af eA;have K1:k+(Ls.flatten.length:Int)<=100000000:=eA▸k1;have hn:n<=100000000:=ae;have LL:=af lL;clear h fT hA eA en lL QU
 go_in
 go_wp2
 go_loopw[1,5](λkk i wr=>∃j:Nat,j<=n/\i=.I j/\kk=.I (k+(((Ls.take j).flatten.length:Nat):Int))/\Bw w wr) (λ_ i _=>n-(intOf i).toNat)
 exact⟨0,fN _,rfl,ai,cR _ _⟩;{
 obtain⟨j,hj,rfl,rfl,aK⟩:=hrel;have hle:=br Ls j;by_cases aT:j<n;{
 have bu:=aS j n;obtain⟨b,o,x,l,rfl,hx,hl,hP,sA,iE⟩:=aa yN j aT;have hh:=(HA.flat sA).below aK;have Ux:(Ls.take (j+1)).flatten.length=(Ls.take j).flatten.length+l.length:=by rw[sA,ir]
 have uY:k+((Ls.take j).flatten.length:Int)+(l.length:Int)<=100000000:=by have:=br Ls (j+1);omega
 have HT:=af Ux;generalize hT:(Ls.take j).flatten.length=T at*;clear hT hx hl sA iE Ux;have hT0:0<=k+(T:Int):=ae;have hP':=hP.below aK;obtain⟨p0,c0,p1,c1,p4,c4,p7,c7,l0,l1,l4,l7,rfl,⟨h1,h2⟩,⟨h3,h4⟩,⟨h5,h6⟩,⟨h7,h8⟩⟩:=hP';have HD:=af (ah h1 (ah h3 (ah h5 h7)));have NQ:=af (ah h2 (ah h4 (ah h6 h8)));clear h1 h2 h3 h4 h5 h6 h7 h8;have hlen:k+(T:Int)+(4+(l0.length:Int)+(l1.length:Int)+(l4.length:Int)+(l7.length:Int))<=100000000:=by simp only[ir,iT]at uY;omega
 clear uY hP;have s0:bS wr l0 (k+(T:Int)):=(bS.app hh).1;have t0:=(bS.app hh).2;have s1:bS wr l1 (k+(T:Int)+(l0.length:Int)):=(bS.app t0).1;have t1:=(bS.app t0).2;have ku:wr.cell? (Ad b (o+j*8+2))=some (.U (k+(T:Int)+(l0.length:Int)+(l1.length:Int))):=(bS.cons t1).1;have t2:=(bS.cons t1).2;have Ho:wr.cell? (Ad b (o+j*8+3))=some (.I (k+(T:Int)+(l0.length:Int)+(l1.length:Int)+1)):=(bS.cons t2).1;have t3:=(bS.cons t2).2;have s4:bS wr l4 (k+(T:Int)+(l0.length:Int)+(l1.length:Int)+1+1):=(bS.app t3).1;have t4:=(bS.app t3).2;have Dz:wr.cell? (Ad b (o+j*8+5))=some (.U (k+(T:Int)+(l0.length:Int)+(l1.length:Int)+1+1+(l4.length:Int))):=(bS.cons t4).1;have t5:=(bS.cons t4).2;have yh:wr.cell? (Ad b (o+j*8+6))=some (.U (k+(T:Int)+(l0.length:Int)+(l1.length:Int)+1+1+(l4.length:Int)+1)):=(bS.cons t5).1;have t6:=(bS.cons t5).2;have s7:bS wr l7 (k+(T:Int)+(l0.length:Int)+(l1.length:Int)+1+1+(l4.length:Int)+1+1):=t6;have HS:=af (ah s0 (ah s1 (ah s4 (s7))));have vW:=af (ah ku (ah Ho (ah Dz (yh))));have W0:=af (cR wr.heap.size wr);clear hh t2 t3 t5 t6 t0 t1 t4 s0 s1 s4 s7 ku Ho Dz yh;have hd0:=ag HD.1 W0;go_wp2_with fail;clear hd0;refine(Au NQ.1 (HS.1.below W0) ae ae).mono ?_;rintro e v0⟨rfl,N0⟩;have BV0:=af (aj W0 N0);have by9:¬k+(T:Int)+(l0.length:Int)<0:=ae;clear N0;have hd1:=ag HD.2.1 BV0;go_wp2_with fail;clear hd1;refine(Au NQ.2.1 (HS.2.1.below BV0) ae ae).mono ?_;rintro e v1⟨rfl,N1⟩;have BV1:=af (aj BV0 N1);have cW3:¬k+(T:Int)+(l0.length:Int)+(l1.length:Int)<0:=ae;clear N1;have ku:=ag vW.1 BV1;have co6:((k+(T:Int)+(l0.length:Int)+(l1.length:Int)) != (k+(T:Int)+(l0.length:Int)+(l1.length:Int)))=false:=ai;have Ho:=ag vW.2.1 BV1;have co5:((k+(T:Int)+(l0.length:Int)+(l1.length:Int)+1) != (k+(T:Int)+(l0.length:Int)+(l1.length:Int)+1))=false:=ai;have hd4:=ag HD.2.2.1 BV1;go_wp2_with fail;clear ku co6 Ho co5 hd4;refine(uZ p4 c4 x.holders.length (x.holders) l4 (k+(T:Int)+(l0.length:Int)+(l1.length:Int)+1+1) _ NQ.2.2.1 (HS.2.2.1.below BV1) ae ae).mono ?_;rintro e v2⟨rfl,N2⟩;have Vk:=af (aj BV1 N2);have cW2:¬k+(T:Int)+(l0.length:Int)+(l1.length:Int)+1+1+(l4.length:Int)<0:=ae;clear N2;have Dz:=ag vW.2.2.1 Vk;have co4:((k+(T:Int)+(l0.length:Int)+(l1.length:Int)+1+1+(l4.length:Int)) != (k+(T:Int)+(l0.length:Int)+(l1.length:Int)+1+1+(l4.length:Int)))=false:=ai;have yh:=ag vW.2.2.2 Vk;have co3:((k+(T:Int)+(l0.length:Int)+(l1.length:Int)+1+1+(l4.length:Int)+1) != (k+(T:Int)+(l0.length:Int)+(l1.length:Int)+1+1+(l4.length:Int)+1))=false:=ai;have hd7:=ag HD.2.2.2 Vk;go_wp2_with fail;clear Dz co4 yh co3 hd7;refine(uZ p7 c7 x.watchers.length (x.watchers) l7 (k+(T:Int)+(l0.length:Int)+(l1.length:Int)+1+1+(l4.length:Int)+1+1) _ NQ.2.2.2 (HS.2.2.2.below Vk) ae ae).mono ?_;rintro e v3⟨rfl,N3⟩;have BV3:=af (aj Vk N3);have cW1:¬k+(T:Int)+(l0.length:Int)+(l1.length:Int)+1+1+(l4.length:Int)+1+1+(l7.length:Int)<0:=ae;clear N3;have b1:=aj aK BV3;clear aK;go_wp2;go_roundw;exact⟨j+1,ae,by go_num,by rw[aa HT];first|go_num|(simp;omega)|(congr 1;simp;omega),by first|exact b1|exact below_drewN b1⟩;exact bM};{
 have e:j=n:=ae;subst e;have e2:(Ls.take j).flatten=A:=by rw[<-aa LL,ng];exact EA.symm
 rw[e2];clear hle yN HA;go_wp2;go_ret;exact⟨rfl,aK⟩}}
def Mi(e g x t:Int)(p q:OA)(c n d m:Nat)(ss:List aP)(ns:List aC)(A1 A2:List Lf)(k:Int)(w:World)(h1:wS w (.S p n c) ss A1)(h2:xy w (.S q m d) ns A2)(i1:db w A1)(i2:db w A2)(hq:Hid (∀s∈ss,s.2.2.length<=0))(k0:0<=k)(k1:k+A1.length+A2.length<=100000000):Calls prog 28 #[ft e g x t (.S p n c) (.S q m d),.I k] w λr w'=>r=.returned (.I (k+A1.length+A2.length))/\Mk w w' (A1++A2) k:=by
 obtain⟨W,hW⟩:=az (w.alloc (.cells #[.U e,.U g,.U x,.I t,.S p n c,.S q m d] 35));have bW:=ew hW;have yh:jO W w.heap.size e g x t (.S p n c) (.S q m d):=by rw[hW];simp[jO]
 have M0:=Mk.dY bW k;have H1:=af (wS.below h1 bW);have H2:=af (xy.below h2 bW);have I1:=af (i1.below bW);have I2:=af (i2.below bW);have J:=af (ah i1 i2);have HM0:=af M0;have HC:=af yh
 go_in
 go_wp2_with fail;rw[<-hW];refine(DW p c n ss A1 k _ H1 I1 hq k0 ae).mono ?_;rintro r w1⟨rfl,m1⟩;obtain⟨j0,j1,j2,j3,j4,j5⟩:=aa HC;have c4:w1.cell? (Ad w.heap.size 4)=some (.S p n c):=m1.head I1 j4;have c5:w1.cell? (Ad w.heap.size 5)=some (.S q m d):=m1.head I1 j5;have H3:=af (xy.mk H2 m1 I1);have I3:=af (I2.mk m1 I1);have M1:=af (HM0.trans' m1 ai (db.nil _) J.1);go_wp2_with fail;refine(Mj q d m ns A2 (k+A1.length) _ H3 I3 ae ae).mono ?_;rintro r w2⟨rfl,m2⟩;have M2:=M1.trans' m2 ai (by simpa using J.1) J.2;go_wp2;go_ret;exact⟨rfl,by simpa using M2⟩
def MM(e g x t:Int)(p q:OA)(c n d m:Nat)(ss:List aP)(ns:List aC)(A1 A2:List Lf)(k:Int)(w:World)(h1:wS w (.S p n c) ss A1)(h2:xy w (.S q m d) ns A2)(hh:bS w (A1++A2) k)(hq:Hid (∀s∈ss,s.2.2.length<=0))(k0:0<=k)(k1:k+A1.length+A2.length<=100000000):Calls prog 30 #[ft e g x t (.S p n c) (.S q m d),.I k] w (Rb (.I (k+A1.length+A2.length)) w):=by
 obtain⟨W,hW⟩:=az (w.alloc (.cells #[.U e,.U g,.U x,.I t,.S p n c,.S q m d] 35));have bW:=ew hW;have yh:jO W w.heap.size e g x t (.S p n c) (.S q m d):=by rw[hW];simp[jO]
 have H1:=af (wS.below h1 bW);have H2:=af (xy.below h2 bW);have I1:=af (hh.app.1.below bW);have I2:=af (hh.app.2.below bW);have HC:=af yh
 go_in
 go_wp2_with fail;rw[<-hW];refine(Eg p c n ss A1 k _ H1 I1 hq k0 ae).mono ?_;rintro r w1⟨rfl,m1⟩;obtain⟨j0,j1,j2,j3,j4,j5⟩:=HC.below m1;have hp1:¬k+(A1.length:Int)<0:=ae;have H3:=af (xy.below H2 m1);have I3:=af (I2.below m1);have b1:=aj bW m1;go_wp2_with fail;refine(MO q d m ns A2 (k+A1.length) _ H3 I3 ae ae).mono ?_;rintro r w2⟨rfl,m2⟩;have b2:=aj b1 m2;have hp2:¬k+(A1.length:Int)+(A2.length:Int)<0:=ae;go_wp2;go_ret;exact⟨rfl,b2⟩
def ar5(e:Ev):Nat:=1+e.2.length
def Yo(s:aP):Nat:=2+iB ar5 s.2.2
def Yp(nd:aC):Nat:=nd.path.length+(nd.value.length+(2+(nd.holders.length+(2+nd.watchers.length))))
theorem JM{α:Type}{F G:α->Nat}(l:List α)(h:∀x∈l,F x<=G x):iB F l<=iB G l:=by
 induction l with
 |nil=>exact iP _
 |cons x l ih=>
  have:=ih λy hy=>h y (by simp[hy]);have:=h x ai;simp only[iB,iM,Ke]at*;omega
theorem OM{α:Type}(F:α->Nat)(k:Nat)(l:List α):iB (λx=>k+F x) l=k*l.length+iB F l:=by
 induction l with
 |nil=>rfl
 |cons x l ih=>
  simp only[iB,iM,Ke,iT]at*;rw[ih,ad5];omega
def bg6(ss:List aP)(ns:List aC):iB Yo ss+iB Yp ns<=4*OJ ss ns:=by
 have h1:iB Yo ss<=iB (λs=>2+Fv s) ss:=JM ss λs _=>by have:=OM (λe:Ev=>e.2.length) 1 s.2.2;have e:iB ar5 s.2.2=iB (λe:Ev=>1+e.2.length) s.2.2:=rfl;simp only[Yo,Fv];omega
 have h2:iB Yp ns<=iB (λs=>4+Fw s) ns:=JM ns λs _=>by simp only[Yp,Fw];omega
 rw[OM]at h1 h2;simp only[OJ];omega
theorem Fy{α:Type}(F:α->Nat){l:List α}{y:α}(h:y∈l):F y<=iB F l:=by
 induction l with
 |nil=>cases h
 |cons z l ih=>
  have e:iB F (z::l)=F z+iB F l:=by simp[iB]
  rcases jG.1 h with rfl|h;{omega};{have:=ih h;omega}
def aV8(h:OJ ss ns<=1048576):Mg ss.length/\Mg ns.length/\(∀s∈ss,s.2.2.length<=1048576/\∀e∈s.2.2,e.2.length<=1048576)/\∀nd∈ns,nd.path.length<=1048576/\nd.value.length<=1048576/\nd.holders.length<=1048576/\nd.watchers.length<=1048576:=by
 unfold OJ at h;refine⟨ae,ae,λs hs=>?_,λnd bj=>?_⟩;{have h1:=Fy Fv hs;have h0:Fv s=s.2.2.length+iB (λe:Ev=>e.2.length) s.2.2:=rfl;refine⟨ae,λe he=>?_⟩;have h2:e.2.length<=iB (λe:Ev=>e.2.length) s.2.2:=Fy (λe:Ev=>e.2.length) he;omega};{have h1:=Fy Fw bj;have h0:Fw nd=nd.path.length+nd.value.length+nd.holders.length+nd.watchers.length:=rfl;omega}
def NI(B:Nat)(w:World)(A1 A2:List Lf)(p:OA)(n c:Nat)(q:OA)(m d:Nat)(ss:List aP)(ns:List aC):Prop:=
 mg w (.S p n c) ss/\oU w (.S q m d) ns/\wS w (.S p n c) ss A1/\xy w (.S q m d) ns A2/\nI B w (A1++A2)
def NI.keep{w w':World}{p q:OA}{n c m d:Nat}(h:NI B w A1 A2 p n c q m d ss ns)(hk:∀a∈A1++A2,w'.heap[a.b]?=w.heap[a.b]?):NI B w' A1 A2 p n c q m d ss ns:=by
 obtain⟨h1,h2,h3,h4,h5⟩:=h;have k1:∀a∈A1,w'.heap[a.b]?=w.heap[a.b]?:=λa ha=>hk a (De _ ha);have k2:∀a∈A2,w'.heap[a.b]?=w.heap[a.b]?:=λa ha=>hk a (Gr _ ha);exact⟨h1.dR h3 k1,h2.dR h4 k2,wS.keep h3 k1,xy.keep h4 k2,h5.keep hk⟩
def NI.below{w w':World}{p q:OA}{n c m d:Nat}(h:NI B w A1 A2 p n c q m d ss ns)(hb:Bw w w'):NI B w' A1 A2 p n c q m d ss ns:=h.keep λa ha=>hb.block _ (h.2.2.2.2.uV.lt ha)
def NI.rd{w:World}{p q:OA}{n c m d:Nat}(h:NI B w A1 A2 p n c q m d ss ns):yL w (.S p n c) ss/\oU w (.S q m d) ns:=⟨h.1.rd,h.2.1⟩
theorem JE.jD{α:Type}{P:α->Nat->Nat->List Lf->Prop}{sz:Nat}{xs:List α}(F:α->Nat)(h:JE P sz v xs A)(hP:∀x b a l,P x b a l->l.length=F x):A.length=iB F xs:=by
 obtain⟨p,c,Ls,h1,h2,rfl,h4⟩:=h;rcases h4 with h0|⟨b,o,-,h6⟩;{
 subst h0;have:Ls=[]:=sV.1 h2;subst this
 rfl}
 {
 have key:∀k,k<=xs.length->(Ls.take k).flatten.length=iB F (xs.take k):=by
  intro k
  induction k with
  |zero=>intro _;rfl
  |succ k ih=>
   intro hk;obtain⟨x,hx⟩:∃x,xs[k]?=some x:=⟨_,bD ae⟩;obtain⟨l,hl⟩:∃l,Ls[k]?=some l:=⟨_,bD ae⟩;rw[ni,hl,WY F hx,<-ih ae,<-hP _ _ _ _ (h6 k x l hx hl)];simp
 have:=key xs.length ao;rw[ng,<-h2,ng]at this;exact this}
theorem OK{α:Type}(l:List α):iB (λ_=>1) l=l.length:=by
 induction l with
 |nil=>rfl
 |cons x l ih=>simp only[iB,iM,Ke,iT]at*;omega
def SK.jD(h:SK v xs A):A.length=xs.length:=by
 rw[JE.jD (λ_=>1) h (λx b a l hl=>by rw[show l=_ from hl];rfl)];exact OK xs
def YC.jD(h:YC v xs A):A.length=xs.length:=by
 rw[JE.jD (λ_=>1) h (λx b a l hl=>by rw[show l=_ from hl];rfl)];exact OK xs
def Ep.jD{w:World}{xs:List Ev}(h:Ep w v xs A):A.length=iB ar5 xs:=JE.jD ar5 h λx b a l hl=>by
 obtain⟨p,c,lb,rfl,-,h3⟩:=hl;simp[ar5,SK.jD h3];omega
def wS.jD{w:World}{xs:List aP}(h:wS w v xs A):A.length=iB Yo xs:=JE.jD Yo h λx b a l hl=>by
 obtain⟨p,c,lb,rfl,-,h3⟩:=hl;simp[Yo,Ep.jD h3];omega
def xy.jD{w:World}{xs:List aC}(h:xy w v xs A):A.length=iB Yp xs:=JE.jD Yp h λx b a l hl=>by
 obtain⟨p0,c0,p1,c1,p4,c4,p7,c7,l0,l1,l4,l7,rfl,⟨-,h0⟩,⟨-,h1⟩,⟨-,h4⟩,⟨-,h7⟩⟩:=hl;simp[Yp,SK.jD h0,SK.jD h1,YC.jD h4,YC.jD h7];omega
end Go.Proofs.YtkakbcaiplggiaaGreatDoor
