import Derived.Test.YtjjnidignljppaaGreatDoorK21
import Derived.Test.YtjjnidignljppaaGreatDoorK27
import Derived.Test.YtjjnidignljppaaGreatDoorK26
namespace Go.Proofs.YtjjnidignljppaaGreatDoor
set_option maxHeartbeats 40000000
set_option linter.all false
set_option maxRecDepth 100000
open Go.ChangeShapes Go.WideShapes Go.ChangeAt Go.RowKit Go.Maps
variable {A A1 A2:List Lf}{B C M N a b bn bs c f i k o:Nat}{D:SD}{DX ss:List aR}{P V l l0 l1 l2 l3 l4 lm xs:LI}{X u:World}{e g hi lo s t x y:Int}{left:Lit->Bool}{ls:List LI}{nd nd':aB}{ns:List aB}{o1 o2 o3 o4 o5:Option LI}{p:OA}{rs:List R1}{v v0 v1 v2 v3 v4 v5 v6:Value}{vs:List Value}
structure CI(ss:List aR)(ns:List aB):Prop where
 so:DE ss
 nt:∀nd∈ns,NT ss nd/\nd.holders.Pairwise (·<·)/\nd.holders.length<=1048576
 kd:KD ns
def NT.ids(h:NT ss nd)(hi:DX.map (·.1)=ss.map (·.1)):NT DX nd:=
 ⟨h.by',h.pl,h.wpw,h.QF,fun i Sb=>by obtain⟨j,s,hj,e⟩:=ar0 hi (h.Mx i Sb);exact⟨s,aS hj,e⟩⟩
theorem DE.tell(ev:Ev):∀(ids:LI){ss:List aR},DE ss->DE (rr ss ids ev)
 |[],ss,h=>h
 |a::r,ss,h=>DE.tell ev r (h.cm9 a ev)
def KD.erase(h:KD ns)(k:Nat):KD (ns.eraseIdx k):=fun i j a c ha hc e=>by
 rw[YS]at ha hc;by_cases hi:i<k<;>by_cases hj:j<k
 {rw[bN hi]at ha;rw[bN hj]at hc;exact h i j a c ha hc e};{rw[bN hi]at ha;rw[bH hj]at hc;have:=h i (j+1) a c ha hc e;omega};{rw[bH hi]at ha;rw[bN hj]at hc;have:=h (i+1) j a c ha hc e;omega};{rw[bH hi]at ha;rw[bH hj]at hc;have:=h (i+1) (j+1) a c ha hc e;omega}
theorem KD.paths{ns':List aB}(h:KD ns)(hp:ns'.map (·.path)=ns.map (·.path)):KD ns':=fun i j a c ha hc e=>by
 have key:∀(i:Nat)(a:aB),ns'[i]?=some a->∃a0,ns[i]?=some a0/\a0.path=a.path:=fun i a ha=>by
  have h1:(ns'.map (·.path))[i]?=some a.path:=by rw[kU,ha];rfl
  rw[hp,kU]at h1;cases hn:ns[i]? with
  |none=>rw[hn]at h1;cases h1
  |some a0=>rw[hn]at h1;exact⟨a0,rfl,by simpa using h1⟩
 obtain⟨a0,h1,e1⟩:=key i a ha;obtain⟨c0,h2,e2⟩:=key j c hc;exact h i j a0 c0 h1 h2 (by rw[e1,e2,e])
def rA(hk:ns[k]?=some nd)(hp:nd'.path=nd.path):(ns.set k nd').map (·.path)=ns.map (·.path):=by
 rw[Uk,hp];exact xQ (by rw[kU,hk];rfl)
def CI.cw(h:CI ss ns)(id:Int):CI ss (ns.map (GS id)):=by
 refine⟨h.so,fun nd br=>?_,h.kd.paths (by rw[uj];rfl)⟩;obtain⟨y,hy,rfl⟩:=iJ.1 br;obtain⟨h1,h2,h3⟩:=h.nt y hy;exact⟨⟨h1.by',h1.pl,Mw h1.wpw,fW (DH) h1.QF,fun i hi=>h1.Mx i (qD.1 hi).1⟩,h2,h3⟩
def CI.set(h:CI ss ns)(hk:ns[k]?=some nd)(hs:DE DX)(hi:DX.map (·.1)=ss.map (·.1))(hp:nd'.path=nd.path)(hw:nd'.watchers=nd.watchers\/nd'.watchers=[])(hh:nd'.holders.Pairwise (·<·)/\nd'.holders.length<=1048576):CI DX (ns.set k nd'):=by
 refine⟨hs,fun x hx=>?_,h.kd.paths (rA hk hp)⟩;rcases NJ hx with hx|rfl;{obtain⟨h1,h2⟩:=h.nt x hx;exact⟨h1.ids hi,h2⟩};{
 obtain⟨h1,-⟩:=h.nt nd (aS hk);refine⟨NT.ids ⟨by rw[hp];exact h1.by',by rw[hp];exact h1.pl,?_,?_,?_⟩ hi,hh⟩;{
 rcases hw with e|e<;>rw[e]
 {exact h1.wpw};{exact List.Pairwise.nil}};{
 rcases hw with e|e<;>rw[e]
 {exact h1.QF};{simp}};{
 rcases hw with e|e<;>rw[e]
 {exact h1.Mx};{intro i hi;cases hi}}}
def CI.tell(h:CI D.ss D.ns)(hk:D.ns[k]?=some nd)(kd:Int):CI (dR D k kd).ss (dR D k kd).ns/\(dR D k kd).ns.map (·.path)=D.ns.map (·.path)/\(dR D k kd).ss.map (·.1)=D.ss.map (·.1)/\(dR D k kd).ns[k]?=some {nd with watchers:=[]}:=by
 unfold dR;rw[hk];refine⟨h.set hk (DE.tell _ _ h.so) (uO _ _ _) rfl (.inr rfl) (h.nt nd (aS hk)).2,rA hk rfl,uO _ _ _,bM hk _⟩
def CI.drop(h:CI D.ss D.ns)(hk:D.ns[k]?=some nd)(id:Int):CI (dN D k id).ss (dN D k id).ns/\(dN D k id).ns.map (·.path)=D.ns.map (·.path)/\(dN D k id).ss.map (·.1)=D.ss.map (·.1)/\∃kP,(dN D k id).ns[k]?=some kP/\kP.owner=nd.owner/\kP.path=nd.path:=by
 unfold dN;rw[hk];obtain⟨h1,h2,h3⟩:=h.nt nd (aS hk);by_cases hc:nd.holders.contains id=true;{
 simp only[hc,pG];by_cases he:qE nd.holders id=[];{
 simp only[he,pG];have qK:=bM hk {nd with holders:=[],mode:=0,aJ:=0,gen:=0}
 obtain⟨q1,q2,q3,q4⟩:=CI.tell (D:={D with ns:=D.ns.set k {nd with holders:=[],mode:=0,aJ:=0,gen:=0}}) (h.set hk h.so rfl rfl (.inl rfl) ⟨List.Pairwise.nil,ai⟩) qK 3;exact⟨q1,q2.trans (rA hk rfl),q3,_,q4,rfl,rfl⟩};{
 simp only[he,wu];refine⟨h.set hk h.so rfl rfl (.inl rfl) ⟨Mw h2,fW (DH) h3⟩,rA hk rfl,?_,_,bM hk _,rfl,rfl⟩
 first|trivial|rfl}}
 {simp only[hc];exact⟨h,rfl,rfl,nd,hk,rfl,rfl⟩}
def CI.rm(h:CI D.ss D.ns)(k:Nat):CI (Qa D k).ss (Qa D k).ns:=⟨h.so,fun nd br=>h.nt nd (EO br),h.kd.erase k⟩
def Gj{α:Type}{l:List α}(hk:k<l.length):(l.eraseIdx k).drop k=l.drop (k+1):=by
 rw[List.eraseIdx_eq_take_drop_succ,List.drop_append,List.drop_take];simp[show min k l.length=k by omega]
theorem Vz(h:DE ss){s:aR}(hi:ss[i]?=some s):VA s.1 ss=ss.eraseIdx i:=by
 have cg:∀(j:Nat)(z:aR),ss[j]?=some z->z.1=s.1->j=i:=fun j z hj e=>by have hp:=Ez.1 h.pw;obtain⟨l1,v1⟩:=aT.1 hi;obtain⟨l2,v2⟩:=aT.1 hj;rcases yA i j with hh|hh|hh;{have:=hp i j l1 l2 hh;rw[v1,v2]at this;omega};{exact hh.symm};{have:=hp j i l2 l1 hh;rw[v1,v2]at this;omega}
 have key:∀(l:List aR)(i:Nat),l[i]?=some s->(∀(j:Nat)(z:aR),l[j]?=some z->z.1=s.1->j=i)->VA s.1 l=l.eraseIdx i:=by
  intro l
  induction l with
  |nil=>intro i hi;simp at hi
  | cons y r ih=>
   intro i hi hu;cases i with
   |zero=>
    simp at hi;subst hi;rw[List.eraseIdx_cons_zero,VA,List.filter_cons,bH ai,List.filter_eq_self.2];intro z hz;obtain⟨j,hj⟩:=gv.1 hz;have:=hu (j+1) z (by simpa using hj);by_cases e:z.1=y.1;{have:=this e;omega};{simp[e]}
   |succ i=>
    have hy:¬y.1=s.1:=fun e=>by have:=hu 0 y ai e;omega
    rw[List.eraseIdx_cons_succ,VA,List.filter_cons,bN (by simp[hy]),<-VA,ih i (by simpa using hi) (fun j z hj e=>by have:=hu (j+1) z (by simpa using hj) e;omega)]
 exact key ss i hi cg
def rj(f:aB->aB)(left:Lit->Bool)(ns:List aB):List aB:=ns.map fun s=>if left (bQ s.path)then s else f s
def A9{f:aB->aB}(h:∀s∈ns,left (bQ s.path)=true):rj f left ns=ns:=by
 unfold rj;rw[yz (g:=id) (fun s hs=>by rw[bN (h s hs)];rfl),Uc]
def Ix{f:aB->aB}(h:∀k,left k=false):rj f left ns=ns.map f:=by
 unfold rj;exact yz fun s _=>by rw[bH (by rw[h];simp)]
def MB{f:aB->aB}{ss:List aB}{s:aB}(hs:ss[i]?=some s)(hl:left (bQ s.path)=true):(rj f left ss)[i]?=some s:=by
 unfold rj;rw[kU,hs,Cy,bN hl]
theorem DL{f:aB->aB}(hd:KD ns){s:aB}(hs:ns[i]?=some s):(rj f left ns).set i (f s)=rj f (fun z=>left z&&!z.sameKey (bQ s.path)) ns:=by
 refine EY fun j=>?_;unfold rj;rw[qH,kU,kU,fe];by_cases ej:i=j;{subst ej;have hkk:(bQ s.path).sameKey (bQ s.path)=true:=WideAt.sameKey_self (by unfold bQ;trivial);rw[bN rfl,bN (aT.1 hs).1,hs];simp[hkk]};{
 rw[bH ej];cases hj:ns[j]? with
 |none=>rfl
 |some z=>
  have cg:bQ z.path≠bQ s.path:=fun e=>ej (hd i j s z hs hj e.symm);simp[sameKey_ne cg]}
def PS.iter{w0 w w':World}{SB NB HB UB:List Nat}(h:PS w0 w b bs bn D SB NB HB UB){z:Nat}(O:One w0 w w' z)(n1:∀cs ty,w.heap[z]?≠some (.cells cs ty))(n2:∀es c,w.heap[z]?≠some (.map es c)):PS w0 w' b bs bn D SB NB HB UB:=by
 have nc:∀{y:Nat}{cs:Array Value}{ty:TypeId},w.heap[y]?=some (.cells cs ty)->y≠z:=fun hy e=>n1 _ _ (e▸hy);have nm:∀{y:Nat}{es:Array MapEntry}{c:Nat},w.heap[y]?=some (.map es c)->y≠z:=fun hy e=>n2 _ _ (e▸hy);refine⟨h.be.trans O.b,O.obj h.hd (nc h.hd),h.tc,?_,fun j s1 g1 ik fU=>?_,h.snd,h.te,h.hlen,h.tR,?_,fun j nd gb hh uu ik fU h1 h2=>?_,h.YI,h.lo,h.yQ⟩;{obtain⟨M,n,o,r⟩:=h.rZ;obtain⟨es,c,hm⟩:=ownsMap_at o;exact⟨M,n,O.map o (nm hm),r⟩};{have q:=h.ve j s1 g1 ik fU;obtain⟨-,u,h1,-⟩:=id q;exact q.keep O (nc h1)};{obtain⟨M,n,o,r⟩:=h.lr;obtain⟨es,c,hm⟩:=ownsMap_at o;exact⟨M,n,O.map o (nm hm),r⟩};{have q:=h.my j nd gb hh uu ik fU h1 h2;obtain⟨-,⟨V,q1,-⟩,q3,q4⟩:=id q;obtain⟨es,c,m3⟩:=q3.at;obtain⟨es',c',m4⟩:=q4.at;exact q.keep O (nc q1) (nm m3) (nm m4)}
structure StD where
 e:Int
 g:Int
 x:Int
 t:Int
 ss:List aR
 ns:List aB
def rz:StD:=⟨0,0,0,0,[],[]⟩
def il(B:Nat)(w:World)(p:OA)(n c:Nat)(q:OA)(m d:Nat)(ss:List aR)(ns:List aB):Prop:=
 ∃A1 A2,nI w (.S p n c) ss/\qz w (.S q m d) ns/\xt w (.S p n c) ss A1/\xD w (.S q m d) ns A2/\mL B w (A1++A2)
def il.zero(B:Nat)(w:World):il B w none 0 0 none 0 0 [] []:=
 ⟨[],[],⟨none,0,rfl,.inl rfl⟩,⟨none,0,rfl,.inl rfl⟩,⟨none,0,[],rfl,rfl,rfl,.inl rfl⟩,⟨none,0,[],rfl,rfl,rfl,.inl rfl⟩,mL.nil _ _⟩
def il.keep{w w':World}{p q:OA}{n c m d:Nat}(h:il B w p n c q m d ss ns)(hk:∀b,B<=b->b<w.heap.size->w'.heap[b]?=w.heap[b]?):il B w' p n c q m d ss ns:=by
 obtain⟨A1,A2,h1,h2,h3,h4,h5⟩:=h;have k:∀a∈A1++A2,w'.heap[a.b]?=w.heap[a.b]?:=fun a ha=>hk _ (h5.lo a ha) (h5.vj.lt ha);have k1:∀a∈A1,w'.heap[a.b]?=w.heap[a.b]?:=fun a ha=>k a (Bz _ ha);have k2:∀a∈A2,w'.heap[a.b]?=w.heap[a.b]?:=fun a ha=>k a (CD _ ha);exact⟨A1,A2,h1.dH h3 k1,h2.dH h4 k2,xt.keep h3 k1,xD.keep h4 k2,h5.keep k⟩
def il.below{w w':World}{p q:OA}{n c m d:Nat}(h:il B w p n c q m d ss ns)(hb:Bw w w'):il B w' p n c q m d ss ns:=h.keep fun b _ hl=>hb.block b hl
def il.mono{B':Nat}{w:World}{p q:OA}{n c m d:Nat}(h:il B w p n c q m d ss ns)(hB:B'<=B):il B' w p n c q m d ss ns:=by
 obtain⟨A1,A2,h1,h2,h3,h4,h5⟩:=h;exact⟨A1,A2,h1,h2,h3,h4,h5.mono hB⟩
def ah8(B:Nat)(r:Ending)(w:World)(D:StD)(code:Int):Prop:=∃p c q d,r=.returned (.tuple #[gh D.e D.g D.x D.t (.S p D.ss.length c) (.S q D.ns.length d),.I code])/\il B w p D.ss.length c q D.ns.length d D.ss D.ns
def cT.aM3{w0 w:World}{SB NB HB UB:List Nat}(h:cT w0 w b bs bn e g x t ss ns SB NB HB UB)(t':Int):cT w0 (w.setCell ⟨b,3,none⟩ (.I t')) b bs bn e g x t' ss ns SB NB HB UB:=by
 have hk:∀z,z≠b->(w.setCell ⟨b,3,none⟩ (.I t')).heap[z]?=w.heap[z]?:=fun z hz=>fy _ _ _ _ hz;have hc:∀{z:Nat}{cs:Array Value}{ty:TypeId},w.heap[z]?=some (.cells cs ty)->ty≠114->z≠b:=fun{z cs ty}hz ht e=>by rw[e,h.hd]at hz;simp at hz;exact ht hz.2.symm
 have Xh:∀{k:TypeId}{R:Value->Option (DataW Unit×List MemPlace)}{z n:Nat}{D:DataW Unit},w.ownsMap Tryz.prog k R z n D->z≠b:=fun{k R z n D}o e=>gJ o h.hd e.symm;refine⟨?_,⟨h.tI.len,?_,fun i s gb hs hg=>?_,h.tI.gy⟩,⟨h.gy.len,h.gy.CJ,h.gy.CH,?_,fun i nd gb hh uu hs hg h1 h2=>?_,h.gy.gy,h.gy.yQ⟩,h.lo,h.yQ⟩;{have:=h.hd;simp[World.setCell,we,this]};{obtain⟨D,o,m⟩:=h.tI.own;exact⟨D,je o (hk _ (Xh o)),m⟩};{obtain⟨q0,u,q1,q2⟩:=h.tI.blk i s gb hs hg;exact⟨q0,u,(hk _ (hc q1 aU)).trans q1,q2⟩};{obtain⟨D,o,m⟩:=h.gy.own;exact⟨D,je o (hk _ (Xh o)),m⟩};{obtain⟨q0,q1,q2,⟨V,q3,q4⟩,⟨D1,o1,m1⟩,⟨D2,o2,m2⟩⟩:=h.gy.blk i nd gb hh uu hs hg h1 h2;exact⟨q0,q1,q2,⟨V,(hk _ (hc q3 aU)).trans q3,q4⟩,⟨D1,je o1 (hk _ (Xh o1)),m1⟩,⟨D2,je o2 (hk _ (Xh o2)),m2⟩⟩}
open Go.Proofs.Tryz
def Own.bU8{R:Nat}{w:World}(h:Own B w v l)(hn:∀b,v.ownBlock=some b->b≠R)(x y:Value):Own B ((w.setCell ⟨R,0,none⟩ x).setCell ⟨R,1,none⟩ y) v l:=by
 refine⟨h.1,?_⟩;rcases h.2 with h0|⟨g,cap,cur,rfl,hb,hg,rest⟩;{exact .inl h0};{exact .inr ⟨g,cap,cur,rfl,hb,((Ue _ _ _ _ (hn g rfl)).trans (Ue _ _ _ _ (hn g rfl))).trans hg,rest⟩}
def rE{w wr:World}{K:Nat}(e:rl l=rs)(ek:Hid (rs.length=K))(ea:Hid (xK rs=a))(ho:gU w.heap.size wr (.S p K c) rs vs)(hb:Bw w wr):U0 w (rl l) (.returned (.tuple #[.S p K c,.I (a:Int)])) wr:=by
 have e1:=aa ek;have e2:=aa ea;subst e1 e2;rw[e];exact⟨p,c,vs,rfl,ho,hb⟩
def PT(l:LI)(rs:List R1)(a f:Nat):Prop:=
 FQ none (yl (l.length+1) l)=rs++FQ (mc rs) (yl f (l.drop a))/\xK rs=a/\f+rs.length=l.length+1/\rs.length<=a/\(∀r∈rs,r.2.length<=1000/\0<=r.1/\r.1<18446744073709551616)
def PT.stop(h:PT l rs a f)(h0:ke (l.drop a)=none):rl l=rs:=by
 unfold rl;rw[h.1,JD h0];simp[FQ]
def PT.bi7(h:PT l rs a f)(ha:a<=l.length){r:R1}(h0:ke (l.drop a)=some r)(h1:GH (mc rs) r.1=false):rl l=rs:=by
 obtain⟨f',rfl⟩:∃f',f=f'+1:=⟨f-1,by have:=h.2.2.1;have:=h.2.2.2.1;omega⟩;unfold rl;rw[h.1,rY h0];simp[FQ,h1]
def PT.next(h:PT l rs a f)(ha:a<=l.length){b:LI}(h0:ke (l.drop a)=some (s,b))(h1:GH (mc rs) s=true)(hb:b.length<=1000/\0<=s/\s<18446744073709551616):PT l (rs++[(s,b)]) (a+(14+b.length)) (f-1):=by
 obtain⟨h2,h3,h4,h5,h6⟩:=h;obtain⟨f',rfl⟩:∃f',f=f'+1:=⟨f-1,ae⟩;refine⟨?_,by rw[vT];simp[xK];omega,bj,bj,?_⟩;{rw[h2,rY h0,Fm,yC,show a+(14+b.length)=a+(b.length+14) by omega,<-ND];simp[FQ,h1,Je]};{intro r hr;rcases gR.1 hr with h|h;{exact h6 r h};{simp at h;subst h;exact hb}}
set_option maxRecDepth 100000 in
theorem MP{len cap:Nat}{w:World}(hR:Rd w (.S p len cap) l)(hB:aM l)(el:Hid (l.length=len))(hlen:len<=1048576)(sG:len<=cap)(Dy:cap<=maxLen):Cp 17 #[.S p len cap] w (U0 w (rl l)):=by
 have HRB:=af (ah hR hB);clear hR hB;go_enter func17,ntmps17;go_wp2
 go_loopw[4,5](fun ov i wr=>∃(a f K:Nat)(rs:List R1)(pv:OA)(cv:Nat)(vs:List Value),a<=len/\i=.I a/\ov=.S pv K cv/\Hid (rs.length=K)/\Hid (PT l rs a f)/\gU w.heap.size wr (.S pv K cv) rs vs/\Bw w wr) (fun _ i _=>len+1-(intOf i).toNat)
 exact⟨0,len+1,0,[],none,0,[],gq _,rfl,rfl,rfl,⟨by rw[<-aa el];rfl,rfl,by rw[<-aa el];rfl,jS _,ai⟩,gU.nil _ _,cW _ _⟩;{
 obtain⟨a,f,K,rs,pv,cv,vs,Sn,rfl,rfl,eK,hinv,ho,aG⟩:=hrel;have hKa:K<=1048576:=by have:=hinv.2.2.2.1;have:=aa eK;omega
 obtain⟨A14,e14⟩:∃A:Nat,(a:Int)+14=(A:Int):=⟨a+14,ae⟩;obtain⟨A2,e2⟩:∃A:Nat,(a:Int)+2=(A:Int):=⟨a+2,ae⟩;obtain⟨XD,e10⟩:∃A:Nat,(a:Int)+10=(A:Int):=⟨a+10,ae⟩;have aU4:A14=a+14:=ae;have Ss:A2=a+2:=ae;have aU5:XD=a+10:=ae;have HA:=af (ah aU4 (ah Ss aU5));by_cases h14:A14<=len;{
 have bv5:=iE A14 len;have eln:=aa el;obtain⟨b,o,rfl,-,-⟩:=HRB.1.at ae;obtain⟨m,em⟩:=au (l.drop a);have hBm:aM m:=by rw[em];exact HRB.2.drop a
 have hml:m.length=len-a:=by rw[em,Aw];omega
 have hRm:∀d,Rd w (.S (some ⟨b,o+a,none⟩) (len-a) d) m:=fun d=>HRB.1.cut a len Sn ae _ (.inr rfl) d m (by rw[em,kq ae]);obtain⟨N,eN⟩:=au (CK m);obtain⟨Mp,UG⟩:=Up hBm;rw[<-eN]at Mp UG;obtain⟨Z,eZ⟩:∃Z:Nat,(A14:Int)+(N:Int)=(Z:Int):=⟨A14+N,ae⟩;obtain⟨E,eE⟩:∃E:Nat,(XD:Int)+(N:Int)=(E:Int):=⟨XD+N,ae⟩;have r1:∀(d:Nat)(w':World),Bw w w'->Rd w' (.S (some ⟨b,o+a,none⟩) 2 d) (sub m 0 2):=fun d w' bL=>((hRm d).below bL).cut 0 2 ae ae _ (.inr rfl) d _ rfl;have s1:(sub m 0 2).length=2:=dF ae;have g1:=iE a A2;have g2:=iE A2 cap;have g3:cap≠a:=ae;have g4:A2-a=2:=ae;have HM:=af (ah em (ah hBm (ah hml (ah hRm (ah eN Mp)))));have HZ:=af (ah eZ eE);have Cr:=af r1;have Cq:=af s1;clear em hBm hml hRm eN Mp r1 s1 aU4 Ss aU5 eln;unfold maxLen at Dy;go_wp2_with fail;refine(sy (sub m 0 2) _ _ 2 Cq _ (aa Cr _ _ aG) (HM.2.1.sub 0 2) ae ae ic).mono ?_;rintro e w1⟨rfl,aA⟩;rw[HM.2.2.2.2.2];have b1:=aj aG aA;have ho1:=ho.below aA;clear aG aA ho Cr Cq;by_cases Li:len<Z\/1000<N;{
 have sE:=af (hinv.stop (by obtain⟨em,-,hml,-,eN,-⟩:=aa HM;have:=aa HA;rw[<-em];unfold ke;rw[<-eN,bN ae]))
 have Qe:=af hinv.2.1;by_cases hN:1000<N;{have Ln:=pW 1000 N;go_wp2;refine fL (v:=.tuple #[.S pv K cv,.I (a:Int)]) (by simp[results,results17,go_sem]) rfl (rE (aa sE) eK Qe ho1 b1)};{have Ln:¬(1000:Int)<(N:Int):=ae;have hZ':=aP len Z;go_wp2;refine fL (v:=.tuple #[.S pv K cv,.I (a:Int)]) (by simp[results,results17,go_sem]) rfl (rE (aa sE) eK Qe ho1 b1)}};{
 have Ln:¬(1000:Int)<(N:Int):=ae;have hZ':=du len Z;have Cd:N<=1000:=ae;have k1:=iE A2 XD;have k2:=iE XD cap;have k3:cap≠A2:=ae;have k4:=iE XD E;have k5:=iE E cap;have k6:cap≠XD:=ae;have k7:=iE a Z;have k8:=iE Z cap;have k9:XD-A2=8:=ae;have k10:E-XD=N:=ae;have k11:Z-a=14+N:=ae;have r2:∀(d:Nat)(w':World),Bw w w'->Rd w' (.S (some ⟨b,o+A2,none⟩) 8 d) (sub m 2 10):=fun d w' bL=>by have:=(((HM.2.2.2.1 d).below bL).cut 2 10 ae (by have:=HM.2.2.1;omega) (some ⟨b,o+a+2,none⟩) (.inr rfl) d _ rfl);rw[show o+A2=o+a+2 by have:=aa HA;omega];exact this
 have r3:∀(d:Nat)(w':World),Bw w w'->Rd w' (.S (some ⟨b,o+XD,none⟩) N d) (sub m 10 (10+N)):=fun d w' bL=>by have:=(((HM.2.2.2.1 d).below bL).cut 10 (10+N) ae (by have:=HM.2.2.1;omega) (some ⟨b,o+a+10,none⟩) (.inr rfl) d _ rfl);rw[show 10+N-10=N by omega]at this;rw[show o+XD=o+a+10 by have:=aa HA;omega];exact this
 have r4:∀(d:Nat)(w':World),Bw w w'->Rd w' (.S (some ⟨b,o+a,none⟩) (14+N) d) (sub m 0 (14+N)):=fun d w' bL=>
  ((HM.2.2.2.1 d).below bL).cut 0 (14+N) ae (by have:=HM.2.2.1;omega) (some ⟨b,o+a,none⟩) (.inr rfl) d _ rfl
 have U8:=af r2;have zI:=af r3;have HR4:=af r4;have tC:Hid ((sub m 2 10).length=8):=dF (by have:=HM.2.2.1;omega);have HS3:Hid ((sub m 10 (10+N)).length=N):=by show _=_;rw[dF (by have:=HM.2.2.1;omega)];omega
 have HS4:Hid ((sub m 0 (14+N)).length=14+N):=by show _=_;rw[dF (by have:=HM.2.2.1;omega)];omega
 obtain⟨sq0,sq1⟩:=ki (HM.2.1.sub 2 10) (by rw[aa tC];omega);clear r2 r3 r4;have wA2:=dZ A2;have bS8:=dZ XD;have bS7:=dZ A14;have wE:=dZ E;have wZ:=dZ Z;have jc:=HM.2.1.sub 2 10;have hl8:(8:Nat)<=8:=jS _;have hl9:8<=cap-A2:=ae;have bp4:cap-A2<=maxLen:=by unfold maxLen;omega
 have bp3:N<=2097152:=ae;have xB:∀(vs:Array Value)(w:World),(callFunc 39 vs).run prog w=.ok (.enter 39 vs) w:=fun vs w=>bg;have hcg:∀(vs:Array Value)(w:World),(callFunc 40 vs).run prog w=.ok (.enter 40 vs) w:=fun vs w=>bg
 go_upto_region 6 with fail
 go_cut[7](fun rp wc=>∃R pb cb,rp=.pointer (some ⟨R,0,none⟩)/\w1.heap.size<=R/\QA wc R (.U (num (sub m 2 10))) (.S pb N cb)/\Own w1.heap.size wc (.S pb N cb) (sub m 10 (10+N))/\Bw w1 wc)
 case first=>(
 obtain⟨v,oK⟩:=au w1.drew;have BV:Hid (Bw w1 v):=by rw[oK];exact ay.drew
 refine dy (fun _=>True) jW fun hS=>?_;rw[<-oK];clear oK;refine mn 0 1 2 3 4 5 7 8 hS ?_;refine mu 9 10 11 12 hS ?_;refine jZ 13 14 hS ?_
 iterate 3 (
  all_goals(first|refine Mg 6 (fun KK hK=>?_)|refine Mg 15 (fun KK hK=>?_)|refine Mg 17 (fun KK hK=>?_)|refine TJ 6 17 (fun KK hK=>?_) (fun KK hK=>?_)|refine TJ 15 17 (fun KK hK=>?_) (fun KK hK=>?_))
  all_goals(first
   |(
    refine Tag.go 6 ?_;refine jJ (sy (sub m 2 10) _ _ 8 tC _ (aa U8 _ _ (aj b1 BV)) jc hl8 hl9 bp4) ?_;rintro z9 v'⟨rfl,hb⟩;refine⟨_,rfl,?_⟩)
   |(
    refine Tag.go 15 ?_;refine jJ (iV (n:=N) (l:=sub m 10 (10+N)) HS3 (aa zI _ _ (aj b1 BV)) bp3) ?_;rintro z9 v'⟨p3,c3,rfl,o3,hb⟩;refine⟨_,rfl,?_⟩
    try have RN:=af (fun b e=>show b≠R by have:=(Own.lt o3 b e).1;have:=RC.1;omega)
    have RO:=af (ah (Own.mono o3 BV.size) (fun b e=>(Own.lt o3 b e).2));have T16:=jW;clear o3)
   |(
    refine Tag.go 17 ?_;go_simp;obtain⟨v',hv,hb,zv,cv',-⟩:=aC v #[.U 0,.S none 0 0] 54;rw[<-hv]
    try have RN:=af (fun b e=>show b≠v.heap.size by have:=RO.2 b e;omega)
    have RB:=af BV.size;obtain⟨R,hR⟩:=au v.heap.size;rw[<-hR]at cv'⊢
    try rw[<-hR]at RN
    rw[<-hR]at RB;have RC:=af (ah (by omega:R<v'.heap.size) cv');clear hv zv cv' hR))
  all_goals(
   have zb:=hb.size
   try have RO:=af (ah (Own.below RO.1 hb) (fun b e=>kV (RO.2 b e) zb))
   try have RC:=af (ah (kV RC.1 zb) (RC.2.below RC.1 hb))
   have BV:=af (aj BV hb);refine gr hK jW fun hS=>?_;clear hK KK hb zb
   try(
    clear T16;refine tk 16 hS (h:=?_);simp only[Act.put,xa,xb,xc])
   rename World=>v
   skip))
 all_goals(
  refine dE 18 (fun KK hK=>?_);have n0:=RC.2.1 0 _ rfl;have n1:=RC.2.1 1 _ rfl;have nf:=RC.2.2;go_simp;refine gr hK jW fun hS=>?_;clear hK KK hS;refine di ?_;go_wp2_with fail;go_meet;refine⟨R,p3,c3,rfl,aa RB,⟨by simp[go_sem,n0,n1],by simp[go_sem,n0,n1]⟩,?_,(aa BV |>.setCell (by exact aa RB) _).setCell (by exact aa RB) _⟩;exact Own.bU8 RO.1 RN _ _))
 case rest=>(
 obtain⟨R,pb,cb,rfl,oQ,hA,oB,Cc⟩:=hcut;have bc:=aj b1 Cc;have mP:=ho1.below Cc;have bv0:=HM.2.1.sub 10 (10+N);have u4:=dK HS4 (aa HR4 (cap-a) _ bc.drew);have hch:∀(vs:Array Value)(w:World),(callFunc 48 vs).run prog w=.ok (.enter 48 vs) w:=fun vs w=>bg;clear Cc xB hcg U8 zI tC;go_wp2_with fail;refine dy (fun w'=>QA w' R (.U (num (sub m 2 10))) (.S pb N cb)/\(convert 22 9 (.S (some ⟨b,o+a,none⟩) (14+N) (cap-a))).run prog w'=.ok (.string (aN (sub m 0 (14+N)))) w') ⟨hA,u4⟩ fun hS=>?_;refine mn 0 3 4 5 6 7 8 9 hS ?_;refine tn 10 hS ?_;refine ry [1] ?_;refine cn (fun KK hK=>?_) ?_;{
 refine iq aH (f:=48) aH (v1:=xZ (num (sub m 2 10)) (.S pb N cb)) aH (fun _=>hch _ _) (QP (s:=num (sub m 2 10)) (p:=pb) (c:=cb) (n:=N) (l:=sub m 10 (10+N)) HS3 (oB.rd.below (cW wc.heap.size wc).drew) bv0 Cd sq0 sq1) ?_;rintro e w5⟨p5,c5,rfl,o5,bs2⟩;refine⟨_,rfl,?_⟩;have dS:Bw wc w5:=aj (cW wc.heap.size wc).drew bs2;have A5:=hA.below dS;have u5:=dK HS4 (aa HR4 (cap-a) _ (aj bc dS));have e5:=dK (l:=Cu (num (sub m 2 10)) (sub m 10 (10+N))) (by rw[Bl,aa HS3]) o5.rd;refine hK.out _ _ ?_ (fun hS=>?_);{exact⟨A5,u5⟩};clear hK KK
 try simp only[Act.put,aC6,Ff,YV]
 refine dE 2 fun KK hK=>?_;go_simp;refine hK.out _ _ ?_ (fun hS=>?_);{exact⟨A5,u5⟩};clear hK KK
 try simp only[Act.put,aC6,Ff,YV]
 refine tn 11 hS ?_;refine di ?_;have b5:=aj bc dS;have GK:=mP.below dS;have oB5:Own w.heap.size w5 (.S pb N cb) (sub m 10 (10+N)):=Own.mono (Own.below oB dS) b1.size;have av2:∀u'∈vs,GC u' (.S pb N cb):=fun u' hu' bb e1 e2=>by have h1:=ho1.lt u' hu' bb e1;have h2:=(Own.lt oB bb e2).1;omega
 have HC:=af (qx (Na (s:=num (sub m 2 10)) bv0) (HM.2.1.sub 0 (14+N)));have HNB:=af (show¬(m.length<14+N\/1000<N) by have:=HM.2.2.1;have:=aa HA;omega);have zh:=af (show a+(14+N)<=len by have:=aa HA;omega);clear dS bs2 o5 hA u4 mP bc oB hS u5 e5 k1 k2 k3 k4 k5 k6 k7 k8 k9 k10 k11 g1 g2 g3 g4 wA2 bS8 bS7 wE wZ HR4 HS4 hch hl8 hl9 bp4 bp3 jc ho1 Li hZ' e2 e10 e14 eZ eE bv5 HZ;have Qe:=af hinv.2.1;rw[aa HC];clear HC;by_cases hq:Cu (num (sub m 2 10)) (sub m 10 (10+N))=sub m 0 (14+N);{
 have vk:ke (l.drop a)=some (num (sub m 2 10),sub m 10 (10+N)):=by obtain⟨em,-,hml,-,eN,-⟩:=aa HM;have:=aa HA;rw[<-em];unfold ke;rw[<-eN,bH (aa HNB),bN hq]
 have Tn:=af vk;rw[Aq hq,Bool.not_true];clear hq vk;by_cases hK0:K=0;{
 subst hK0;have iC:GH (mc rs) (num (sub m 2 10))=true:=by rw[Ku (aa eK)];rfl
 have ta:=af iC;clear iC;go_wp2_with(at_builtin;refine tO rfl rfl (B:=w.heap.size) (v:=.S pv 0 cv) (rs:=rs) (vs:=vs) (n:=0) eK w5.heap.size rfl rfl (GK.below (ay.alloc ao _)) (r:=(num (sub m 2 10),sub m 10 (10+N))) (u:=.S pb N cb) ai ai (Own.below oB5 (ay.alloc ao _)) av2 ae (by have:=b5.size;simp;omega) ?_);intro p9 c9 w9 hR9 xd;have b9:Bw w w9:=(b5.alloc b5.size _).grown xd (by have:=b5.size;simp;omega) (fun bb e=>(GK.TG bb e).1);have eN3:=aa HS3;have hnx:=af (hinv.next (by rw[aa el];exact Sn) (aa Tn) (aa ta) ⟨ae,sq0,sq1⟩);have eKn:Hid ((rs++[(num (sub m 2 10),sub m 10 (10+N))]).length=0+1):=by show _=_;rw[ig,aa eK];rfl
 clear xd GK oB5 av2 b5 A5;go_wp2;go_roundw
 case rel=>(
 refine⟨a+(14+N),f-1,0+1,_,p9,c9,_,zh,by go_num,rfl,eKn,?_,hR9,b9⟩;have:=aa hnx;rw[eN3]at this;exact this)
 case measure=>simp[intOf];omega}
 {
 have hkr:K-1<rs.length:=by rw[aa eK];omega
 obtain⟨⟨t,bt⟩,Fx⟩:∃r,rs[K-1]?=some r:=⟨_,aO hkr⟩;have OO:mc rs=some t:=by unfold mc;rw[YQ,aa eK,Fx];rfl
 obtain⟨t0,t1⟩:=hinv.2.2.2.2 _ (aS Fx) |>.2;obtain⟨u,hu⟩:∃u,vs[K-1]?=some u:=⟨_,aO (by rw[GK.len];exact hkr)⟩;rcases id GK.row.2 with⟨_,h0⟩|⟨g,xq,cur,ev,La,hgg,_,_,_,_⟩;{have:=aa eK;omega};{
 simp only[dU]at ev;obtain⟨rfl,-,rfl⟩:=ev;have Q8:=GK.row;rw[aa eK]at Q8;have d0:=(Q8.cellAt (2*(K-1)) ae).trans (mW rs vs (K-1) _ u Fx hu).1;rw[Zj]at d0;dsimp only at d0;obtain⟨K1,eK1⟩:=aI (K-1);rw[eK1]at d0;have Ph:(K:Int)-1=(K1:Int):=ae;have UG:=pW 0 K;have UF:=aP K1 K;have hK4:0<K:=ae;have Sr:K1<=1048578:=ae;have Xq:(K1:Int)<=1048578:=ae;have Xp:=dZ K1;clear hkr Fx hu Q8 hgg eK1;by_cases iC:GH (some t) (num (sub m 2 10))=true;{
 have ta:Hid (GH (mc rs) (num (sub m 2 10))=true):=by show _=_;rw[OO];exact iC
 have e1:t≠18446744073709551615/\num (sub m 2 10)=t+1:=by simpa[GH]using iC
 have f1:(t==18446744073709551615)=false:=by simp[e1.1]
 have f2:IntKind.u64.wrap (t+1)=t+1:=u64_wrap_id _ ae ae;have f3:(num (sub m 2 10) != t+1)=false:=by simp[e1.2]
 clear iC OO e1;go_wp2_with(at_builtin;refine tO rfl rfl (B:=w.heap.size) (v:=.T g K cv) (rs:=rs) (vs:=vs) (n:=K) eK w5.heap.size rfl rfl (GK.below (ay.alloc ao _)) (r:=(num (sub m 2 10),sub m 10 (10+N))) (u:=.S pb N cb) ai ai (Own.below oB5 (ay.alloc ao _)) av2 ae (by have:=b5.size;simp;omega) ?_);intro p9 c9 w9 hR9 xd;have b9:Bw w w9:=(b5.alloc b5.size _).grown xd (by have:=b5.size;simp;omega) (fun bb e=>(GK.TG bb e).1);have eN3:=aa HS3;have hnx:=af (hinv.next (by rw[aa el];exact Sn) (aa Tn) (aa ta) ⟨ae,sq0,sq1⟩);have eKn:Hid ((rs++[(num (sub m 2 10),sub m 10 (10+N))]).length=K+1):=by show _=_;rw[ig,aa eK];rfl
 clear xd GK oB5 av2 b5 A5;go_wp2;go_roundw
 case rel=>(
 refine⟨a+(14+N),f-1,K+1,_,p9,c9,_,zh,by go_num,rfl,eKn,?_,hR9,b9⟩;have:=aa hnx;rw[eN3]at this;exact this)
 case measure=>simp[intOf];omega}
 {
 have aP4:GH (some t) (num (sub m 2 10))=false:=by simpa using iC
 have sE:=af (hinv.bi7 (by rw[aa el];exact Sn) (aa Tn) (by rw[OO];exact aP4));by_cases ht:t=18446744073709551615;{
 have f1:(t==18446744073709551615)=true:=by simp[ht]
 clear iC aP4 OO ht;go_wp2;refine fL (v:=.tuple #[.T g K cv,.I (a:Int)]) (by simp[results,results17,go_sem]) rfl (rE (aa sE) eK Qe GK b5)};{
 have cg:num (sub m 2 10)≠t+1:=by intro e;apply iC;simp[GH,ht,e]
 have f1:(t==18446744073709551615)=false:=by simp[ht]
 have f2:IntKind.u64.wrap (t+1)=t+1:=u64_wrap_id _ ae ae;have f3:(num (sub m 2 10) != t+1)=true:=by simp[cg]
 clear iC aP4 OO ht cg;go_wp2;refine fL (v:=.tuple #[.T g K cv,.I (a:Int)]) (by simp[results,results17,go_sem]) rfl (rE (aa sE) eK Qe GK b5)}}}}};{
 have sE:=af (hinv.stop (by obtain⟨em,-,hml,-,eN,-⟩:=aa HM;have:=aa HA;rw[<-em];unfold ke;rw[<-eN,bH (aa HNB),bH hq]))
 rw[tg hq,Zc];clear hq;go_wp2;refine fL (v:=.tuple #[.S pv K cv,.I (a:Int)]) (by simp[results,results17,go_sem]) rfl (rE (aa sE) eK Qe GK b5)}};exact AllReadyH.nil)}}
 {have bv5:¬(A14:Int)<=(len:Int):=ae;have sE:=af (hinv.stop (Ef (by rw[Aw,aa el];omega)));have Qe:=af hinv.2.1;clear aU4 Ss aU5;go_wp2;refine fL (v:=.tuple #[.S pv K cv,.I (a:Int)]) (by simp[results,results17,go_sem]) rfl (rE (aa sE) eK Qe ho aG)}}
def gp{w u:World}(h:Below w.heap.size w u){o:Obj}:Below w.heap.size w (u.alloc o):=h.alloc h.size o
def XG{v:Nat}{w:World}(h64:v<18446744073709551616)(eM:Hid ((vi v).length=M)):Cp 145 #[.int .u64 v] w fun e w'=>∃p' c',e=.returned (.slice p' M c')/\Own w.heap.size w' (.slice p' M c') (vi v)/\Below w.heap.size w w':=by
 have e:=aa eM;subst e;exact iQ h64
def UT{x:Value}{t:TypeId}(h:b=u.heap.size):(u.alloc (.cells #[x] t)).cell? ⟨b,0,none⟩=some x:=by subst h;simp
def US(h:u.cell? ⟨b,o,none⟩=some v){ob:Obj}:(u.alloc ob).cell? ⟨b,o,none⟩=some v:=ag h (ay.alloc ao _)
def UR(h:u.cell? ⟨b,o,none⟩=some v):u.drew.cell? ⟨b,o,none⟩=some v:=h
def rd1(h:u.cell? ⟨b,0,none⟩=some (.int .u8 y)):Rd u (.slice (some ⟨b,0,none⟩) 1 1) [y]:=by
 refine⟨_,_,rfl,.inr ⟨b,0,rfl,fun i hi=>?_⟩⟩;have e:i=0:=by simpa using hi
 subst e;simpa using h
def as4(e:Hid (lm=cat [l0,l1,l2,l3,l4]))(en:Hid (lm.length=N))(r0:Rd X v0 l0)(r1:Rd X v1 l1)(r2:Rd X v2 l2)(r3:Rd X v3 l3)(r4:Rd X v4 l4)(hl:N<=4194304){G:Nat}(hG:G=X.heap.size):Cp 62 #[.slice (some ⟨G,0,none⟩) 5 5] (X.alloc (.cells #[v0,v1,v2,v3,v4] 22)) fun e w'=>∃p' c',e=.returned (.slice p' N c')/\Own X.heap.size w' (.slice p' N c') lm/\Below X.heap.size X w':=by
 subst hG;have ba:Below X.heap.size X (X.alloc (.cells #[v0,v1,v2,v3,v4] 22)):=ay.alloc ao _;refine(fM [l0,l1,l2,l3,l4] 5 rfl e en (Yt ai ai ai ai ai (r0.below ba) (r1.below ba) (r2.below ba) (r3.below ba) (r4.below ba)) hl ae).mono ?_;rintro e w'⟨p',c',rfl,o,hb⟩;exact⟨p',c',rfl,Own.mono o ai,aj ba hb⟩
def cn2{w X x4:World}(fk:Below X.heap.size X x4)(oj:Own X.heap.size x4 v l)(hX:Below w.heap.size w X):Own w.heap.size x4 v l/\Below w.heap.size w x4:=⟨Own.mono oj hX.size,aj hX fk⟩
def Dq(k s:Nat)(P:LI)(f:Nat)(V:LI):LI:=[(k:Int)]++(vi s++(tx P++([(f:Int)]++tx V)))
theorem vE(k:Nat)(jQ:1<=k)(qK:k<=13){se pa:Bool}{vs:Int}{sq:Bool}(s f:Nat)(hs:s<18446744073709551616)(hf:f<=2){p q:OA}{n m c d:Nat}(P V:LI)(ep:Hid (P.length=n))(ev:Hid (V.length=m)){w:World}(hp:Rd w (.slice p n c) P)(hv:Rd w (.slice q m d) V)(hn:n<=1048576)(hm:m<=1048576)(hT:vM w 0 (k*7) se pa lo hi vs sq true)(eB:Hid (fmF se pa lo hi vs sq s f n m e g=true))(eN:Hid ((Dq k s P f V).length=N)):Cp 152 #[ya k s (.slice p n c) f (.slice q m d) e g] w fun r w'=>∃p' c',r=.returned (.slice p' N c')/\Own w.heap.size w' (.slice p' N c') (Dq k s P f V)/\Below w.heap.size w w':=by
 have h1:=dw 1 k;have h2:(k:Int)<=13:=ae;have h3:(k:Int)<14:=ae;have h4:k<14:=ae;have h5:=dw 0 k;have wk:IntKind.u8.wrap (k:Int)=(k:Int):=by rw[IntKind.wrap_u8];omega
 have wf:IntKind.u8.wrap (f:Int)=(f:Int):=by rw[IntKind.wrap_u8];omega
 have HP:=af fun(w':World)(hb:Below w.heap.size w w')=>hp.below hb;have HV:=af fun(w':World)(hb:Below w.heap.size w w')=>hv.below hb;clear hp hv;go_enter func152,ntmps152;go_wp2_with fail;obtain⟨W,hW⟩:=au (w.alloc (.cells #[.int .i64 k,.int .u64 s,.slice p n c,.int .i64 f,.slice q m d,.int .u64 e,.int .u64 g] 56));have bW:=dO hW;have hA:rW W w.heap.size (.int .i64 k) (.int .u64 s) (.slice p n c) (.int .i64 f) (.slice q m d) (.int .u64 e) (.int .u64 g):=by rw[hW];simp[rW,go_sem]
 have zW:w.heap.size<W.heap.size:=by rw[hW];simp
 have hTW:=hT.below bW;rw[<-hW];clear hW hT;refine(nS jQ qK hTW eB).mono ?_;rintro r w1⟨rfl,aA⟩;have Pk:=hA.below aA;have hT1:=hTW.below aA;have b1:=aj bW aA;have z1:=aA.size;clear hA hTW bW aA;obtain⟨a0,a1,a2,a3,a4,a5,a6⟩:=Pk;obtain⟨t0,t1,t2,t3,t4,t5,t6⟩:=hT1;obtain⟨M,eM⟩:∃M,Hid ((vi s).length=M):=⟨_,rfl⟩;obtain⟨N1,Xs⟩:∃M,Hid ((tx P).length=M):=⟨_,rfl⟩;obtain⟨N2,eN2⟩:∃M,Hid ((tx V).length=M):=⟨_,rfl⟩;have Pk:rW w1 w.heap.size (.int .i64 k) (.int .u64 s) (.slice p n c) (.int .i64 f) (.slice q m d) (.int .u64 e) (.int .u64 g):=⟨a0,a1,a2,a3,a4,a5,a6⟩;have EE:Hid (Dq k s P f V=cat [[(k:Int)],vi s,tx P,[(f:Int)],tx V]):=by show _=_;rw[cr2];rfl
 have hNb:N<=4194304:=by have h1:=ew s;have h2:=tS P;have h3:=tS V;have h4:=aa eN;rw[Dq]at h4;simp only[ig,iU,yr]at h4;rw[aa ep]at h2;rw[aa ev]at h3;omega
 go_wp2_with fail;clear a0 a1 a2 a3 a4 a5 a6 t0 t1 t2 t3 t4 t5 t6
 go_region_held3 (fun w'=>rW w' w.heap.size (.int .i64 k) (.int .u64 s) (.slice p n c) (.int .i64 f) (.slice q m d) (.int .u64 e) (.int .u64 g)) (exact rW.below Pk (by repeat(first|with_reducible exact cW _ _|with_reducible refine gp ?_|with_reducible refine EH ?_|with_reducible refine aj ?_ fk|with_reducible refine aj ?_ bf|with_reducible refine aj ?_ aF|with_reducible refine aj ?_ aA)))
  (first
   |(go_at_call 145;with_reducible refine(XG hs eM).mono ?_;rintro r x1⟨pv,cv,rfl,ov,aA⟩)
   |(go_at_call 172;with_reducible refine(lK (p:=p) (c:=c) ep (by exact aa HP _ (by repeat(first|with_reducible exact b1|with_reducible refine gp ?_|with_reducible refine EH ?_|with_reducible refine aj ?_ bf|with_reducible refine aj ?_ aF|with_reducible refine aj ?_ aA))) hn Xs).mono ?_;rintro r x2⟨pt,ct,rfl,ot,aF⟩)
   |(go_at_call 172;with_reducible refine(lK (p:=q) (c:=d) ev (by exact aa HV _ (by repeat(first|with_reducible exact b1|with_reducible refine gp ?_|with_reducible refine EH ?_|with_reducible refine aj ?_ bf|with_reducible refine aj ?_ aF|with_reducible refine aj ?_ aA))) hm eN2).mono ?_;rintro r x3⟨pu,cu,rfl,ou,bf⟩)
   |(go_at_call 62;with_reducible refine(as4 EE eN (by exact rd1 (by repeat(first|with_reducible exact UT ai|with_reducible refine US ?_|with_reducible refine UR ?_|with_reducible refine ag ?_ bf|with_reducible refine ag ?_ aF|with_reducible refine ag ?_ aA))) (by exact Rd.below ov.rd (by repeat(first|with_reducible exact cW _ _|with_reducible refine gp ?_|with_reducible refine EH ?_|with_reducible refine aj ?_ bf|with_reducible refine aj ?_ aF))) (by exact Rd.below ot.rd (by repeat(first|with_reducible exact cW _ _|with_reducible refine gp ?_|with_reducible refine EH ?_|with_reducible refine aj ?_ bf|with_reducible refine aj ?_ aF))) (by exact rd1 (by repeat(first|with_reducible exact UT ai|with_reducible refine US ?_|with_reducible refine UR ?_|with_reducible refine ag ?_ bf|with_reducible refine ag ?_ aF|with_reducible refine ag ?_ aA))) (by exact Rd.below ou.rd (by repeat(first|with_reducible exact cW _ _|with_reducible refine gp ?_|with_reducible refine EH ?_|with_reducible refine aj ?_ bf|with_reducible refine aj ?_ aF))) ae ai).mono ?_;rintro r x4⟨pj,cj,rfl,oj,fk⟩))
 all_goals(
  have sE:=cn2 (w:=w) fk oj (by repeat(first|with_reducible exact b1|with_reducible refine gp ?_|with_reducible refine EH ?_|with_reducible refine aj ?_ bf|with_reducible refine aj ?_ aF|with_reducible refine aj ?_ aA));clear fk oj aA aF bf ov ot ou;go_wp2;go_ret;exact⟨pj,cj,rfl,sE⟩)
def FR{f:Int}{n m:Nat}(h1:1<=k)(h2:k<=13)(h:DA k s f n m e g=true):0<=f/\f<=2:=by
 unfold DA fmF at h;simp only[fu,jg]at h;obtain⟨-,-,UC,Z9,-⟩:=h;rcases kinds h1 h2 with rfl|rfl|rfl|rfl|rfl|rfl|rfl|rfl|rfl|rfl|rfl|rfl|rfl<;>simp[rowOf]at UC Z9<;>omega
def rW.Te{w w':World}(h:rW w b v0 v1 v2 v3 v4 v5 v6)(hb:Below B w w')(hl:b<B):rW w' b v0 v1 v2 v3 v4 v5 v6:=by
 have e:=fun o=>hb.cell (p:=⟨b,o,none⟩) hl;exact⟨(e 0).trans h.1,(e 1).trans h.2.1,(e 2).trans h.2.2.1,(e 3).trans h.2.2.2.1,(e 4).trans h.2.2.2.2.1,(e 5).trans h.2.2.2.2.2.1,(e 6).trans h.2.2.2.2.2.2⟩
def Zv{K F:Int}(wk:IntKind.u8.wrap K=(k:Int))(wf:IntKind.u8.wrap F=(f:Int)){s:Nat}(hs:s<18446744073709551616){p q:OA}{n m c d:Nat}(ep:Hid (P.length=n))(ev:Hid (V.length=m)){w:World}(hp:Rd w (.S p n c) P)(hv:Rd w (.S q m d) V)(hn:n<=1048576)(hm:m<=1048576)(eN:Hid ((Dq k s P f V).length=N)):Cp 51 #[ya K s (.S p n c) F (.S q m d) e g] w fun r w'=>∃p' c',r=.returned (.S p' N c')/\Own w.heap.size w' (.S p' N c') (Dq k s P f V)/\Bw w w':=by
 have HP:=af fun(w':World)(hb:Bw w w')=>hp.below hb;have HV:=af fun(w':World)(hb:Bw w w')=>hv.below hb;clear hp hv;obtain⟨M,eM⟩:∃M,Hid ((vi s).length=M):=⟨_,rfl⟩;obtain⟨N1,Xs⟩:∃M,Hid ((tx P).length=M):=⟨_,rfl⟩;obtain⟨N2,eN2⟩:∃M,Hid ((tx V).length=M):=⟨_,rfl⟩;have hM:M<=10:=by have:=ew s;rw[aa eM]at this;omega
 have Jr:N1<=1048586:=by have:=tS P;rw[aa Xs,aa ep]at this;omega
 have xi:N2<=1048586:=by have:=tS V;rw[aa eN2,aa ev]at this;omega
 obtain⟨A1,Pk⟩:∃l,Hid (l=[(k:Int)]++vi s):=⟨_,rfl⟩;obtain⟨A2,Ss⟩:∃l,Hid (l=A1++tx P):=⟨_,rfl⟩;obtain⟨A3,hA3⟩:∃l,Hid (l=A2++[(f:Int)]):=⟨_,rfl⟩;have hA4:Hid (Dq k s P f V=A3++tx V):=by show _=_;rw[aa hA3,aa Ss,aa Pk,Dq];simp
 have lA1:Hid (A1.length=1+M):=by show _=_;rw[aa Pk,ig,aa eM];rfl
 have lA2:Hid (A2.length=1+M+N1):=by show _=_;rw[aa Ss,ig,aa lA1,aa Xs]
 have lA3:Hid (A3.length=1+M+N1+1):=by show _=_;rw[aa hA3,ig,aa lA2];rfl
 go_enter func51,ntmps51;go_wp2_with fail;obtain⟨W0,dV⟩:=au (w.alloc (.cells #[.I K,.U s,.S p n c,.I F,.S q m d,.U e,.U g] 56));have bW0:=dO dV;have hO0:rW W0 w.heap.size (.I K) (.U s) (.S p n c) (.I F) (.S q m d) (.U e) (.U g):=by rw[dV];simp[rW,go_sem]
 have zW0:W0.heap.size=w.heap.size+1:=by rw[dV];simp
 rw[<-dV];clear dV;have oo:Own W0.heap.size (W0.alloc (.cells #[.int .u8 (k:Int)] 5)) (.T W0.heap.size 1 1) [(k:Int)]:=Own.one W0 k;rw[zW0]at oo;obtain⟨W,hW⟩:∃W,W=W0.alloc (.cells #[.int .u8 (k:Int)] 5):=⟨_,rfl⟩;have bW:Bw w W:=by rw[hW];exact bW0.alloc bW0.size _
 have hO:rW W w.heap.size (.I K) (.U s) (.S p n c) (.I F) (.S q m d) (.U e) (.U g):=hO0.below (by rw[hW];exact ay.alloc ao _);have zW:w.heap.size+1<W.heap.size:=by rw[hW];simp;omega
 rw[<-hW]at oo⊢;clear hW bW0 hO0 zW0;refine(Ay 9 s _ ae hs ae M eM).mono ?_;rintro r x1⟨pv,cv,rfl,ov,aA⟩;have oo1:=Own.below oo aA;have hO1:=hO.below aA;have b1:=aj bW aA;have r1:Rd x1 (.S pv M cv) (vi s):=ov.rd;have z1:=aA.size;clear oo hO bW ov aA;obtain⟨a0,a1,a2,a3,a4,a5,a6⟩:=id hO1;go_wp2_with(at_builtin;refine bS rfl rfl (.T (w.heap.size+1) 1 1) Pk pv cv M eM rfl rfl oo1 r1 (by rw[aa eM];simp;omega) ae ?_);intro p2 c2 x2 o2 ga;have b2:=dt b1 ga oo1 ae ae;have hO2:=hO1.Te ((cW (w.heap.size+1) x1).grown ga ae (fun k e=>(oo1.lt k e).1)) ae;have z2:=ga.size;rw[aa lA1]at o2⊢;clear oo1 hO1 b1 r1 ga a0 a1 a2 a3 a4 a5 a6;obtain⟨a0,a1,a2,a3,a4,a5,a6⟩:=id hO2;go_wp2_with fail;refine(sw ep (aa HP _ b2) hn Xs).mono ?_;rintro r x3⟨pt,ct,rfl,ot,bf⟩;have o3:=Own.below o2 bf;have hO3:=hO2.below bf;have b3:=aj b2 bf;have r3:=ot.rd;have z3:=bf.size;clear o2 hO2 b2 ot bf a0 a1 a2 a3 a4 a5 a6;obtain⟨a0,a1,a2,a3,a4,a5,a6⟩:=id hO3;go_wp2_with(at_builtin;refine bS rfl rfl (.S p2 (1+M) c2) Ss pt ct N1 Xs rfl rfl o3 r3 (by rw[aa lA1,aa Xs];omega) ae ?_);intro p4 c4 x4 o4 sS;have b4:=dt b3 sS o3 ae ae;have hO4:=hO3.Te ((cW (w.heap.size+1) x3).grown sS ae (fun k e=>(o3.lt k e).1)) ae;have z4:=sS.size;rw[aa lA2]at o4⊢;clear o3 hO3 b3 r3 sS a0 a1 a2 a3 a4 a5 a6;obtain⟨a0,a1,a2,a3,a4,a5,a6⟩:=id hO4;go_wp2_with(at_builtin;refine eh rfl rfl (.S p4 (1+M+N1) c4) hA3 x4.heap.size rfl rfl (Own.below o4 (ay.alloc ao _)) ai (by rw[aa lA2];omega) bj ?_);intro p5 c5 x5 o5 ra;have o4A:=Own.below o4 (w':=x4.alloc (.cells #[.int .u8 (f:Int)] 5)) (ay.alloc ao _);have b5:=dt (b4.alloc b4.size _) ra o4A ae bj;have hO5:=(hO4.below (ay.alloc ao _)).Te ((cW (w.heap.size+1) _).grown ra bj (fun k e=>(o4A.lt k e).1)) ae;have z5:x4.heap.size+1<=x5.heap.size:=by have:=ra.size;simpa using this
 rw[aa lA3]at o5⊢;clear o4 o4A hO4 b4 ra a0 a1 a2 a3 a4 a5 a6;obtain⟨a0,a1,a2,a3,a4,a5,a6⟩:=id hO5;go_wp2_with fail;refine(sw ev (aa HV _ b5) hm eN2).mono ?_;rintro r x6⟨pu,cu,rfl,ou,jX⟩;have o6:=Own.below o5 jX;have b6:=aj b5 jX;have r6:=ou.rd;have z6:=jX.size;clear o5 hO5 b5 ou jX a0 a1 a2 a3 a4 a5 a6;go_wp2_with(at_builtin;refine bS rfl rfl (.S p5 (1+M+N1+1) c5) hA4 pu cu N2 eN2 rfl rfl o6 r6 (by rw[aa lA3,aa eN2];omega) ae ?_);intro p7 c7 x7 o7 hg7;have b7:=dt b6 hg7 o6 ae ae;rw[aa eN]at o7⊢;have o8:=Own.mono (B':=w.heap.size) o7 ae;clear o6 b6 r6 hg7 o7;go_wp2;go_ret;exact⟨p7,c7,rfl,o8,b7⟩
def Ur(qK:k<=13){s:Nat}(hs:s<18446744073709551616)(hf:f<=2){p q:OA}{n m c d:Nat}(ep:Hid (P.length=n))(ev:Hid (V.length=m)){w:World}(hp:Rd w (.S p n c) P)(hv:Rd w (.S q m d) V)(hn:n<=1048576)(hm:m<=1048576)(eN:Hid ((Dq k s P f V).length=N)):Cp 51 #[ya k s (.S p n c) f (.S q m d) e g] w fun r w'=>∃p' c',r=.returned (.S p' N c')/\Own w.heap.size w' (.S p' N c') (Dq k s P f V)/\Bw w w':=
 Zv (K:=k) (F:=f) (by rw[IntKind.wrap_u8];omega) (by rw[IntKind.wrap_u8];omega) hs (e:=e) (g:=g) ep ev hp hv hn hm eN
def Yp{s:Nat}(hs:s<18446744073709551616)(hP:P.length<18446744073709551616)(hV:V.length<18446744073709551616):oB (some (Dq k s P f V))=((k:Int),some (vi s++(tx P++([(f:Int)]++tx V))))/\oV (some (vi s++(tx P++([(f:Int)]++tx V))))=((s:Int),some (tx P++([(f:Int)]++tx V)))/\oT (some (tx P++([(f:Int)]++tx V)))=(P,some ([(f:Int)]++tx V))/\oB (some ([(f:Int)]++tx V))=((f:Int),some (tx V))/\oT (some (tx V))=(V,some []):=by
 refine⟨rfl,?_,?_,rfl,?_⟩;{rw[oV,TF _ hs]};{rw[oT,Yj _ hP]};{have:=Yj [] hV;rw[CE]at this;rw[oT,this]}
def Iv(l:LI)(k s:Nat)(P:LI)(f:Nat)(V:LI):Prop:=1<=k/\k<=13/\s<18446744073709551616/\f<=2/\DA k s f P.length V.length 0 0=true/\joR k=true/\l=Dq k s P f V
theorem QS{c n:Nat}(en:Hid (l.length=n)){w:World}(h:Rd w (.S p n c) l)(hb:aM l)(hl:n<=1048576)(vG:n<=c){k f:Int}(e1:Hid (oB (some l)=(k,o1)))(e2:Hid (oV o1=(s,o2)))(e3:Hid (oT o2=(P,o3)))(e4:Hid (oB o3=(f,o4)))(e5:Hid (oT o4=(V,o5))){NP NV:Nat}(eP:Hid (P.length=NP))(eV:Hid (V.length=NV))(la:Hid (∀K S F:Nat,k=K->s=S->f=F->¬Iv l K S P F V)):Cp 18 #[.S p n c] w fun e w'=>e=.returned (.tuple #[ya 0 0 (.S none 0 0) 0 (.S none 0 0) 0 0,.I 13])/\Bw w w':=by
 have HB:=af hb;have S0:Hid (jM n l (some l)):=jM.start en;have S1:Hid (jM n l o1):=by have:=Ao (aa en) (aa S0);rw[aa e1]at this;exact this
 have S2:Hid (jM n l o2):=by have:=gQ (aa en) (aa S1);rw[aa e2]at this;exact this
 have S3:Hid (jM n l o3):=by have:=Es (aa en) (aa S2);rw[aa e3]at this;exact this
 have S4:Hid (jM n l o4):=by have:=Ao (aa en) (aa S3);rw[aa e4]at this;exact this
 have hNP:NP<=1048576:=by have:=(qF hb (aa S2)).2;rw[aa e3]at this;rw[<-aa eP];exact fW this hl
 have hNV:NV<=1048576:=by have:=(qF hb (aa S4)).2;rw[aa e5]at this;rw[<-aa eV];exact fW this hl
 have a0:mI n (some l)=0:=by simp[mI,aa en]
 obtain⟨A1,eA1⟩:=aI (mI n o1);obtain⟨A2,eA2⟩:=aI (mI n o2);obtain⟨A3,eA3⟩:=aI (mI n o3);obtain⟨A4,eA4⟩:=aI (mI n o4);obtain⟨A5,eA5⟩:=aI (mI n o5);have c1:=fun w'(bL:Bw w w')=>oe en (h.below bL) hb hl S0 e1;rw[a0,eA1]at c1;have c2:=fun w'(bL:Bw w w')=>An en (h.below bL) hb hl S1 e2;rw[eA1,eA2]at c2;have c3:=fun w'(bL:Bw w w')=>od en (h.below bL) hb hl vG S2 e3 eP;rw[eA2,eA3]at c3;have c4:=fun w'(bL:Bw w w')=>oe en (h.below bL) hb hl S3 e4;rw[eA3,eA4]at c4;have c5:=fun w'(bL:Bw w w')=>od en (h.below bL) hb hl vG S4 e5 eV;rw[eA4,eA5]at c5;have C1:=af c1;have C2:=af c2;have C3:=af c3;have C4:=af c4;have C5:=af c5;have HH:=af h;clear c1 c2 c3 c4 c5 a0 eA1 eA2 eA3 eA4 h hb;go_enter func18,ntmps18;go_wp2_with fail;obtain⟨W,hW⟩:=au (w.alloc (.cells #[.I 0,.U 0,.S none 0 0,.I 0,.S none 0 0,.U 0,.U 0] 56));have bW:=dO hW;have hR:rW W w.heap.size (.I 0) (.U 0) (.S none 0 0) (.I 0) (.S none 0 0) (.U 0) (.U 0):=by rw[hW];simp[rW,go_sem]
 have fR:∀o,W.frozen? ⟨w.heap.size,o,none⟩=false:=fun o=>by rw[hW];simp[go_sem]
 have zW:w.heap.size<W.heap.size:=by rw[hW];simp
 rw[<-hW];clear hW;refine(aa C1 _ bW).mono ?_;rintro r w'⟨rfl,rfl⟩;go_wp2_with fail;refine(aa C2 _ bW).mono ?_;rintro r w'⟨rfl,rfl⟩;go_wp2_with fail;refine(aa C3 _ bW).mono ?_;rintro r w1⟨p1,c1,rfl,x1,aA⟩;have b1:=aj bW aA;have oQ:=hR.below aA;have fR1:=cG fR zW aA;have z1:=aA.size;clear hR fR aA;go_wp2_with fail;refine(aa C4 _ b1).mono ?_;rintro r w2⟨rfl,rfl⟩;go_wp2_with fail;refine(aa C5 _ b1).mono ?_;rintro r w3⟨p3,c3,rfl,x3,bf⟩;have b3:=aj b1 bf;have x1':=Own.below x1 bf;have pT:=oQ.below bf;have fR3:=cG fR1 ae bf;have z3:=bf.size;clear oQ fR1 bf x1;have bt6:Hid (aM P/\aM V/\0<=s/\s<18446744073709551616):=by have h1:=(qF HB S2).1;have h2:=(qF HB S4).1;have h3:=Er (om:=o1);rw[aa e3]at h1;rw[aa e5]at h2;rw[aa e2]at h3;exact⟨h1,h2,h3.1,h3.2⟩
 obtain⟨X,hX⟩:=au (w3.alloc (.cells #[.I k,.U s,.S p1 NP c1,.I f,.S p3 NV c3,.U 0,.U 0] 56));have AU:=dO hX;have bX:Bw w X:=aj b3 AU;have hRX:=pT.below AU;have fRX:=cG fR3 ae AU;have hOX:rW X w3.heap.size (.I k) (.U s) (.S p1 NP c1) (.I f) (.S p3 NV c3) (.U 0) (.U 0):=by rw[hX];simp[rW,go_sem]
 have zX:w3.heap.size<X.heap.size:=by rw[hX];simp
 have xP:=Own.below x1' AU;have xV:=Own.below x3 AU;have bo:∀ob:Obj,Bw w3 (w3.alloc ob):=fun ob=>ay.alloc ao _;have q0:=fun ob=>ag pT.1 (bo ob);have q1:=fun ob=>ag pT.2.1 (bo ob);have q2:=fun ob=>ag pT.2.2.1 (bo ob);have q3:=fun ob=>ag pT.2.2.2.1 (bo ob);have q4:=fun ob=>ag pT.2.2.2.2.1 (bo ob);have q5:=fun ob=>ag pT.2.2.2.2.2.1 (bo ob);have q6:=fun ob=>ag pT.2.2.2.2.2.2 (bo ob);have qf:=fun(ob:Obj)=>cG fR3 ae (bo ob);clear pT fR3 x1' x3 AU bo;obtain⟨r0,r1,r2,r3,r4,r5,r6⟩:=id hRX;obtain⟨j0,j1,j2,j3,j4,j5,j6⟩:=id hOX;by_cases hA5:A5<0;{
 clear hX;go_wp2;refine fL (v:=.tuple #[ya 0 0 (.S none 0 0) 0 (.S none 0 0) 0 0,.I 13]) (by simp[results,results18,go_sem,q0,q1,q2,q3,q4,q5,q6]) rfl ⟨rfl,?_⟩
 repeat(refine Av ?_ ai _)
 exact gp b3};{
 have cl7:¬A5<0:=hA5;go_wp2_with fail;rw[<-hX];clear hX q0 q1 q2 q3 q4 q5 q6 qf;obtain⟨hPB,hVB,s0,s1⟩:=aa bt6;by_cases hk:1<=k/\k<=13;{
 obtain⟨K,rfl⟩:∃K:Nat,k=(K:Int):=⟨k.toNat,ae⟩;obtain⟨S,rfl⟩:∃S:Nat,s=(S:Int):=⟨s.toNat,ae⟩;have h1:1<=K:=ae;have h2:K<=13:=ae;obtain⟨B,eB⟩:=aI (DA K S f NP NV 0 0);have Cq:Hid (S<18446744073709551616):=by show _<_;omega
 have HPV:=af (ah hPB hVB);clear s0 s1 hPB hVB hk;refine(FO h1 h2 eB).mono ?_;rintro r x1⟨rfl,pO⟩;have PG:=aj bX pO;have oQ:=hRX.below pO;have hO1:=hOX.below pO;have f1:=cG fRX ae pO;have zx1:=pO.size;have xP1:=Own.below xP pO;have xV1:=Own.below xV pO;clear hRX hOX fRX pO xP xV r0 r1 r2 r3 r4 r5 r6 j0 j1 j2 j3 j4 j5 j6 bX;obtain⟨r0,r1,r2,r3,r4,r5,r6⟩:=id oQ;obtain⟨j0,j1,j2,j3,j4,j5,j6⟩:=id hO1;cases B with
 |false=>
  go_wp2;refine fL (v:=.tuple #[ya 0 0 (.S none 0 0) 0 (.S none 0 0) 0 0,.I 13]) (by simp[results,results18,go_sem,r0,r1,r2,r3,r4,r5,r6]) rfl ⟨rfl,?_⟩
  repeat(refine Av ?_ ai _)
  exact PG
 | true=>
  go_wp2_with fail;refine(BJ h1 h2).mono ?_;rintro r x2⟨rfl,rfl⟩;obtain⟨J,eJ⟩:=aI (joR K);rw[eJ];cases J with
  |false=>
   go_wp2;refine fL (v:=.tuple #[ya 0 0 (.S none 0 0) 0 (.S none 0 0) 0 0,.I 13]) (by simp[results,results18,go_sem,r0,r1,r2,r3,r4,r5,r6]) rfl ⟨rfl,?_⟩
   repeat(refine Av ?_ ai _)
   exact PG
  |true=>
   obtain⟨f0,f2⟩:=FR h1 h2 eB;obtain⟨F,rfl⟩:∃F:Nat,f=(F:Int):=⟨f.toNat,ae⟩;have hF:F<=2:=ae;have hd:decide (Dq K S P F V=l)=false:=by simp only[CG];intro e;exact aa la K S F rfl rfl rfl ⟨h1,h2,aa Cq,hF,by rw[aa eP,aa eV];exact eB,eJ,e.symm⟩
   have HD:=af hd;obtain⟨M,eM⟩:∃M,Hid ((Dq K S P F V).length=M):=⟨_,rfl⟩;clear f0 f2 hd;go_wp2_with fail;refine(Ur h2 Cq hF eP eV xP1.rd xV1.rd hNP hNV eM).mono ?_;rintro r x3⟨p5,c5,rfl,o5',dS⟩;have bx3:=aj PG dS;have pT:=oQ.below dS;have f3:=cG f1 ae dS;have zx3:=dS.size;clear oQ hO1 f1 dS r0 r1 r2 r3 r4 r5 r6 j0 j1 j2 j3 j4 j5 j6 PG;obtain⟨r0,r1,r2,r3,r4,r5,r6⟩:=id pT;go_wp2_with fail;refine(ly eM en o5'.rd (HH.below bx3) (by refine aM.app (fun z hz=>by simp at hz;subst hz;omega) (aM.app (jY (aa Cq)) (aM.app ?_ (aM.app (fun z hz=>by simp at hz;subst hz;omega) ?_)));{exact aM.app (jY (by rw[aa eP];omega)) HPV.1};{exact aM.app (jY (by rw[aa eV];omega)) HPV.2}) (aa HB)).mono ?_
   rintro r x4⟨rfl,jX⟩;rw[aa HD];have bx4:=aj bx3 jX;have hR4:=pT.below jX;have f4:=cG f3 ae jX;clear pT f3 jX r0 r1 r2 r3 r4 r5 r6 bx3;obtain⟨r0,r1,r2,r3,r4,r5,r6⟩:=id hR4;go_wp2;refine fL (v:=.tuple #[ya 0 0 (.S none 0 0) 0 (.S none 0 0) 0 0,.I 13]) (by simp[results,results18,go_sem,r0,r1,r2,r3,r4,r5,r6]) rfl ⟨rfl,?_⟩
   repeat(refine Av ?_ ai _)
   exact bx4};{
 refine(FN ae).mono ?_;rintro r x1⟨rfl,pO⟩;have PG:=aj bX pO;have oQ:=hRX.below pO;have f1:=cG fRX ae pO;clear hRX hOX fRX pO xP xV r0 r1 r2 r3 r4 r5 r6 j0 j1 j2 j3 j4 j5 j6 bX s0 s1;obtain⟨r0,r1,r2,r3,r4,r5,r6⟩:=id oQ;go_wp2;refine fL (v:=.tuple #[ya 0 0 (.S none 0 0) 0 (.S none 0 0) 0 0,.I 13]) (by simp[results,results18,go_sem,r0,r1,r2,r3,r4,r5,r6]) rfl ⟨rfl,?_⟩
 repeat(refine Av ?_ ai _)
 exact PG}}
theorem KO(jQ:1<=k)(qK:k<=13){se pa:Bool}{vs:Int}{sq jo:Bool}{f:Int}{p q:OA}{n m c d:Nat}{w:World}(hT:vM w 0 (k*7) se pa lo hi vs sq jo){B:Bool}(eB:Hid (fmF se pa lo hi vs sq s f n m e g=B))(eJ:(B&&jo)=false):Cp 152 #[ya k s (.S p n c) f (.S q m d) e g] w fun r w'=>r=.returned (.S none 0 0)/\Bw w w':=by
 have h1:=dw 1 k;have h2:(k:Int)<=13:=ae;have h3:(k:Int)<14:=ae;have h4:k<14:=ae;have h5:=dw 0 k;go_enter func152,ntmps152;go_wp2_with fail;obtain⟨W,hW⟩:=au (w.alloc (.cells #[.I k,.U s,.S p n c,.I f,.S q m d,.U e,.U g] 56));have bW:=dO hW;have hA:rW W w.heap.size (.I k) (.U s) (.S p n c) (.I f) (.S q m d) (.U e) (.U g):=by rw[hW];simp[rW,go_sem]
 have hTW:=hT.below bW;rw[<-hW];clear hW hT;refine(nS jQ qK hTW eB).mono ?_;rintro r w1⟨rfl,aA⟩;have Pk:=hA.below aA;have hT1:=hTW.below aA;have b1:=aj bW aA;clear hA hTW bW aA;obtain⟨a0,a1,a2,a3,a4,a5,a6⟩:=Pk;obtain⟨t0,t1,t2,t3,t4,t5,t6⟩:=hT1;cases B with
 |false=>
  go_wp2;go_ret;exact⟨rfl,b1⟩
 |true=>
  rw[ox]at eJ;subst eJ;go_wp2;go_ret;exact⟨rfl,b1⟩
def Hr{k f:Int}{p q:OA}{n m c d:Nat}{w:World}(hk:k<1\/13<k):Cp 152 #[ya k s (.S p n c) f (.S q m d) e g] w fun r w'=>r=.returned (.S none 0 0)/\Bw w w':=by
 go_enter func152,ntmps152;go_wp2_with fail;obtain⟨W,hW⟩:=au (w.alloc (.cells #[.I k,.U s,.S p n c,.I f,.S q m d,.U e,.U g] 56));have bW:=dO hW;rw[<-hW];clear hW;refine(DJ hk).mono ?_;rintro r x1⟨rfl,aA⟩;have b1:=aj bW aA;clear bW aA;go_wp2;go_ret;exact⟨rfl,b1⟩
abbrev Mc(F:Nat)(w:World)(k s f e g:Int)(n m N:Nat)(P V R:LI):Prop:=
 ∀(q1 q2:OA)(d1 d2:Nat)(w':World),Bw w w'->Rd w' (.S q1 n d1) P->Rd w' (.S q2 m d2) V->Calls prog F #[ya k s (.S q1 n d1) f (.S q2 m d2) e g] w' fun r w''=>∃p' c',r=.returned (.S p' N c')/\Own w'.heap.size w'' (.S p' N c') R/\Bw w' w''
def ae5{F:Nat}{w:World}{k f:Int}{n m:Nat}(h:∀(q1 q2:OA)(d1 d2:Nat)(w':World),Bw w w'->Calls prog F #[ya k s (.S q1 n d1) f (.S q2 m d2) e g] w' fun r w''=>r=.returned (.S none 0 0)/\Bw w' w''):Mc F w k s f e g n m 0 P V []:=
 fun q1 q2 d1 d2 w' hb _ _=>(h q1 q2 d1 d2 w' hb).mono (by rintro r w''⟨rfl,h2⟩;exact⟨none,0,rfl,World.ownsRow_nil _ _ _ _,h2⟩)
def MR{c n:Nat}(en:Hid (l.length=n)){w:World}(h:Rd w (.S p n c) l)(hb:aM l)(hl:n<=1048576)(vG:n<=c){k f:Int}(e1:Hid (oB (some l)=(k,o1)))(e2:Hid (oV o1=(s,o2)))(e3:Hid (oT o2=(P,o3)))(e4:Hid (oB o3=(f,o4)))(e5:Hid (oT o4=(V,o5))){NP NV:Nat}(eP:Hid (P.length=NP))(eV:Hid (V.length=NV)){K S F:Nat}(hk:k=K)(hs:s=S)(hf:f=F)(ho:o5=some [])(cg2:Iv l K S P F V):Cp 18 #[.S p n c] w fun r w'=>∃p' c' q' d' B,r=.returned (.tuple #[ya K S (.S p' NP c') F (.S q' NV d') 0 0,.I 0])/\w.heap.size<=B/\Own w.heap.size w' (.S p' NP c') P/\Btw w.heap.size B (.S p' NP c')/\Own B w' (.S q' NV d') V/\Bw w w':=by
 obtain⟨h1,h2,hS,hF,hfm,hj,hdl⟩:=cg2;have HB:=af hb;have S0:Hid (jM n l (some l)):=jM.start en;have S1:Hid (jM n l o1):=by have:=Ao (aa en) (aa S0);rw[aa e1]at this;exact this
 have S2:Hid (jM n l o2):=by have:=gQ (aa en) (aa S1);rw[aa e2]at this;exact this
 have S3:Hid (jM n l o3):=by have:=Es (aa en) (aa S2);rw[aa e3]at this;exact this
 have S4:Hid (jM n l o4):=by have:=Ao (aa en) (aa S3);rw[aa e4]at this;exact this
 have hNP:NP<=1048576:=by have:=(qF hb (aa S2)).2;rw[aa e3]at this;rw[<-aa eP];exact fW this hl
 have hNV:NV<=1048576:=by have:=(qF hb (aa S4)).2;rw[aa e5]at this;rw[<-aa eV];exact fW this hl
 have a0:mI n (some l)=0:=by simp[mI,aa en]
 obtain⟨A1,eA1⟩:=aI (mI n o1);obtain⟨A2,eA2⟩:=aI (mI n o2);obtain⟨A3,eA3⟩:=aI (mI n o3);obtain⟨A4,eA4⟩:=aI (mI n o4);obtain⟨A5,eA5⟩:=aI (mI n o5);have c1:=fun w'(bL:Bw w w')=>oe en (h.below bL) hb hl S0 e1;rw[a0,eA1]at c1;have c2:=fun w'(bL:Bw w w')=>An en (h.below bL) hb hl S1 e2;rw[eA1,eA2]at c2;have c3:=fun w'(bL:Bw w w')=>od en (h.below bL) hb hl vG S2 e3 eP;rw[eA2,eA3]at c3;have c4:=fun w'(bL:Bw w w')=>oe en (h.below bL) hb hl S3 e4;rw[eA3,eA4]at c4;have c5:=fun w'(bL:Bw w w')=>od en (h.below bL) hb hl vG S4 e5 eV;rw[eA4,eA5]at c5;have C1:=af c1;have C2:=af c2;have C3:=af c3;have C4:=af c4;have C5:=af c5;have HH:=af h;clear c1 c2 c3 c4 c5 a0 eA1 eA2 eA3 eA4 h hb;go_enter func18,ntmps18;go_wp2_with fail;obtain⟨W,hW⟩:=au (w.alloc (.cells #[.I 0,.U 0,.S none 0 0,.I 0,.S none 0 0,.U 0,.U 0] 56));have bW:=dO hW;have hR:rW W w.heap.size (.I 0) (.U 0) (.S none 0 0) (.I 0) (.S none 0 0) (.U 0) (.U 0):=by rw[hW];simp[rW,go_sem]
 have fR:∀o,W.frozen? ⟨w.heap.size,o,none⟩=false:=fun o=>by rw[hW];simp[go_sem]
 have zW:w.heap.size<W.heap.size:=by rw[hW];simp
 rw[<-hW];clear hW;refine(aa C1 _ bW).mono ?_;rintro r w'⟨rfl,rfl⟩;go_wp2_with fail;refine(aa C2 _ bW).mono ?_;rintro r w'⟨rfl,rfl⟩;go_wp2_with fail;refine(aa C3 _ bW).mono ?_;rintro r w1⟨p1,c1,rfl,x1,aA⟩;have b1:=aj bW aA;have oQ:=hR.below aA;have fR1:=cG fR zW aA;have z1:=aA.size;clear hR fR aA;go_wp2_with fail;refine(aa C4 _ b1).mono ?_;rintro r w2⟨rfl,rfl⟩;go_wp2_with fail;refine(aa C5 _ b1).mono ?_;rintro r w3⟨p3,c3,rfl,x3,bf⟩;have b3:=aj b1 bf;have x1':=Own.below x1 bf;have pT:=oQ.below bf;have fR3:=cG fR1 ae bf;have z3:=bf.size;clear oQ fR1 bf;have bt6:Hid (aM P/\aM V/\0<=s/\s<18446744073709551616):=by have h1:=(qF HB S2).1;have h2:=(qF HB S4).1;have h3:=Er (om:=o1);rw[aa e3]at h1;rw[aa e5]at h2;rw[aa e2]at h3;exact⟨h1,h2,h3.1,h3.2⟩
 obtain⟨X,hX⟩:=au (w3.alloc (.cells #[.I k,.U s,.S p1 NP c1,.I f,.S p3 NV c3,.U 0,.U 0] 56));have AU:=dO hX;have bX:Bw w X:=aj b3 AU;have hRX:=pT.below AU;have fRX:=cG fR3 ae AU;have hOX:rW X w3.heap.size (.I k) (.U s) (.S p1 NP c1) (.I f) (.S p3 NV c3) (.U 0) (.U 0):=by rw[hX];simp[rW,go_sem]
 have zX:w3.heap.size<X.heap.size:=by rw[hX];simp
 have xP:=Own.below x1' AU;have xV:=Own.below x3 AU;have bo:∀ob:Obj,Bw w3 (w3.alloc ob):=fun ob=>ay.alloc ao _;have q0:=fun ob=>ag pT.1 (bo ob);have q1:=fun ob=>ag pT.2.1 (bo ob);have q2:=fun ob=>ag pT.2.2.1 (bo ob);have q3:=fun ob=>ag pT.2.2.2.1 (bo ob);have q4:=fun ob=>ag pT.2.2.2.2.1 (bo ob);have q5:=fun ob=>ag pT.2.2.2.2.2.1 (bo ob);have q6:=fun ob=>ag pT.2.2.2.2.2.2 (bo ob);have qf:=fun(ob:Obj)=>cG fR3 ae (bo ob);clear pT fR3 x1' x3 AU bo;have tP:Btw w.heap.size w2.heap.size (.S p1 NP c1):=fun b hb=>by have:=x1.lt b hb;omega
 obtain⟨r0,r1,r2,r3,r4,r5,r6⟩:=id hRX;obtain⟨j0,j1,j2,j3,j4,j5,j6⟩:=id hOX;have cl7:¬A5<0:=by rw[<-eA5,ho];simp[mI]
 subst hk;subst hs;subst hf;have Cq:=af hS;have HDL:=af hdl;have HFM:Hid (DA K S F NP NV 0 0=true):=by show _=_;rw[<-aa eP,<-aa eV];exact hfm
 clear hS hdl hfm;go_wp2_with fail;rw[<-hX];clear hX q0 q1 q2 q3 q4 q5 q6 qf;refine(FO h1 h2 HFM).mono ?_;rintro r y1⟨rfl,pO⟩;have PG:=aj bX pO;have oQ:=hRX.below pO;have hO1:=hOX.below pO;have f1:=cG fRX ae pO;have zx1:=pO.size;have xP1:=Own.below xP pO;have xV1:=Own.below xV pO;clear hRX hOX fRX pO xP xV r0 r1 r2 r3 r4 r5 r6 j0 j1 j2 j3 j4 j5 j6 bX;obtain⟨r0,r1,r2,r3,r4,r5,r6⟩:=id oQ;obtain⟨j0,j1,j2,j3,j4,j5,j6⟩:=id hO1;go_wp2_with fail;refine(BJ h1 h2).mono ?_;rintro r y2⟨rfl,rfl⟩;rw[hj];obtain⟨M,eM⟩:∃M,Hid ((Dq K S P F V).length=M):=⟨_,rfl⟩;go_wp2_with fail;refine(Ur h2 Cq hF eP eV xP1.rd xV1.rd hNP hNV eM).mono ?_;rintro r y3⟨p5,c5,rfl,o5',dS⟩;have bx3:=aj PG dS;have pT:=oQ.below dS;have hO3:=hO1.below dS;have f3:=cG f1 ae dS;have zx3:=dS.size;have xP3:=Own.below xP1 dS;have xV3:=Own.below xV1 dS;clear oQ hO1 f1 dS r0 r1 r2 r3 r4 r5 r6 j0 j1 j2 j3 j4 j5 j6 PG xP1 xV1;obtain⟨r0,r1,r2,r3,r4,r5,r6⟩:=id pT;obtain⟨j0,j1,j2,j3,j4,j5,j6⟩:=id hO3;have hd:decide (Dq K S P F V=l)=true:=by rw[<-aa HDL];simp
 have HD:=af hd;clear hd;go_wp2_with fail;refine(ly eM en o5'.rd (HH.below bx3) (by rw[<-aa HDL];exact aa HB) (aa HB)).mono ?_;rintro r y4⟨rfl,jX⟩;rw[aa HD];have bx4:=aj bx3 jX;have hR4:=pT.below jX;have hO4:=hO3.below jX;have f4:=cG f3 ae jX;have zx4:=jX.size;have xP4:=af (Own.below xP3 jX);have xV4:=af (Own.below xV3 jX);clear pT hO3 f3 jX r0 r1 r2 r3 r4 r5 r6 j0 j1 j2 j3 j4 j5 j6 bx3 xP3 xV3;obtain⟨r0,r1,r2,r3,r4,r5,r6⟩:=id hR4;obtain⟨j0,j1,j2,j3,j4,j5,j6⟩:=id hO4;have BX4:=af bx4;have HZ:=af (ah zW (ah z1 (ah z3 (ah zX (ah zx1 (ah zx3 zx4))))));have cg:¬w.heap.size=w3.heap.size:=ae;have cd1:¬w3.heap.size=w.heap.size:=ae;clear hR4 hO4 bx4;go_wp2;obtain⟨zW,z1,z3,zX,zx1,zx3,zx4⟩:=aa HZ;refine fL (v:=.tuple #[ya K S (.S p1 NP c1) F (.S p3 NV c3) 0 0,.I 0]) (by simp[results,results18,go_sem,r0,r1,r2,r3,r4,r5,r6]) rfl ⟨p1,c1,p3,c3,w2.heap.size,rfl,ae,?_,tP,?_,?_⟩;{
 refine Own.mono (B:=w'.heap.size) ?_ ae
 iterate 7 (refine Ky ?_ zW _)
 exact xP4};{
 have zz:w.heap.size<w2.heap.size:=ae
 iterate 7 (refine Ky ?_ zz _)
 exact xV4};{
 iterate 7 (refine Av ?_ ai _)
 exact BX4}
theorem Sw{w0:World}{SB NB HB UB:List Nat}{w:World}(cR:Hid (cT w0 w b bs bn e g x t ss ns SB NB HB UB))(hw0:w0.heap.size<=w.heap.size)(fS:Hid (∀nd∈ns,aM nd.path))(xf:Hid (∀(i j:Nat)(s s':aR),ss[i]?=some s->ss[j]?=some s'->i<j->s.1≠s'.1))(hdn:Hid (∀(i j:Nat)(s s':aB),ns[i]?=some s->ns[j]?=some s'->i<j->s.path≠s'.path)){m:Nat}(em:Hid (ns.length=m)){n:Nat}(en:Hid (ss.length=n)):Cp 27 #[.pointer (some ⟨b,0,none⟩)] w fun r w'=>cT w0 w' b bs bn e g x 0 (ss.map gI) (ns.map iG) SB NB HB UB/\Below w0.heap.size w w'/\(∃v,r=.returned v):=by
 have Cb:w.cell? ⟨b,3,none⟩=some (.I t):=aq cR.hd 3;have xe:∀o,w.frozen? ⟨b,o,none⟩=false:=fun o=>by simp[World.frozen?,cR.hd]
 obtain⟨Z,hZ⟩:=au (w.setCell ⟨b,3,none⟩ (.I 0));have at6:Hid (cT w0 Z b bs bn e g x 0 ss ns SB NB HB UB):=by rw[hZ];exact cR.aM3 0
 obtain⟨Ds,oS,mS⟩:=at6.tI.own;have GM:Z.cell? ⟨b,4,none⟩=some (.map (some bs)):=aq at6.hd 4;rw[aa en]at oS;have hbZ:Below w0.heap.size w Z:=by rw[hZ];exact ay.setCell (cR.lo.1) _
 go_enter func27,ntmps27;subst hZ;go_wp2_with(first
  |(at_range;refine wpList_range_own _ rfl _ 111 rfl 28 _ iI underlying111 _ bs n _ rfl oS ?_;intro w1 nw CN Ml)
  |go_in)
 go_frame
 have cb0:=af (at6.same (nH.grown CN));have hr0:w.heap.size<=(w.setCell ⟨b,3,none⟩ (.I 0)).heap.size:=ai;have aA:Below w0.heap.size w w1:=bD hbZ CN (by simpa using hw0) (fun j hj=>by cases hj);obtain⟨r1,Pn⟩:=au ((w.setCell ⟨b,3,none⟩ (.I 0)).heap.size);rw[<-Pn]at nw hr0⊢;have Lj:Hid (∀s∈ss,Maps.has Ds (.U s.1)=true):=fun s hs=>by obtain⟨i,hi⟩:=wo hs;have Sb:=(aT.1 hi).1;obtain⟨gz,Wc⟩:∃gz,SB[i]?=some gz:=⟨_,aO (by rw[cR.tI.len];exact Sb)⟩;exact(mS.hs _).2 ⟨(.U s.1,gz),by rw[gv];exact⟨i,by rw[jT,hi,Wc]⟩,rfl⟩
 have MS:=af mS;clear mS oS Cb xe GM at6 hbZ CN Ml Pn
 go_loopw[3](fun _ wr=>∃(left:Lit->Bool)(iM:Nat),wr.ranges prog 28 aV bs r1 n Ds left iM/\Hid (cT w0 wr b bs bn e g x 0 (nW gI left ss) ns SB NB HB UB)/\Below w0.heap.size w wr) (fun _ wr=>wr.rangeLeft bs r1)
 exact⟨_,_,nw,by rw[Be (aa Lj)];exact cb0,aA⟩;{
 obtain⟨left,iM,jb,KR,aG⟩:=hrel;go_wp2_with(first
  |(at_next;refine dW _ rfl _ rfl 28 iI (fun i:Int=>.int .u64 i) aO3 bs r1 n _ _ MS _ _ rfl jb ?_ ?_)
  |go_in)
 {
 intro _ uz;have OE:Hid (cT w0 wr b bs bn e g x 0 (ss.map gI) ns SB NB HB UB):=by have:=aa KR;rw[Iy uz]at this;exact this
 obtain⟨D,oD,mD⟩:=OE.gy.own;have yK:wr.cell? ⟨b,5,none⟩=some (.map (some bn)):=aq OE.hd 5;rw[aa em]at oD;have ab3:Hid (∀s∈ns,Maps.has D (bQ s.path)=true):=fun s hs=>by obtain⟨i,hi⟩:=wo hs;obtain⟨gz,_,_,Wc,_,_⟩:=cR.gy.at hi;exact(mD.hs _).2 ⟨(bQ s.path,gz),by rw[gv];exact⟨i,by rw[jT,hi,Wc]⟩,rfl⟩
 have MD:=af mD;obtain⟨Y,eY⟩:=au wr;subst eY;have hYw:=aG.size;clear mD uz KR jb;go_wp2_with(first
  |(at_range;refine wpList_range_own _ rfl _ 112 rfl 9 _ me underlying112 _ bn m _ rfl oD ?_;intro w3 rO tz hs3)
  |go_in)
 go_frame
 have ca9:=af (OE.same (nH.grown tz));have bf:Below w0.heap.size w w3:=bD aG tz ae (fun j hj=>by cases hj);clear yK tz oD OE aG
 go_loopw[5](fun _ wr=>∃(left:Lit->Bool)(iM:Nat),wr.ranges prog 9 aV bn Y.heap.size m D left iM/\Hid (cT w0 wr b bs bn e g x 0 (ss.map gI) (nY left ns) SB NB HB UB)/\Below w0.heap.size w wr) (fun _ wr=>wr.rangeLeft bn Y.heap.size)
 exact⟨_,_,rO,by rw[MC (aa ab3)];exact ca9,bf⟩;{
 obtain⟨left,iM,jb,KR,aG⟩:=hrel;go_wp2_with(first
  |(at_next;refine dW _ rfl _ rfl 9 me (fun s:ByteArray=>.string s) Zz bn Y.heap.size m _ _ MD _ _ rfl jb ?_ ?_)
  |go_in)
 {
 intro _ uz;have Oz:Hid (cT w0 wr b bs bn e g x 0 (ss.map gI) (ns.map iG) SB NB HB UB):=by have:=aa KR;rw[Vg uz]at this;exact this
 clear KR;go_wp2
 go_end0
 exact⟨Oz,aG,⟨_,rfl⟩⟩};{
 intro i0 pl g1 w4 rT cL hp RM pM aX fU VU AF;obtain⟨j,z,g1',hj,Qg,ee⟩:=gF hp;simp only[fO]at ee;obtain⟨rfl,rfl⟩:=ee;have Oz:=af (KR.same (nH.next jb fU));have fk:Below w0.heap.size w w4:=bD aG fU (by have:=aG.size;omega) (fun j hj=>by cases hj;omega);obtain⟨gz,hh,ub,z1,z2,z3⟩:=Oz.gy.at (DP hj RM);rw[Qg]at z1;cases z1;obtain⟨a1,a2,a3,⟨V,a4,-⟩,-,⟨D2,a5,-⟩⟩:=Oz.gy.blk j _ g1 hh ub (DP hj RM) Qg z2 z3;have uY:w4.cell? ⟨g1,6,none⟩=some (.map (some ub)):=aq a4 6;obtain⟨v,w5,dI,GK,ra,hs5⟩:=Am underlying118 a5 0;have VS:Hid (cT w0 w5 b bs bn e g x 0 (ss.map gI) (nY (fun z'=>left z'&&!z'.sameKey (bQ z.path)) ns) SB NB HB UB):=by
  have:=Oz.aX2 (DP hj RM) z3 GK (fun q hq=>by by_cases uw:q<w4.heap.size;{exact ra.block q uw (by simpa using hq)};{rw[YO ae,YO ae]})
  rw[QG (aa fS) (aa hdn) hj]at this;exact this
 have dS:Below w0.heap.size w w5:=bD fk ra (by have:=fk.size;omega) (fun j hj=>by cases hj;exact a3);have Sd:(Instr.entry (.pointer (some ⟨Y.heap.size,0,none⟩))).run prog w4=.ok (.tuple #[.string i0,.pointer (some ⟨g1,0,none⟩)]) w4:=AF;have mH:w5.ranges prog 9 aV bn Y.heap.size m D (fun z'=>left z'&&!z'.sameKey (bQ z.path)) rT:=by refine ua pM ?_ ?_;{obtain⟨D9,o9,-⟩:=Oz.gy.own;refine ra.block _ o9.lt ?_;have hd:=Oz.gy.yQ;rw[vg]at hd;simp only[ne_eq,jU];rintro rfl;exact hd.1 (CD _ (aS z3))};{obtain⟨es,clock,since,seen,c0,-,-,-,-,hi,-⟩:=pM;refine ra.block _ (aL hi) ?_;simp only[ne_eq,jU];rintro e;obtain⟨es',cl',h',-⟩:=a5;rw[<-e,hi]at h';cases h'}
 clear fU hp cL KR Oz aG fk a1 a2 a3 a4 a5 GK ra hs5;go_wp2;go_roundw;exact⟨_,_,mH,VS,dS⟩
 case measure=>rw[mH.left_eq,jb.left_eq];exact aX}}}
 {
 intro i0 pl g1 w2 rT cL hp RM pM aX fU VU AF;obtain⟨j,z,g1',hj,Qg,ee⟩:=gF hp;simp only[fO]at ee;obtain⟨rfl,rfl⟩:=ee;have OE:=af (KR.same (nH.next jb fU));have aF:Below w0.heap.size w w2:=bD aG fU (by have:=aG.size;omega) (fun j hj=>by cases hj;omega);obtain⟨a1,u,a2,a3⟩:=OE.tI.blk j _ g1 (DO hj RM) Qg;have iD:w2.cell? ⟨g1,1,none⟩=some (.I z.2.1):=aq a2 1;have js:w2.cell? ⟨g1,2,none⟩=some u:=aq a2 2;have hf:∀o,w2.frozen? ⟨g1,o,none⟩=false:=fun o=>by simp[World.frozen?,a2]
 obtain⟨ZZ,hZZ⟩:=au ((w2.setCell ⟨g1,1,none⟩ (.I 0)).setCell ⟨g1,2,none⟩ (.S none 0 0));have VS:Hid (cT w0 ZZ b bs bn e g x 0 (nW gI (fun z'=>left z'&&!z'.sameKey (.U z.1)) ss) ns SB NB HB UB):=by
  have:=OE.aM2 (DO hj RM) Qg 0 (.S none 0 0) [] (w':=ZZ) (by rw[hZZ];simp[World.setCell,we,a2]) ⟨none,0,rfl,.inl rfl⟩ (fun q hq=>by rw[hZZ,fy _ _ _ _ hq,fy _ _ _ _ hq])
  rw[show((z.1,0,[]):aR)=gI z from rfl,DM (aa xf) hj]at this;exact this
 have dS:Below w0.heap.size w ZZ:=by rw[hZZ];exact(aF.setCell a1 _).setCell a1 _
 have Sd:(Instr.entry (.pointer (some ⟨r1,0,none⟩))).run prog w2=.ok (.tuple #[.U i0,.pointer (some ⟨g1,0,none⟩)]) w2:=AF;have mH:ZZ.ranges prog 28 aV bs r1 n Ds (fun z'=>left z'&&!z'.sameKey (.U z.1)) rT:=by rw[hZZ];exact pM.of_walks ((KeepsWalks.setCell _ _ _).trans (KeepsWalks.setCell _ _ _))
 clear fU hp cL KR OE aG aF a1 a2 a3;go_wp2;rw[<-hZZ];go_roundw;exact⟨_,_,mH,VS,dS⟩
 case measure=>rw[mH.left_eq,jb.left_eq];exact aX}}
def AY.dur(h:AY ss ns):AY (ss.map gI) (ns.map iG):=by
 refine⟨?_,?_,fun s hs=>?_,fun nd br=>?_,fun i j s s' hi hj kF=>?_,fun i j s s' hi hj kF=>?_⟩;{rw[Ap];exact h.s1};{rw[uj];exact h.n1};{obtain⟨s0,Ml,rfl⟩:=iJ.1 hs;exact⟨(h.s2 s0 Ml).1,by simp[gI],fun e he=>by simp[gI]at he⟩};{obtain⟨n0,Jo,rfl⟩:=iJ.1 br;obtain⟨a,b,c,d,-,f,-⟩:=h.n2 n0 Jo;exact⟨a,b,c,d,by simp[iG],f,by simp[iG]⟩};{rw[kU]at hi hj;obtain⟨a,ha,rfl⟩:=Bt.1 hi;obtain⟨a',Qm,rfl⟩:=Bt.1 hj;exact h.s3 i j a a' ha Qm kF};{rw[kU]at hi hj;obtain⟨a,ha,rfl⟩:=Bt.1 hi;obtain⟨a',Qm,rfl⟩:=Bt.1 hj;exact h.n3 i j a a' ha Qm kF}
def Pr{p q:OA}{c n d m:Nat}(en:Hid (ss.length=n))(em:Hid (ns.length=m)){w:World}(h:nI w (.S p n c) ss)(hN:qz w (.S q m d) ns)(hn:n<=1048576)(hm:m<=1048576)(HF:Hid (AY ss ns))(fS:Hid (∀nd∈ns,aM nd.path/\nd.path.length<=1048576/\nd.value.length<=1048576/\nd.holders.length<=1048576/\nd.watchers.length<=1048576))(OJ:Hid (∀nd∈ns,(∀i∈nd.holders,0<=i/\i<18446744073709551616)/\∀i∈nd.watchers,0<=i/\i<18446744073709551616)):Cp 144 #[gh e g x t (.S p n c) (.S q m d)] w fun r w'=>∃p' c' q' d',r=.returned (gh e g x 0 (.S p' n c') (.S q' m d'))/\il w.heap.size w' p' n c' q' m d' (ss.map gI) (ns.map iG)/\Bw w w':=by
 have H1:Hid (∀s∈ss,0<=s.1/\s.1<18446744073709551616):=fun s hs=>(HF.s2 s hs).1;have Pa:Hid (∀nd∈ns,aM nd.path):=fun nd br=>(aa fS nd br).1;have HR:=af fun(w':World)(hb:Bw w w')=>ah (h.below hb) (hN.below hb);clear h hN;go_enter func144,ntmps144;go_wp2_with fail;obtain⟨W,hW⟩:=au (w.alloc (.cells #[.U e,.U g,.U x,.I t,.S p n c,.S q m d] 32));have bW:=dO hW;obtain⟨W2,pR⟩:=au (W.alloc (.cells #[.U 0,.U 0,.U 0,.I 0,.S none 0 0,.S none 0 0] 32));have zW:W.heap.size=w.heap.size+1:=by rw[hW];simp
 have Xt:=dO pR;have pT:al W2 (w.heap.size+1) [.U 0,.U 0,.U 0,.I 0,.S none 0 0,.S none 0 0]:=by rw[pR,show w.heap.size+1=W.heap.size by omega];exact al.alloc W #[.U 0,.U 0,.U 0,.I 0,.S none 0 0,.S none 0 0] _
 have zW2:W2.heap.size=w.heap.size+2:=by rw[pR];simp;omega
 rw[<-hW,<-pR];have b2:=aj bW Xt;have R2:=af pT;clear hW pR bW pT Xt zW;refine(tT en em (aa HR _ b2).1 (aa HR _ b2).2 hn hm H1 HF.s3 fS OJ HF.n3).mono ?_;rintro r w4⟨b,bs,bn,SB,NB,HB,UB,rfl,cR,fk⟩;have b4:=aj b2 fk;have UC:=cR.lo;have z4:=fk.size;have pY:=af cR;have Iu:=af fk;clear cR fk;go_wp2_with fail;refine(Sw pY z4 Pa HF.s3 HF.n3 em en).mono ?_;rintro r w5⟨VS,dS,v5,rfl⟩;have z5:=dS.size;have b5:Bw w w5:=b4.trans (dS.mono ae);have ST5:Hid (Sto w5 b bs bn e g x 0 (ss.map gI) (ns.map iG) SB NB):=aL6 VS (Iu.trans dS) (by rw[fe,aa en];exact hn) (by rw[fe,aa em];exact hm);have R4:=af (R2.below ae (Iu.trans dS));have HF5:=af (HF.dur);have L1:=af (show(ss.map gI).length=n by rw[fe,aa en]);have L2:=af (show(ns.map iG).length=m by rw[fe,aa em]);obtain⟨sl,Wn⟩:∃sl,Hid (sl=ss.map gI):=⟨_,bq⟩;obtain⟨nl,jH⟩:∃nl,Hid (nl=ns.map iG):=⟨_,bq⟩;rw[<-aa Wn,<-aa jH]at ST5 HF5;rw[<-aa Wn]at L1;rw[<-aa jH]at L2;clear VS dS pY Iu;go_wp2_with fail;refine(IE (aa ST5) HF5.s1 HF5.n1 (by rw[aa L1];exact hn) (by rw[aa L2];exact hm) HF5.s2 HF5.n2).mono ?_;rintro r w6⟨ps,cs,pn,cn,A1,A2,rfl,f1,f2,f3,f4,f5,jX⟩;have b6:=aj b5 jX;have R5:=R4.below ae jX;have r0:=R5.1 0 _ rfl;have r1:=R5.1 1 _ rfl;have r2:=R5.1 2 _ rfl;have r3:=R5.1 3 _ rfl;have r4:=R5.1 4 _ rfl;have r5:=R5.1 5 _ rfl;have rf:=R5.2;have FF:=af (show il w5.heap.size w6 ps sl.length cs pn nl.length cn sl nl from⟨A1,A2,f1,f2,f3,f4,f5⟩);clear f1 f2 f3 f4 f5 jX R5;go_wp2;obtain⟨Z,hZ⟩:=au ((((((w6.setCell ⟨w.heap.size+1,0,none⟩ (.U e)).setCell ⟨w.heap.size+1,1,none⟩ (.U g)).setCell ⟨w.heap.size+1,2,none⟩ (.U x)).setCell ⟨w.heap.size+1,3,none⟩ (.I 0)).setCell ⟨w.heap.size+1,4,none⟩ (.S ps sl.length cs)).setCell ⟨w.heap.size+1,5,none⟩ (.S pn nl.length cn));have hkZ:∀z,z≠w.heap.size+1->Z.heap[z]?=w6.heap[z]?:=fun z hz=>by
  rw[hZ]
  iterate 6 rw[fy _ _ _ _ hz]
 refine fL (v:=gh e g x 0 (.S ps sl.length cs) (.S pn nl.length cn)) (by simp[results,results144,go_sem,r0,r1,r2,r3,r4,r5]) rfl ?_;rw[<-hZ];have hbZ:Bw w Z:=by rw[hZ];exact(((((b6.setCell ai _).setCell ai _).setCell ai _).setCell ai _).setCell ai _).setCell ai _
 have f:=(FF.keep (w':=Z) (fun z hz _=>hkZ z ae)).mono (B':=w.heap.size) ae;rw[aa L1,aa L2,aa Wn,aa jH]at f;exact⟨ps,cs,pn,cn,by rw[aa L1,aa L2],f,hbZ⟩
theorem Pw{g:Nat}{w:World}(h:mU w g vs ls)(hl:(cat ls).length<=4194304)(hk:ls.length<=1000):Cp 109 #[.T g ls.length C] w fun e w'=>∃p' c',e=.returned (.S p' (cat ls).length c')/\Own w.heap.size w' (.S p' (cat ls).length c') (cat ls)/\Bw w w':=by
 obtain⟨i,hi,nO,iL,ju⟩:=info_parts Tryz.infoByte;go_enter func109,ntmps109;go_wp2
 go_loopw[3,11](fun s i wr=>∃k:Nat,k<=ls.length/\i=.I k/\s=.I ((cat (ls.take k)).length:Nat)/\Bw w wr) (fun _ i _=>ls.length-(intOf i).toNat)
 exact⟨0,gq _,rfl,by simp[cat],cW _ _⟩;{
 obtain⟨k,jQ,rfl,rfl,aG⟩:=hrel;have nE:=qt ls k;by_cases aX:k<ls.length;{
 obtain⟨p,c,l,e1,e2,e3⟩:=(h.below aG).get k aX;have cR:=uZ e1;have hln:(cat (ls.take k)).length+l.length=(cat (ls.take (k+1))).length:=by rw[cR];simp
 have aa4:=qt ls (k+1);have hle:(cat (ls.take k)).length+l.length<=4194304:=ae;have HL:=af hln;clear hln cR aa4 e3 e1;generalize(cat (ls.take k)).length=a at*;go_wp2;go_roundw;exact⟨k+1,ae,by go_num,by rw[<-aa HL];go_num,aG⟩;exact bG};{
 have e:k=ls.length:=ae;subst e;rw[mF];rw[mF]at nE;go_wp2_with fail;refine(Ce hl).mono ?_;rintro e w1⟨p1,c1,rfl,o1,aA⟩;replace o1:Own w.heap.size w1 (.S p1 0 c1) []:=o1.mono aG.size;have b1:=aj aG aA;clear aA aG nE;go_wp2
 go_loopw[6,27](fun v i wr=>∃k:Nat,k<=ls.length/\i=.I k/\(∃p c,v=.S p (cat (ls.take k)).length c/\Own w.heap.size wr v (cat (ls.take k)))/\Bw w wr) (fun _ i _=>ls.length-(intOf i).toNat)
 exact⟨0,gq _,rfl,⟨p1,c1,by simp[cat],by simpa[cat]using o1⟩,b1⟩;{
 obtain⟨k,jQ,rfl,⟨pv,cv,rfl,ho⟩,aG⟩:=hrel;have nE:=qt ls k;by_cases aX:k<ls.length;{
 obtain⟨p,c,l,e1,e2,e3⟩:=(h.below aG).get k aX;have cR:=uZ e1;have aa4:=qt ls (k+1);have hle:(cat (ls.take k)).length+l.length<=4194304:=by have:=wF List.length cR;simp only[ig]at this;omega
 have HS:=af cR;clear cR aa4 e1 o1 b1;generalize(cat (ls.take k))=a at*;cases p with
 |none=>
  have e:=e3.rI;subst e;have HA:=af (fN (P:=prog) 22 i underlying22 hi c ho);go_wp2_with(at_builtin;refine Lib.wpList_append_run _ rfl _ _ _ _ rfl _ _ rfl rfl _ _ (by exact HA) ?_);go_roundw;exact⟨k+1,ae,by go_num,⟨pv,cv,by rw[aa HS];simp,by rw[aa HS];simpa using ho⟩,aG⟩;exact bG
 |some ad=>
  obtain⟨n1,n2,n3⟩:=e3.news;clear e3;go_wp2_with(at_builtin;refine wpList_append_own _ rfl _ _ 22 rfl w.heap.size 5 i (.int .u8 0) 1 1 underlying22 hi nO iL ju rfl aU _ _ _ rfl ho ad _ c (U l) rfl n1 n2 n3 ic ae aG.size ?_);intro v' w2 bO hg _;have b2:Bw w w2:=aG.grown hg aG.size (fun k hk=>(ho.lt k hk).1);have mP:Own w.heap.size w2 v' (a++l):=by unfold Own;rw[ig,U,ko];exact bO
  obtain⟨p',c',rfl⟩:=mP.form;clear bO hg n2;go_wp2;go_roundw;exact⟨k+1,ae,by go_num,⟨p',c',by rw[aa HS],by rw[aa HS];exact mP⟩,b2⟩;exact bG};{have e:k=ls.length:=ae;subst e;rw[mF]at ho;clear o1 b1 nE;go_wp2;go_ret;exact⟨pv,cv,by rw[mF];rfl,ho,aG⟩}}}}
def ur{g:Nat}{n k:Nat}(ek:Hid (k=ls.length))(e:Hid (lm=cat ls))(en:Hid (lm.length=n)){w:World}(h:mU w g vs ls)(hl:n<=4194304)(hk:k<=1000):Cp 62 #[.T g k C] w fun e w'=>∃p' c',e=.returned (.S p' n c')/\Own w.heap.size w' (.S p' n c') lm/\Bw w w':=by
 have e1:=aa ek;have e2:=aa e;have e3:=aa en;subst e1 e3 e2;go_enter func62,ntmps62;go_wp2_with fail;refine(Pw h hl ae).mono ?_;rintro e w1⟨p1,c1,rfl,o1,aA⟩;go_wp2;go_ret;exact⟨p1,c1,rfl,o1,aA⟩
def xl(w:World)(x:LI)(c:List Value)(l:List Lf):Prop:=∃p cc,c=[.S p x.length cc]/\Rd w (.S p x.length cc) x/\Qw (.S p x.length cc) x l
def xl.keep(w w':World)(x:LI)(c:List Value)(l:List Lf)(h:xl w x c l)(hk:∀a∈l,w'.heap[a.b]?=w.heap[a.b]?):xl w' x c l:=by
 obtain⟨p,cc,h1,h2,h3⟩:=h;exact⟨p,cc,h1,h2.dH h3 hk,h3⟩
abbrev qU(B:Nat)(w:World)(v:Value)(xs:List LI)(Ls:List (List Lf)):Prop:=OwnT xl 22 1 B w v xs Ls
def qU.one{w:World}(h:Own B w (.S p l.length c) l)(hB:B<=w.heap.size):∃Ls,qU B (w.alloc (.cells #[.S p l.length c] 22)) (.T w.heap.size 1 1) [l] Ls:=by
 have hb:Bw w (w.alloc (.cells #[.S p l.length c] 22)):=ay.alloc ao _;have h':=Own.below h hb;obtain⟨A,q1,q2,-,q4⟩:=vV (kd:=.u8) h';refine⟨[A],[[.S p l.length c]],rfl,rfl,fun c hc=>by simp at hc;subst hc;rfl,?_,fun i x cc ll hx hc hl=>?_,by simpa using q2,fun a ha=>?_⟩;{have:=World.ownsRow_lit (base:=B) (e:=22) (size:=1) w #[.S p l.length c] 1 hB aU rfl;simpa using this};{
 have:i=0:=by have:=(aT.1 hx).1;simpa using this
 subst this;simp at hx hc hl;subst hx hc hl;exact⟨p,c,rfl,h'.rd,q1⟩};{
 have Qm:a∈A:=by simpa using ha
 have e:=q4 a Qm;have:=(h.lt a.b e).2;intro e2;simp only[Value.ownBlock,jU]at e2;omega}
def qU.parts{w:World}{n c:Nat}{xs:List LI}{Ls:List (List Lf)}(h:qU B w (.S p n c) xs Ls)(hn:xs.length=n)(h0:0<n):∃g vs,p=some ⟨g,0,none⟩/\mU w g vs xs:=by
 obtain⟨g,rfl,-⟩:=h.ptr hn h0;obtain⟨cs,h1,h2,h3,h4,h5,h6,h7⟩:=h;rw[hn]at h4;refine⟨g,cs.flatten,rfl,?_,fun j v x hv hx=>?_⟩;{have:=h4.1;omega};{have hj:=(aT.1 hx).1;obtain⟨cc,hc⟩:∃x,cs[j]?=some x:=⟨_,aO ae⟩;obtain⟨l,hl⟩:∃x,Ls[j]?=some x:=⟨_,aO ae⟩;obtain⟨p',c',rfl,r1,-⟩:=h5 j x cc l hx hc hl;have e:=yO h3 hc (j:=0) aU;rw[By,Fe,hv]at e;simp at e;subst e;have e2:=h4.cellAt j ae;rw[hv]at e2;exact⟨e2,r1⟩}
def tK{α:Type}(f:α->LI)(l:List α):LI:=cat (vi l.length::l.map f)
def mj(i:Int):LI:=vi i.toNat
def VE{c n:Nat}(en:Hid (l.length=n)){w:World}(h:qT w (.S p n c) l)(hn:n<=900)(hu:Hid (∀i∈l,0<=i/\i<18446744073709551616))(eN:Hid ((tK mj l).length=N))(hN:N<=4194304):Cp 173 #[.S p n c,.func (.func 145) #[] #[]] w fun e w'=>∃p' c',e=.returned (.S p' N c')/\Own w.heap.size w' (.S p' N c') (tK mj l)/\Bw w w':=by
 obtain⟨ib,hib,nO,iL,ju⟩:=info_parts Tryz.infoSl;have HR:=af fun(w':World)(hb:Bw w w')=>h.below hb;clear h;have wn:IntKind.u64.wrap (n:Int)=(n:Int):=by rw[IntKind.wrap_u64];omega
 go_enter func173,ntmps173;go_wp2_with fail;refine(iQ ae).mono ?_;rintro r w1⟨p1,c1,rfl,o1,b1⟩;obtain⟨Ls0,hP⟩:=qU.one o1 b1.size;obtain⟨v0,oK⟩:=au (w1.alloc (.cells #[.S p1 (vi n).length c1] 22));have hb0:Bw w v0:=by rw[oK];exact b1.alloc b1.size _
 rw[<-oK]at hP;have HP:=af hP;clear hP o1;generalize(vi n).length=M at*;go_wp2;rw[<-oK];clear oK b1
 go_loopw[5,15](fun pv iv wr=>∃(k:Nat)(p2:OA)(c2:Nat)(Ls:List (List Lf)),k<=n/\pv=.S p2 (k+1) c2/\iv=.I k/\Hid (qU w.heap.size wr (.S p2 (k+1) c2) (vi n::(l.take k).map mj) Ls)/\Bw w wr) (fun _ iv _=>n-(intOf iv).toNat)
 exact⟨0,_,_,_,gq _,rfl,rfl,HP,hb0⟩;{
 obtain⟨k,p2,c2,Ls,hk,rfl,rfl,ho,aG⟩:=hrel;by_cases aX:k<n;{
 have bu:=aP k n;have dA:k<l.length:=by rw[aa en];exact aX
 obtain⟨i,hy⟩:∃y,l[k]?=some y:=⟨_,aO dA⟩;have hi:=aa hu i (aS hy);obtain⟨v,rfl⟩:∃v:Nat,i=(v:Int):=⟨i.toNat,ae⟩;obtain⟨b,o,rfl,hc⟩:∃b o,p=some ⟨b,o,none⟩/\wr.cell? ⟨b,o+k,none⟩=some (.U v):=by obtain⟨p',c',ev,hd⟩:=aa HR _ aG;simp only[dU]at ev;obtain⟨rfl,-,-⟩:=ev;rcases hd with h0|⟨b,o,h1,h2⟩;{rw[h0]at dA;simp at dA};{refine⟨b,o,h1,?_⟩;have:=h2 k dA;rw[gj,hy,qI]at this;exact this}
 have HY:=af hy;clear dA hy;have wk:IntKind.i64.wrap ((k:Int)+1)=((k+1:Nat):Int):=by rw[ni _ ae];omega
 go_wp2_with fail;refine(iQ ae).mono ?_;rintro r w3⟨p3,c3,rfl,o3,bf⟩;have b3:=aj aG bf;have hA:Bw w3 (w3.alloc (.cells #[.S p3 (vi v).length c3] 22)):=ay.alloc ao _;have OZ:=ho.below xl.keep (aj bf hA);have zt:=ho.lt;obtain⟨lb,q1,q2,-,q4⟩:=vV (kd:=.u8) (Own.below o3 hA);have elz:xl (w3.alloc (.cells #[.S p3 (vi v).length c3] 22)) (vi v) [.S p3 (vi v).length c3] lb:=⟨p3,c3,rfl,(Own.below o3 hA).rd,q1⟩;obtain⟨cs,g1,g2,g3,g4,g5,g6,g7⟩:=id OZ;have mG:(vi n::(l.take k).map mj).length=k+1:=by rw[iU,fe,pK,aa en];omega
 rw[mG]at g4;have z3:=bf.size;have zr:=aG.size;have EL:=af elz;have Q2:=af q2;have GG:=af (ah g1 (ah g2 (ah g3 (ah g5 (ah g6 g7)))));have Gx:=af zt;have LX:=af mG;clear hc o3 OZ q1 q2 q4 elz g1 g2 g3 g5 g6 g7 zt mG ho;obtain⟨M3,eM3⟩:=aI ((vi v).length);rw[eM3]at g4 EL Q2 GG hA⊢;have EM3:=af eM3;clear eM3;have hcZ:∀j u,[Value.slice p3 M3 c3][j]?=some u->(w3.alloc (.cells #[.S p3 M3 c3] 22)).cell? ⟨w3.heap.size,j,none⟩=some u:=fun j u hu=>by have:=(al.alloc w3 #[.S p3 M3 c3] 22).1 j u (by simpa using hu);exact this
 go_wp2_with(at_builtin;refine cI rfl 59 rfl ib 1 underlying59 hib nO iL ju rfl aU (.S p2 (k+1) c2) rfl g4 w3.heap.size 1 1 [.S p3 M3 c3] rfl rfl hcZ (fun u hu=>by simp at hu;subst hu;rfl) ic ae bj ?_);intro v' w9 dh hg lG;obtain⟨p9,c9,rfl⟩:∃p9 c9,v'=.S p9 (k+1+1) c9:=by rcases dh.2 with⟨rfl,h0⟩|⟨g,cap,cur,rfl,-⟩;{omega};{exact⟨_,_,rfl⟩}
 obtain⟨g1,g2,g3,g5,g6,g7⟩:=aa GG;have zt:=aa Gx;have BM:w9.ownsRow w.heap.size 22 1 (.S p9 (k+1+1) c9) ((vi n::(l.take k).map mj).length+1) (cs.flatten++[.S p3 M3 c3]):=by rw[aa LX];exact dh
 have sn:=OwnT.snoc g1 g2 g3 g5 g6 g7 xl.keep EL rfl Q2 ae (fun a ha=>(zt.2 a ha).2) (fun b hb=>(zt.1 b hb).2) BM hg (fun g sU=>by have:=lG g sU;simpa using this)
 have eL:(vi n::(l.take k).map mj)++[vi v]=vi n::(l.take (k+1)).map mj:=by rw[ng,aa HY,ko];simp[mj]
 rw[eL]at sn;have vI:Bw w w9:=(b3.alloc b3.size _).grown hg bj (fun b hb=>(zt.1 b hb).1);have SN:=af sn;clear sn eL dh BM hg lG g1 g2 g3 g4 g5 g6 g7 zt hcZ GG EL Q2;go_wp2;go_roundw;exact⟨k+1,_,_,_,ae,rfl,by go_num,SN,vI⟩;exact bG};{
 have bu:=du k n;have vL:n=k:=ae;subst vL;have hO:=aa ho;rw[kq (by rw[aa en];exact jS _)]at hO;have mG:(vi n::l.map mj).length=n+1:=by rw[iU,fe,aa en]
 obtain⟨G,vs,rfl,hPa⟩:=hO.parts mG ae;have HPA:=af hPa;have EE:Hid (tK mj l=cat (vi n::l.map mj)):=by show _=_;rw[tK,aa en]
 have LX:=af mG.symm;clear hO hPa mG ho hk aX;go_wp2_with fail;refine(ur LX EE eN HPA hN ae).mono ?_;rintro r w5⟨p5,c5,rfl,o5,dS⟩;have b5:=aj aG dS;have O5:=af (Own.mono (B':=w.heap.size) o5 aG.size);clear o5 dS;go_wp2;go_ret;exact⟨p5,c5,rfl,O5,b5⟩}}
abbrev Md(w:World)(b:Nat)(v0 v1 v2 v3 v4 v5 v6 v7:Value):Prop:=w.cell? ⟨b,0,none⟩=some v0/\w.cell? ⟨b,1,none⟩=some v1/\w.cell? ⟨b,2,none⟩=some v2/\w.cell? ⟨b,3,none⟩=some v3/\w.cell? ⟨b,4,none⟩=some v4/\w.cell? ⟨b,5,none⟩=some v5/\w.cell? ⟨b,6,none⟩=some v6/\w.cell? ⟨b,7,none⟩=some v7
def Md.below{w w':World}{v7:Value}(h:Md w b v0 v1 v2 v3 v4 v5 v6 v7)(hb:Bw w w'):Md w' b v0 v1 v2 v3 v4 v5 v6 v7:=
 ⟨ag h.1 hb,ag h.2.1 hb,ag h.2.2.1 hb,ag h.2.2.2.1 hb,ag h.2.2.2.2.1 hb,ag h.2.2.2.2.2.1 hb,ag h.2.2.2.2.2.2.1 hb,ag h.2.2.2.2.2.2.2 hb⟩
def bj6(h:u.cell? ⟨b,0,none⟩=some (.int .u8 y)):Rd u (.T b 1 1) [y]:=by
 refine⟨_,_,rfl,.inr ⟨b,0,rfl,fun i hi=>?_⟩⟩;have e:i=0:=by simpa using hi
 subst e;simpa using h
def uL{v:Nat}{w:World}(h64:v<18446744073709551616)(eM:Hid ((vi v).length=M)):Cp 145 #[.U v] w fun e w'=>∃p' c',e=.returned (.S p' M c')/\Own w.heap.size w' (.S p' M c') (vi v)/\Bw w w':=by
 have e:=aa eM;subst e;exact iQ h64
theorem as3{l5 l6:LI}(e:Hid (lm=cat [l0,l1,l2,l3,l4,l5,l6]))(en:Hid (lm.length=N))(r0:Rd X v0 l0)(r1:Rd X v1 l1)(r2:Rd X v2 l2)(r3:Rd X v3 l3)(r4:Rd X v4 l4)(r5:Rd X v5 l5)(r6:Rd X v6 l6)(hl:N<=4194304):Cp 62 #[.T X.heap.size 7 7] (X.alloc (.cells #[v0,v1,v2,v3,v4,v5,v6] 22)) fun e w'=>∃p' c',e=.returned (.S p' N c')/\Own X.heap.size w' (.S p' N c') lm/\Bw X w':=by
 have ba:Bw X (X.alloc (.cells #[v0,v1,v2,v3,v4,v5,v6] 22)):=ay.alloc ao _;refine(fM (vs:=[v0,v1,v2,v3,v4,v5,v6]) [l0,l1,l2,l3,l4,l5,l6] 7 rfl e en ⟨rfl,fun j v x e1 e2=>?_⟩ hl ae).mono ?_;{
 match j,e1,e2 with
 |0,e1,e2=>simp at e1 e2;subst e1 e2;exact⟨ai,r0.below ba⟩
 |1,e1,e2=>simp at e1 e2;subst e1 e2;exact⟨ai,r1.below ba⟩
 |2,e1,e2=>simp at e1 e2;subst e1 e2;exact⟨ai,r2.below ba⟩
 |3,e1,e2=>simp at e1 e2;subst e1 e2;exact⟨ai,r3.below ba⟩
 |4,e1,e2=>simp at e1 e2;subst e1 e2;exact⟨ai,r4.below ba⟩
 |5,e1,e2=>simp at e1 e2;subst e1 e2;exact⟨ai,r5.below ba⟩
 |6,e1,e2=>simp at e1 e2;subst e1 e2;exact⟨ai,r6.below ba⟩}
 {rintro e w'⟨p',c',rfl,o,hb⟩;exact⟨p',c',rfl,Own.mono o ai,aj ba hb⟩}
def W6(P V:LI)(ow:Nat)(mo:Int)(H:LI)(ep ge:Nat):LI:=cat [tx P,tx V,vi ow,[mo],tK mj H,vi ep,vi ge]
def nM(nd:aB):LI:=W6 nd.path nd.value nd.owner.toNat nd.mode nd.holders nd.aJ.toNat nd.gen.toNat
theorem Kh{p q r:OA}{n c m d k f:Nat}{U:Value}{H:LI}{ow ep ge:Nat}{mo:Int}(eP:Hid (P.length=n))(eV:Hid (V.length=m))(eH:Hid (H.length=k)){w:World}(hP:Rd w (.S p n c) P)(hV:Rd w (.S q m d) V)(hH:qT w (.S r k f) H)(bn:n<=1048576)(bm:m<=1048576)(bk:k<=900)(hu:Hid (∀i∈H,0<=i/\i<18446744073709551616))(b1:ow<18446744073709551616)(b2:ep<18446744073709551616)(b3:ge<18446744073709551616)(bmo:0<=mo/\mo<=2)(eN:Hid ((W6 P V ow mo H ep ge).length=N))(hN:N<=4194304):Cp 149 #[YL (.S p n c) (.S q m d) ow mo (.S r k f) ep ge U] w fun e w'=>∃p' c',e=.returned (.S p' N c')/\Own w.heap.size w' (.S p' N c') (W6 P V ow mo H ep ge)/\Bw w w':=by
 have HP:=af fun(w':World)(hb:Bw w w')=>ah (hP.below hb) (ah (hV.below hb) (hH.below hb));clear hP hV hH;have wm:IntKind.u8.wrap mo=mo:=by rw[IntKind.wrap_u8];omega
 obtain⟨N0,e0⟩:∃M,Hid ((tx P).length=M):=⟨_,bq⟩;obtain⟨N1,e1⟩:∃M,Hid ((tx V).length=M):=⟨_,bq⟩;obtain⟨N2,e2⟩:∃M,Hid ((vi ow).length=M):=⟨_,bq⟩;obtain⟨N4,e4⟩:∃M,Hid ((tK mj H).length=M):=⟨_,bq⟩;obtain⟨N5,e5⟩:∃M,Hid ((vi ep).length=M):=⟨_,bq⟩;obtain⟨N6,e6⟩:∃M,Hid ((vi ge).length=M):=⟨_,bq⟩;have hN4:N4<=4194304:=by have h1:=aa eN;have h2:=aa e4;simp only[W6,cat,ti,ig]at h1;omega
 have EE:Hid (W6 P V ow mo H ep ge=cat [tx P,tx V,vi ow,[mo],tK mj H,vi ep,vi ge]):=by show _=_;rfl
 obtain⟨W0,dV⟩:=au (w.alloc (.cells #[.S p n c,.S q m d,.U ow,.I mo,.S r k f,.U ep,.U ge,U] 93));have bW0:=dO dV;have hA8:Md W0 w.heap.size (.S p n c) (.S q m d) (.U ow) (.I mo) (.S r k f) (.U ep) (.U ge) U:=by rw[dV];simp[Md,go_sem]
 go_enter func149,ntmps149;go_wp2_with fail;rw[<-dV];obtain⟨v,oK⟩:=au W0.drew;have BW:Hid (Bw w v):=by rw[oK];exact bW0.drew
 have S:Hid (Md v w.heap.size (.S p n c) (.S q m d) (.U ow) (.I mo) (.S r k f) (.U ep) (.U ge) U):=by rw[oK];exact hA8
 refine dy (fun w'=>Md w' w.heap.size (.S p n c) (.S q m d) (.U ow) (.I mo) (.S r k f) (.U ep) (.U ge) U) (by rw[<-oK];exact aa S) fun hS=>?_;rw[<-oK]at hS⊢;clear oK dV bW0 hA8;refine mn 0 1 3 4 6 7 9 10 hS ?_;refine mu 11 13 14 16 hS ?_;refine jZ 17 19 hS ?_;refine tn 20 hS ?_
 iterate 7 (
  all_goals(first|refine Mg 2 (fun KK hK=>?_)|refine Mg 5 (fun KK hK=>?_)|refine Mg 8 (fun KK hK=>?_)|refine Mg 15 (fun KK hK=>?_)|refine Mg 18 (fun KK hK=>?_)|refine Mg 21 (fun KK hK=>?_)|refine Mg 12 (fun KK hK=>?_)|refine TJ 2 12 (fun KK hK=>?_) (fun KK hK=>?_)|refine TJ 5 12 (fun KK hK=>?_) (fun KK hK=>?_)|refine TJ 8 12 (fun KK hK=>?_) (fun KK hK=>?_)|refine TJ 12 15 (fun KK hK=>?_) (fun KK hK=>?_)|refine TJ 12 18 (fun KK hK=>?_) (fun KK hK=>?_)|refine TJ 12 21 (fun KK hK=>?_) (fun KK hK=>?_))
  all_goals(first
   |(
    refine Tag.go 2 ?_;refine jJ (lK eP (aa HP _ BW).1 bn e0) ?_;rintro z9 v'⟨pA,cA,rfl,o,hb⟩;refine⟨_,rfl,?_⟩;have RA:=af o.rd;clear o)
   |(
    refine Tag.go 5 ?_;refine jJ (lK eV (aa HP _ BW).2.1 bm e1) ?_;rintro z9 v'⟨pB,cB,rfl,o,hb⟩;refine⟨_,rfl,?_⟩;have RB:=af o.rd;clear o)
   |(
    refine Tag.go 8 ?_;refine jJ (uL b1 e2) ?_;rintro z9 v'⟨pC,cC,rfl,o,hb⟩;refine⟨_,rfl,?_⟩;have RC:=af o.rd;clear o)
   |(
    refine Tag.go 15 ?_;refine xR (VE eH (aa HP _ BW).2.2 bk hu e4 hN4) ?_;rintro z9 v'⟨pD,cD,rfl,o,hb⟩;refine⟨_,rfl,?_⟩;have RD:=af o.rd;clear o)
   |(
    refine Tag.go 18 ?_;refine jJ (uL b2 e5) ?_;rintro z9 v'⟨pE,cE,rfl,o,hb⟩;refine⟨_,rfl,?_⟩;have RE:=af o.rd;clear o)
   |(
    refine Tag.go 21 ?_;refine jJ (uL b3 e6) ?_;rintro z9 v'⟨pF,cF,rfl,o,hb⟩;refine⟨_,rfl,?_⟩;have RF:=af o.rd;clear o)
   |(
    refine Tag.go 12 ?_;go_simp;obtain⟨v',hv⟩:=au (v.alloc (.cells #[.int .u8 mo] 5));have hb:=dO hv;have hp:v'.cell? ⟨v.heap.size,0,none⟩=some (.int .u8 mo):=by rw[hv];simp
    rw[<-hv];obtain⟨GL,hGL⟩:=au v.heap.size;rw[<-hGL]at hp⊢;have RL:=af (bj6 hp);clear hv hp hGL))
  all_goals(
   have S:=af (S.below hb);have BW:=af (aj BW hb)
   try have RA:=af (RA.below hb)
   try have RB:=af (RB.below hb)
   try have RC:=af (RC.below hb)
   try have RD:=af (RD.below hb)
   try have RE:=af (RE.below hb)
   try have RF:=af (RF.below hb)
   try have RL:=af (RL.below hb)
   refine gr hK (by exact S) fun hS=>?_;clear hK KK hb
   rename World=>v
   skip))
 all_goals(
  refine dE 22 (fun KK hK=>?_);go_simp;obtain⟨Y,hY⟩:=au (v.alloc (.cells #[.S pA N0 cA,.S pB N1 cB,.S pC N2 cC,.T GL 1 1,.S pD N4 cD,.S pE N5 cE,.S pF N6 cF] 22));have hbY:=dO hY;have SY:=af (S.below hbY);have JJ:=af (as3 EE eN RA RB RC RL RD RE RF hN);rw[<-hY]at JJ⊢;refine gr hK (by exact SY) fun hS=>?_;clear hK KK hY hbY;refine dE 23 (fun KK hK=>?_);refine jJ JJ ?_;rintro z9 Z⟨pj,cj,rfl,oj,rQ⟩;refine⟨_,rfl,?_⟩;have FI:=af (ah (Own.mono (B':=w.heap.size) oj BW.size) (aj (aa BW) rQ));refine gr hK (by exact S.below rQ) fun hS=>?_;clear hK KK oj rQ;refine tn 24 hS ?_;refine di ?_;clear hS;go_wp2;go_ret;exact⟨pj,cj,rfl,FI⟩
  skip)
def tY(s:aR):LI:=vi s.1.toNat
def JU{v:Nat}{d:Int}{n c:Nat}{w:World}(h64:v<18446744073709551616):Cp 147 #[.agg #[.U v,.I d,.S p n c]] w fun e w'=>∃p' c',e=.returned (.S p' (vi v).length c')/\Own w.heap.size w' (.S p' (vi v).length c') (vi v)/\Bw w w':=by
 go_enter func147,ntmps147;go_wp2_with fail;have hb:Bw w (w.alloc (.cells #[.U v,.I d,.S p n c] 86)):=ay.alloc ao _;refine(iQ h64).mono ?_;rintro r w1⟨p1,c1,rfl,o1,b1⟩;have b2:=aj hb b1;have o2:=Own.mono (B':=w.heap.size) o1 ai;clear o1 b1;go_wp2;go_ret;exact⟨p1,c1,rfl,o2,b2⟩
def VF{c n:Nat}{l:List aR}(en:Hid (l.length=n)){w:World}(h:nI w (.S p n c) l)(hn:n<=900)(hu:Hid (∀s∈l,0<=s.1/\s.1<18446744073709551616))(eN:Hid ((tK tY l).length=N))(hN:N<=4194304):Cp 146 #[.S p n c,.func (.func 147) #[] #[]] w fun e w'=>∃p' c',e=.returned (.S p' N c')/\Own w.heap.size w' (.S p' N c') (tK tY l)/\Bw w w':=by
 obtain⟨ib,hib,nO,iL,ju⟩:=info_parts Tryz.infoSl;have HR:=af fun(w':World)(hb:Bw w w')=>h.below hb;clear h;have wn:IntKind.u64.wrap (n:Int)=(n:Int):=by rw[IntKind.wrap_u64];omega
 go_enter func146,ntmps146;go_wp2_with fail;refine(iQ ae).mono ?_;rintro r w1⟨p1,c1,rfl,o1,b1⟩;obtain⟨Ls0,hP⟩:=qU.one o1 b1.size;obtain⟨v0,oK⟩:=au (w1.alloc (.cells #[.S p1 (vi n).length c1] 22));have hb0:Bw w v0:=by rw[oK];exact b1.alloc b1.size _
 rw[<-oK]at hP;have HP:=af hP;clear hP o1;generalize(vi n).length=M at*;go_wp2;rw[<-oK];clear oK b1
 go_loopw[5,15](fun pv iv wr=>∃(k:Nat)(p2:OA)(c2:Nat)(Ls:List (List Lf)),k<=n/\pv=.S p2 (k+1) c2/\iv=.I k/\Hid (qU w.heap.size wr (.S p2 (k+1) c2) (vi n::(l.take k).map tY) Ls)/\Bw w wr) (fun _ iv _=>n-(intOf iv).toNat)
 exact⟨0,_,_,_,gq _,rfl,rfl,HP,hb0⟩;{
 obtain⟨k,p2,c2,Ls,hk,rfl,rfl,ho,aG⟩:=hrel;by_cases aX:k<n;{
 have bu:=aP k n;have dA:k<l.length:=by rw[aa en];exact aX
 obtain⟨⟨i,dl,qu⟩,hy⟩:∃y,l[k]?=some y:=⟨_,aO dA⟩;have hi:=aa hu _ (aS hy);dsimp only at hi;obtain⟨v,rfl⟩:∃v:Nat,i=(v:Int):=⟨i.toNat,ae⟩;obtain⟨b,o,rfl,qL,iD,pq,nq,cq,js⟩:∃b o,p=some ⟨b,o,none⟩/\wr.cell? ⟨b,o+k*3,none⟩=some (.U v)/\wr.cell? ⟨b,o+k*3+1,none⟩=some (.I dl)/\∃pq nq cq,wr.cell? ⟨b,o+k*3+2,none⟩=some (.S pq nq cq):=by obtain⟨p',c',ev,hd⟩:=aa HR _ aG;simp only[dU]at ev;obtain⟨rfl,-,-⟩:=ev;rcases hd with h0|⟨b,o,h1,h2⟩;{rw[h0]at dA;simp at dA};{obtain⟨d1,d2,u,d3,d4⟩:=h2 k _ hy;obtain⟨pq,cq,rfl,-⟩:=d4;exact⟨b,o,h1,d1,d2,pq,_,cq,d3⟩}
 have HY:=af hy;clear dA hy;have wk:IntKind.i64.wrap ((k:Int)+1)=((k+1:Nat):Int):=by rw[ni _ ae];omega
 go_wp2_with fail;obtain⟨X,hX⟩:=au (wr.alloc (.cells #[.U v,.I dl,.S pq nq cq] 86));have GN:=dO hX;have mP:=af (ho.below xl.keep GN);have aa8:=aj aG GN;rw[<-hX];clear hX ho aG GN;refine(JU ae).mono ?_;rintro r w3⟨p3,c3,rfl,o3,bf⟩;have b3:=aj aa8 bf;have hA:Bw w3 (w3.alloc (.cells #[.S p3 (vi v).length c3] 22)):=ay.alloc ao _;have OZ:=mP.below xl.keep (aj bf hA);have zt:=mP.lt;obtain⟨lb,q1,q2,-,q4⟩:=vV (kd:=.u8) (Own.below o3 hA);have elz:xl (w3.alloc (.cells #[.S p3 (vi v).length c3] 22)) (vi v) [.S p3 (vi v).length c3] lb:=⟨p3,c3,rfl,(Own.below o3 hA).rd,q1⟩;obtain⟨cs,g1,g2,g3,g4,g5,g6,g7⟩:=id OZ;have mG:(vi n::(l.take k).map tY).length=k+1:=by rw[iU,fe,pK,aa en];omega
 rw[mG]at g4;have z3:=bf.size;have zr:=aa8.size;have EL:=af elz;have Q2:=af q2;have GG:=af (ah g1 (ah g2 (ah g3 (ah g5 (ah g6 g7)))));have Gx:=af zt;have LX:=af mG;clear qL iD js o3 OZ q1 q2 q4 elz g1 g2 g3 g5 g6 g7 zt mG mP;obtain⟨M3,eM3⟩:=aI ((vi v).length);rw[eM3]at g4 EL Q2 GG hA⊢;have EM3:=af eM3;clear eM3;have hcZ:∀j u,[Value.slice p3 M3 c3][j]?=some u->(w3.alloc (.cells #[.S p3 M3 c3] 22)).cell? ⟨w3.heap.size,j,none⟩=some u:=fun j u hu=>by have:=(al.alloc w3 #[.S p3 M3 c3] 22).1 j u (by simpa using hu);exact this
 go_wp2_with(at_builtin;refine cI rfl 59 rfl ib 1 underlying59 hib nO iL ju rfl aU (.S p2 (k+1) c2) rfl g4 w3.heap.size 1 1 [.S p3 M3 c3] rfl rfl hcZ (fun u hu=>by simp at hu;subst hu;rfl) ic ae bj ?_);intro v' w9 dh hg lG;obtain⟨p9,c9,rfl⟩:∃p9 c9,v'=.S p9 (k+1+1) c9:=by rcases dh.2 with⟨rfl,h0⟩|⟨g,cap,cur,rfl,-⟩;{omega};{exact⟨_,_,rfl⟩}
 obtain⟨g1,g2,g3,g5,g6,g7⟩:=aa GG;have zt:=aa Gx;have BM:w9.ownsRow w.heap.size 22 1 (.S p9 (k+1+1) c9) ((vi n::(l.take k).map tY).length+1) (cs.flatten++[.S p3 M3 c3]):=by rw[aa LX];exact dh
 have sn:=OwnT.snoc g1 g2 g3 g5 g6 g7 xl.keep EL rfl Q2 ae (fun a ha=>(zt.2 a ha).2) (fun b hb=>(zt.1 b hb).2) BM hg (fun g sU=>by have:=lG g sU;simpa using this)
 have eL:(vi n::(l.take k).map tY)++[vi v]=vi n::(l.take (k+1)).map tY:=by rw[ng,aa HY,ko];simp[tY]
 rw[eL]at sn;have vI:Bw w w9:=(b3.alloc b3.size _).grown hg bj (fun b hb=>(zt.1 b hb).1);have SN:=af sn;clear sn eL dh BM hg lG g1 g2 g3 g4 g5 g6 g7 zt hcZ GG EL Q2;go_wp2;go_roundw;exact⟨k+1,_,_,_,ae,rfl,by go_num,SN,vI⟩;exact bG};{
 have bu:=du k n;have vL:n=k:=ae;subst vL;have hO:=aa ho;rw[kq (by rw[aa en];exact jS _)]at hO;have mG:(vi n::l.map tY).length=n+1:=by rw[iU,fe,aa en]
 obtain⟨G,vs,rfl,hPa⟩:=hO.parts mG ae;have HPA:=af hPa;have EE:Hid (tK tY l=cat (vi n::l.map tY)):=by show _=_;rw[tK,aa en]
 have LX:=af mG.symm;clear hO hPa mG ho hk aX;go_wp2_with fail;refine(ur LX EE eN HPA hN ae).mono ?_;rintro r w5⟨p5,c5,rfl,o5,dS⟩;have b5:=aj aG dS;have O5:=af (Own.mono (B':=w.heap.size) o5 aG.size);clear o5 dS;go_wp2;go_ret;exact⟨p5,c5,rfl,O5,b5⟩}}
def De(e g x:Nat)(ss:List aR)(ns:List aB):LI:=cat [vi e,vi g,vi x,tK tY ss,tK nM ns]
def Uo{α:Type}(f:α->LI)(h:α->α)(hf:∀x,f (h x)=f x)(l:List α):tK f (l.map h)=tK f l:=by
 rw[tK,tK,fe,uj]
 congr 2
 exact yz fun x _=>hf x
def an8(e g x:Nat)(ss:List aR)(ns:List aB):De e g x (ss.map gI) (ns.map iG)=De e g x ss ns:=by
 rw[De,De,Uo tY gI (fun _=>rfl),Uo nM iG (fun _=>rfl)]
theorem DC{α:Type}(f:α->LI)(C:Nat):∀l:List α,(∀x∈l,(f x).length<=C)->(cat (l.map f)).length<=C*l.length
 |[],_=>gq _
 |x::l,h=>by have h1:=DC f C l fun y hy=>h y (by simp[hy]);have h2:=h x ai;rw[iH,cat,ti,ig,iU,YP];rw[cat]at h1;omega
def qJ{α:Type}(f:α->LI)(l:List α):tK f l=vi l.length++cat (l.map f):=by rw[tK,cat,ti,cat]
structure UZ(ss:List aR)(ns:List aB):Prop where
 n1:ss.length<=50
 n2:ns.length<=200
 s:∀s∈ss,0<=s.1/\s.1<18446744073709551616
 d:∀nd∈ns,(nd.path.length<=136/\nd.value.length<=40/\nd.holders.length<=50)/\(0<=nd.mode/\nd.mode<=2)/\(0<=nd.owner/\nd.owner<18446744073709551616)/\(0<=nd.aJ/\nd.aJ<18446744073709551616)/\(0<=nd.gen/\nd.gen<18446744073709551616)/\∀i∈nd.holders,0<=i/\i<18446744073709551616
def UZ.w(h:UZ ss ns):SmW ss ns:=⟨fW h.n1 (by decide),fW h.n2 (by decide),h.s,fun nd br=>by
 obtain⟨⟨a,b,c⟩,d,e⟩:=h.d nd br;exact⟨⟨a,ae,ae⟩,ae,e⟩⟩
def UZ.dur(h:UZ ss ns):UZ (ss.map gI) (ns.map iG):=by
 refine⟨by rw[fe];exact h.n1,by rw[fe];exact h.n2,fun s hs=>?_,fun nd br=>?_⟩;{obtain⟨s0,h0,rfl⟩:=iJ.1 hs;exact h.s s0 h0};{obtain⟨n0,h0,rfl⟩:=iJ.1 br;exact h.d n0 h0}
def XX(h:mw e g x t ss ns=true)(OJ:∀nd∈ns,(∀i∈nd.holders,0<=i/\i<18446744073709551616)/\∀i∈nd.watchers,0<=i/\i<18446744073709551616)(hou:∀nd∈ns,0<=nd.owner/\nd.owner<18446744073709551616)(hep:∀nd∈ns,(0<=nd.aJ/\nd.aJ<18446744073709551616)/\0<=nd.gen/\nd.gen<18446744073709551616):UZ ss ns:=by
 obtain⟨h1,h2,h3,h4,h5⟩:=(DW e g x t (ss:=ss) (ns:=ns)).1 h;simp only[BI,jg]at h1;refine⟨ae,ae,JS h2 ae,fun nd br=>?_⟩;have hv:=h3;rw[km,fu]at hv;have Xc:∀y∈ns,vf e g y=true:=(lW ns gu (vf e g)).1 fun i hi=>iT.1 hv.1 i (yv.2 hi);have Rz:=Xc nd br;simp only[vf,fu,jg]at Rz;obtain⟨g1,g2,g3,g4,g5⟩:=Rz;refine⟨⟨Aa g1,g2,?_⟩,?_,hou nd br,(hep nd br).1,(hep nd br).2,(OJ nd br).1⟩;{
 have ha:=Gr g4;have au0:nd.holders.Nodup:=ha.imp (fun{a b}Ql=>ae);have:=Dr nd.holders (ss.map (·.1)) au0 fun i hi=>by have:=h5 nd br i (by unfold vN;simp[hi]);obtain⟨z,hz,rfl⟩:=(Fi (ss:=ss) (i:=i)).1 this;exact iJ.2 ⟨z,hz,rfl⟩
 rw[fe]at this;omega};{unfold fg at g3;split at g3;{omega};{simp only[fu]at g3;have:=g3.2.2;split at this;{omega};{simp only[fu,NC]at this;omega}}}
def Kk(h:SmW ss ns):∀nd∈ns,(nM nd).length<=800/\(tK mj nd.holders).length<=520:=by
 intro nd br;obtain⟨⟨h1,h2,h3⟩,-⟩:=h.d nd br;have a1:=tS nd.path;have a2:=tS nd.value;have a3:=ew nd.owner.toNat;have a4:=ew nd.aJ.toNat;have a5:=ew nd.gen.toNat;have a6:(tK mj nd.holders).length<=520:=by have b1:=ew nd.holders.length;have b2:=DC mj 10 nd.holders fun x _=>(ew _).2;rw[qJ,ig];omega
 refine⟨?_,a6⟩;simp only[nM,W6,cat,ti,Ze,ig,iU,yr];omega
def an7{e g x:Nat}(h:SmW ss ns):(De e g x ss ns).length<=200000/\(tK tY ss).length<=600/\(tK nM ns).length<=170000:=by
 have a1:=ew e;have a2:=ew g;have a3:=ew x;have b1:=ew ss.length;have b2:=DC tY 10 ss fun x _=>(ew _).2;have b3:=ew ns.length;have b4:=DC nM 800 ns fun x hx=>(Kk h x hx).1;have:=h.n1;have:=h.n2;have c1:(tK tY ss).length<=600:=by rw[qJ,ig];omega
 have c2:(tK nM ns).length<=170000:=by rw[qJ,ig];omega
 refine⟨?_,c1,c2⟩;simp only[De,cat,ti,Ze,ig,yr];omega
def Ij(e g x t:Int)(ss:List aR)(ns:List aB):LI:=if mw e g x t ss ns=true then De e.toNat g.toNat x.toNat ss ns else[]
def Own.nil(B:Nat)(w:World):Own B w (.S none 0 0) []:=⟨rfl,.inl ⟨rfl,rfl⟩⟩
def PB.xk{w w':World}{M N z0:Nat}(h:PB w M N v xs A)(hM:z0<M)(hk:∀z,z≠z0->w'.heap[z]?=w.heap[z]?):PB w' M N v xs A:=
 have k:∀a∈A,w'.heap[a.b]?=w.heap[a.b]?:=fun a ha=>hk _ (by have:=h.ap.lo a ha;omega)
 ⟨h.rd.dH h.lv k,h.cap,h.lv,h.ap.keep k,h.hi⟩
def PU.xk{w w':World}{M N z0:Nat}(h:PU w M N v xs A)(hM:z0<M)(hk:∀z,z≠z0->w'.heap[z]?=w.heap[z]?):PU w' M N v xs A:=
 have k:∀a∈A,w'.heap[a.b]?=w.heap[a.b]?:=fun a ha=>hk _ (by have:=h.ap.lo a ha;omega)
 ⟨h.rd.dH h.lv k,h.lv,h.ap.keep k,h.hi⟩
def jE.pu{w:World}{n c:Nat}(h:jE B w (.S p n c) l):∃A,PU w B w.heap.size (.S p n c) l A:=by
 obtain⟨A,q1,q2,q3,q4⟩:=vV (kd:=.u64) h;refine⟨A,?_,q1,q2,fun a ha=>q2.vj.lt ha⟩;rcases h.2 with⟨e,h0⟩|⟨g,cap,cur,e,hb,hg,hr⟩;{rw[e];exact⟨none,0,by rw[h0],.inl (tp.1 h0)⟩};{rw[e]at h⊢;refine⟨_,cap,rfl,.inr ⟨g,0,rfl,fun i hi=>?_⟩⟩;have:=World.ownsRow.cellAt h i ae;rw[lu,this];simp[gj,hi]}
def JA.rde{w:World}{es:List Ev}(h:JA B w v es):Io w v es:=by
 obtain⟨p,c,rfl,-,-,hp⟩:=RT.form h;refine⟨p,c,rfl,?_⟩;by_cases h0:es=[];{exact .inl h0};{obtain⟨g,rfl⟩:=hp (Ub.2 h0);refine .inr ⟨g,0,rfl,fun i e hi=>?_⟩;obtain⟨cc,-,⟨P,ec,tP⟩,hc,-⟩:=RT.at h hi;subst ec;exact⟨by have:=hc 0 _ rfl;simpa using this,P,by have:=hc 1 _ rfl;simpa using this,tP.1⟩}
def kL.rds{w:World}{Qs:List Value}(h:kL B w v ss Qs):yZ w v ss:=by
 have hz:(ss.zip Qs).length=ss.length:=by rw[NG,h.len];simp
 obtain⟨p,c,e,-,-,hp⟩:=RT.form h.row;rw[hz]at e hp;subst e;refine⟨p,c,rfl,?_⟩;by_cases h0:ss=[];{exact .inl h0};{obtain⟨g,rfl⟩:=hp (Ub.2 h0);refine .inr ⟨g,0,rfl,fun i s hi=>?_⟩;have zy:=(aT.1 hi).1;obtain⟨Q,hQ⟩:∃Q,Qs[i]?=some Q:=⟨_,aO (by rw[h.len];exact zy)⟩;obtain⟨cc,-,ec,hc,-⟩:=RT.at h.row (i:=i) (x:=(s,Q)) (by rw[I5];exact⟨hi,hQ⟩);rw[show cc=_ from ec]at hc;exact⟨by have:=hc 0 _ rfl;simpa using this,by have:=hc 1 _ rfl;simpa using this,Q,by have:=hc 2 _ rfl;simpa using this,(h.Vr i s Q hi hQ).rde⟩}
def Lg{c n:Nat}{xs:List aB}{k:Int}{w:World}(h:xD w (.S p n c) xs A)(hA:bR w A k)(k0:0<=k)(k1:k+A.length<=100000000):Cp 36 #[.S p n c,.I k] w fun e w'=>e=.returned (.I (k+A.length))/\Bw w w':=by
 have OK:=h.len (fun x b a l hl=>hl.pos);obtain⟨Ls,en,lL,eA,fD⟩:=h.at;have vP:=af fD;have HA:=af (show bR w Ls.flatten k by rw[<-eA];exact hA);have EA:=af eA;have K1:k+(Ls.flatten.length:Int)<=100000000:=by rw[<-eA];exact k1
 have hn:n<=100000000:=ae;have LL:=af lL;clear h fD hA eA en lL OK;go_enter func36,ntmps36;go_wp2
 go_loopw[1,5](fun kk i wr=>∃j:Nat,j<=n/\i=.I j/\kk=.I (k+(((Ls.take j).flatten.length:Nat):Int))/\Bw w wr) (fun _ i _=>n-(intOf i).toNat)
 exact⟨0,gq _,rfl,ai,cW _ _⟩;{
 obtain⟨j,hj,rfl,rfl,aG⟩:=hrel;have hle:=aZ Ls j;by_cases aX:j<n;{
 have bu:=aP j n;obtain⟨b,o,x,l,rfl,hx,hl,hP,nE,gG⟩:=aa vP j aX;have hh:=(HA.flat nE).below aG;have Ie:(Ls.take (j+1)).flatten.length=(Ls.take j).flatten.length+l.length:=by rw[nE,ig]
 have oO:k+((Ls.take j).flatten.length:Int)+(l.length:Int)<=100000000:=by have:=aZ Ls (j+1);omega
 have HT:=af Ie;generalize hT:(Ls.take j).flatten.length=T at*;clear hT hx hl nE gG Ie;have hT0:0<=k+(T:Int):=ae;have Wi:=hP.below aG;obtain⟨p0,c0,p1,c1,p4,c4,p7,c7,l0,l1,l4,l7,rfl,⟨h1,h2⟩,⟨h3,h4⟩,⟨h5,h6⟩,⟨h7,h8⟩⟩:=Wi;have HD:=af (ah h1 (ah h3 (ah h5 h7)));have Gx:=af (ah h2 (ah h4 (ah h6 h8)));clear h1 h2 h3 h4 h5 h6 h7 h8;have hlen:k+(T:Int)+(4+(l0.length:Int)+(l1.length:Int)+(l4.length:Int)+(l7.length:Int))<=100000000:=by simp only[ig,iU]at oO;omega
 clear oO hP;have s0:bR wr l0 (k+(T:Int)):=(bR.app hh).1;have t0:=(bR.app hh).2;have s1:bR wr l1 (k+(T:Int)+(l0.length:Int)):=(bR.app t0).1;have t1:=(bR.app t0).2;have js:wr.cell? ⟨b,o+j*8+2,none⟩=some (.U (k+(T:Int)+(l0.length:Int)+(l1.length:Int))):=(bR.cons t1).1;have t2:=(bR.cons t1).2;have Cb:wr.cell? ⟨b,o+j*8+3,none⟩=some (.I (k+(T:Int)+(l0.length:Int)+(l1.length:Int)+1)):=(bR.cons t2).1;have t3:=(bR.cons t2).2;have s4:bR wr l4 (k+(T:Int)+(l0.length:Int)+(l1.length:Int)+1+1):=(bR.app t3).1;have t4:=(bR.app t3).2;have yK:wr.cell? ⟨b,o+j*8+5,none⟩=some (.U (k+(T:Int)+(l0.length:Int)+(l1.length:Int)+1+1+(l4.length:Int))):=(bR.cons t4).1;have t5:=(bR.cons t4).2;have uY:wr.cell? ⟨b,o+j*8+6,none⟩=some (.U (k+(T:Int)+(l0.length:Int)+(l1.length:Int)+1+1+(l4.length:Int)+1)):=(bR.cons t5).1;have t6:=(bR.cons t5).2;have s7:bR wr l7 (k+(T:Int)+(l0.length:Int)+(l1.length:Int)+1+1+(l4.length:Int)+1+1):=t6;have HS:=af (ah s0 (ah s1 (ah s4 (s7))));have tF:=af (ah js (ah Cb (ah yK (uY))));have W0:=af (cW wr.heap.size wr);clear hh t2 t3 t5 t6 t0 t1 t4 s0 s1 s4 s7 js Cb yK uY;have hd0:=ag HD.1 W0;go_wp2_with fail;clear hd0;refine(sF Gx.1 (HS.1.below W0) ae ae).mono ?_;rintro e v0⟨rfl,N0⟩;have BV0:=af (aj W0 N0);have aE8:¬k+(T:Int)+(l0.length:Int)<0:=ae;clear N0;have hd1:=ag HD.2.1 BV0;go_wp2_with fail;clear hd1;refine(sF Gx.2.1 (HS.2.1.below BV0) ae ae).mono ?_;rintro e v1⟨rfl,N1⟩;have BV1:=af (aj BV0 N1);have cJ3:¬k+(T:Int)+(l0.length:Int)+(l1.length:Int)<0:=ae;clear N1;have js:=ag tF.1 BV1;have cd0:((k+(T:Int)+(l0.length:Int)+(l1.length:Int)) != (k+(T:Int)+(l0.length:Int)+(l1.length:Int)))=false:=ai;have Cb:=ag tF.2.1 BV1;have cc9:((k+(T:Int)+(l0.length:Int)+(l1.length:Int)+1) != (k+(T:Int)+(l0.length:Int)+(l1.length:Int)+1))=false:=ai;have hd4:=ag HD.2.2.1 BV1;go_wp2_with fail;clear js cd0 Cb cc9 hd4;refine(uA Gx.2.2.1 (HS.2.2.1.below BV1) ae ae).mono ?_;rintro e v2⟨rfl,N2⟩;have BV2:=af (aj BV1 N2);have cJ2:¬k+(T:Int)+(l0.length:Int)+(l1.length:Int)+1+1+(l4.length:Int)<0:=ae;clear N2;have yK:=ag tF.2.2.1 BV2;have cc8:((k+(T:Int)+(l0.length:Int)+(l1.length:Int)+1+1+(l4.length:Int)) != (k+(T:Int)+(l0.length:Int)+(l1.length:Int)+1+1+(l4.length:Int)))=false:=ai;have uY:=ag tF.2.2.2 BV2;have cc7:((k+(T:Int)+(l0.length:Int)+(l1.length:Int)+1+1+(l4.length:Int)+1) != (k+(T:Int)+(l0.length:Int)+(l1.length:Int)+1+1+(l4.length:Int)+1))=false:=ai;have hd7:=ag HD.2.2.2 BV2;go_wp2_with fail;clear yK cc8 uY cc7 hd7;refine(uA Gx.2.2.2 (HS.2.2.2.below BV2) ae ae).mono ?_;rintro e v3⟨rfl,N3⟩;have BV3:=af (aj BV2 N3);have cJ1:¬k+(T:Int)+(l0.length:Int)+(l1.length:Int)+1+1+(l4.length:Int)+1+1+(l7.length:Int)<0:=ae;clear N3;have b1:=aj aG BV3;clear aG;go_wp2;go_roundw;exact⟨j+1,ae,by go_num,by rw[aa HT];first|go_num|(simp;omega)|(congr 1;simp;omega),by first|exact b1|exact below_drewN b1⟩;exact bG};{
 have e:j=n:=ae;subst e;have e2:(Ls.take j).flatten=A:=by rw[<-aa LL,mF];exact EA.symm
 rw[e2];clear hle vP HA;go_wp2;go_ret;exact⟨rfl,aG⟩}}
def Kl{p q:OA}{c n d m:Nat}{k:Int}{w:World}(h1:xt w (.S p n c) ss A1)(h2:xD w (.S q m d) ns A2)(i1:cQ w A1)(i2:cQ w A2)(k0:0<=k)(k1:k+A1.length+A2.length<=100000000):Cp 11 #[gh e g x t (.S p n c) (.S q m d),.I k] w fun r w'=>r=.returned (.I (k+A1.length+A2.length))/\Mk w w' (A1++A2) k:=by
 obtain⟨W,hW⟩:=au (w.alloc (.cells #[.U e,.U g,.U x,.I t,.S p n c,.S q m d] 32));have bW:=dO hW;have uY:jv W w.heap.size e g x t (.S p n c) (.S q m d):=by rw[hW];simp[jv]
 have M0:=Mk.dL bW k;have H1:=af (xt.below h1 bW);have H2:=af (xD.below h2 bW);have I1:=af (i1.below bW);have I2:=af (i2.below bW);have J:=af (ah i1 i2);have HM0:=af M0;have HC:=af uY;go_enter func11,ntmps11;go_wp2_with fail;rw[<-hW];refine(Cw H1 I1 k0 ae).mono ?_;rintro r w1⟨rfl,m1⟩;obtain⟨j0,j1,j2,j3,j4,j5⟩:=aa HC;have c4:w1.cell? ⟨w.heap.size,4,none⟩=some (.S p n c):=m1.head I1 j4;have c5:w1.cell? ⟨w.heap.size,5,none⟩=some (.S q m d):=m1.head I1 j5;have H3:=af (xD.mk H2 m1 I1);have I3:=af (I2.mk m1 I1);have M1:=af (HM0.trans' m1 ai (cQ.nil _) J.1);go_wp2_with fail;refine(Km H3 I3 ae ae).mono ?_;rintro r w2⟨rfl,m2⟩;have M2:=M1.trans' m2 ai (by simpa using J.1) J.2;go_wp2;go_ret;exact⟨rfl,by simpa using M2⟩
def Le{p q:OA}{c n d m:Nat}{k:Int}{w:World}(h1:xt w (.S p n c) ss A1)(h2:xD w (.S q m d) ns A2)(hh:bR w (A1++A2) k)(k0:0<=k)(k1:k+A1.length+A2.length<=100000000):Cp 12 #[gh e g x t (.S p n c) (.S q m d),.I k] w fun r w'=>r=.returned (.I (k+A1.length+A2.length))/\Bw w w':=by
 obtain⟨W,hW⟩:=au (w.alloc (.cells #[.U e,.U g,.U x,.I t,.S p n c,.S q m d] 32));have bW:=dO hW;have uY:jv W w.heap.size e g x t (.S p n c) (.S q m d):=by rw[hW];simp[jv]
 have H1:=af (xt.below h1 bW);have H2:=af (xD.below h2 bW);have I1:=af (hh.app.1.below bW);have I2:=af (hh.app.2.below bW);have HC:=af uY;go_enter func12,ntmps12;go_wp2_with fail;rw[<-hW];refine(CO H1 I1 k0 ae).mono ?_;rintro r w1⟨rfl,m1⟩;obtain⟨j0,j1,j2,j3,j4,j5⟩:=HC.below m1;have hp1:¬k+(A1.length:Int)<0:=ae;have H3:=af (xD.below H2 m1);have I3:=af (I2.below m1);have b1:=aj bW m1;go_wp2_with fail;refine(Lg H3 I3 ae ae).mono ?_;rintro r w2⟨rfl,m2⟩;have b2:=aj b1 m2;have hp2:¬k+(A1.length:Int)+(A2.length:Int)<0:=ae;go_wp2;go_ret;exact⟨rfl,b2⟩
def ag2(e:Ev):Nat:=1+e.2.length
def WD(s:aR):Nat:=2+iy ag2 s.2.2
def WE(nd:aB):Nat:=nd.path.length+(nd.value.length+(2+(nd.holders.length+(2+nd.watchers.length))))
theorem IC{α:Type}{F G:α->Nat}(l:List α)(h:∀x∈l,F x<=G x):iy F l<=iy G l:=by
 induction l with
 |nil=>exact jS _
 |cons x l ih=>
  have:=ih fun y hy=>h y (by simp[hy]);have:=h x ai;simp only[iy,iH,IZ]at*;omega
theorem MH{α:Type}(F:α->Nat)(k:Nat)(l:List α):iy (fun x=>k+F x) l=k*l.length+iy F l:=by
 induction l with
 |nil=>rfl
 |cons x l ih=>
  simp only[iy,iH,IZ,iU]at*;rw[ih,YP];omega
def aX1:iy WD ss+iy WE ns<=4*JN ss ns:=by
 have h1:iy WD ss<=iy (fun s=>2+IA s) ss:=IC ss fun s _=>by have:=MH (fun e:Ev=>e.2.length) 1 s.2.2;have e:iy ag2 s.2.2=iy (fun e:Ev=>1+e.2.length) s.2.2:=rfl;simp only[WD,IA];omega
 have h2:iy WE ns<=iy (fun s=>4+DS s) ns:=IC ns fun s _=>by simp only[WE,DS];omega
 rw[MH]at h1 h2;simp only[JN];omega
def il.rd{w:World}{p q:OA}{n c m d:Nat}(h:il B w p n c q m d ss ns):yZ w (.S p n c) ss/\qz w (.S q m d) ns:=by
 obtain⟨A1,A2,h1,h2,-⟩:=h;exact⟨h1.rd,h2⟩
def Im(B:Nat)(w:World)(A1 A2:List Lf)(p:OA)(n c:Nat)(q:OA)(m d:Nat)(ss:List aR)(ns:List aB):Prop:=
 nI w (.S p n c) ss/\qz w (.S q m d) ns/\xt w (.S p n c) ss A1/\xD w (.S q m d) ns A2/\mL B w (A1++A2)
def Im.keep{w w':World}{p q:OA}{n c m d:Nat}(h:Im B w A1 A2 p n c q m d ss ns)(hk:∀a∈A1++A2,w'.heap[a.b]?=w.heap[a.b]?):Im B w' A1 A2 p n c q m d ss ns:=by
 obtain⟨h1,h2,h3,h4,h5⟩:=h;have k1:∀a∈A1,w'.heap[a.b]?=w.heap[a.b]?:=fun a ha=>hk a (Bz _ ha);have k2:∀a∈A2,w'.heap[a.b]?=w.heap[a.b]?:=fun a ha=>hk a (CD _ ha);exact⟨h1.dH h3 k1,h2.dH h4 k2,xt.keep h3 k1,xD.keep h4 k2,h5.keep hk⟩
def Im.below{w w':World}{p q:OA}{n c m d:Nat}(h:Im B w A1 A2 p n c q m d ss ns)(hb:Bw w w'):Im B w' A1 A2 p n c q m d ss ns:=h.keep fun a ha=>hb.block _ (h.2.2.2.2.vj.lt ha)
def Im.rd{w:World}{p q:OA}{n c m d:Nat}(h:Im B w A1 A2 p n c q m d ss ns):yZ w (.S p n c) ss/\qz w (.S q m d) ns:=⟨h.1.rd,h.2.1⟩
theorem Iq.iM{α:Type}{P:α->Nat->Nat->List Lf->Prop}{sz:Nat}{xs:List α}(F:α->Nat)(h:Iq P sz v xs A)(hP:∀x b a l,P x b a l->l.length=F x):A.length=iy F xs:=by
 obtain⟨p,c,Ls,h1,h2,rfl,h4⟩:=h;rcases h4 with h0|⟨b,o,-,h6⟩;{
 subst h0;have:Ls=[]:=tp.1 h2;subst this
 rfl}
 {
 have key:∀k,k<=xs.length->(Ls.take k).flatten.length=iy F (xs.take k):=by
  intro k
  induction k with
  |zero=>intro _;rfl
  |succ k ih=>
   intro hk;obtain⟨x,hx⟩:∃x,xs[k]?=some x:=⟨_,aO ae⟩;obtain⟨l,hl⟩:∃l,Ls[k]?=some l:=⟨_,aO ae⟩;rw[ng,hl,Vi F hx,<-ih ae,<-hP _ _ _ _ (h6 k x l hx hl)];simp
 have:=key xs.length ao;rw[mF,<-h2,mF]at this;exact this}
theorem MG{α:Type}(l:List α):iy (fun _=>1) l=l.length:=by
 induction l with
 |nil=>rfl
 |cons x l ih=>simp only[iy,iH,IZ,iU]at*;omega
def Qw.iM(h:Qw v xs A):A.length=xs.length:=by
 rw[Iq.iM (fun _=>1) h (fun x b a l hl=>by rw[show l=_ from hl];rfl)];exact MG xs
def WS.iM(h:WS v xs A):A.length=xs.length:=by
 rw[Iq.iM (fun _=>1) h (fun x b a l hl=>by rw[show l=_ from hl];rfl)];exact MG xs
def Da.iM{w:World}{xs:List Ev}(h:Da w v xs A):A.length=iy ag2 xs:=Iq.iM ag2 h fun x b a l hl=>by
 obtain⟨p,c,lb,rfl,-,h3⟩:=hl;simp[ag2,Qw.iM h3];omega
def xt.iM{w:World}{xs:List aR}(h:xt w v xs A):A.length=iy WD xs:=Iq.iM WD h fun x b a l hl=>by
 obtain⟨p,c,lb,rfl,-,h3⟩:=hl;simp[WD,Da.iM h3];omega
def xD.iM{w:World}{xs:List aB}(h:xD w v xs A):A.length=iy WE xs:=Iq.iM WE h fun x b a l hl=>by
 obtain⟨p0,c0,p1,c1,p4,c4,p7,c7,l0,l1,l4,l7,rfl,⟨-,h0⟩,⟨-,h1⟩,⟨-,h4⟩,⟨-,h7⟩⟩:=hl;simp[WE,Qw.iM h0,Qw.iM h1,WS.iM h4,WS.iM h7];omega
end Go.Proofs.YtjjnidignljppaaGreatDoor
