import Derived.Test.YtjjnidignljppaaGreatDoorK31
namespace Go.Proofs.YtjjnidignljppaaGreatDoor
set_option linter.all false
set_option maxRecDepth 100000
variable {D:SD}{P V l:LI}{e g x:Int}{k:Nat}{nd nd':aB}{ns:List aB}{s:aR}{ss:List aR}
def EvG(ev:Ev):Prop:=1<=ev.1/\ev.1<=3/\vp ev.2=true/\aM ev.2
def Rb{q:List Ev}{ev:Ev}(h:gO q=true)(he:EvG ev):gO (Ek q ev)=true:=by
 unfold gO at h⊢;simp only[fu,jg,iT,yv]at h⊢;obtain⟨h1,h2⟩:=h;have key:∀(x:Ev),q.length<8->jV q.length x=true->(q++[x]).length<=8/\∀i,i<(q++[x]).length->jV i ((q++[x]).getD i (0,[]))=true:=fun x hl hx=>by refine⟨bj,fun i hi=>?_⟩;simp at hi;by_cases e:i<q.length;{rw[gj,kT e,<-gj];exact h2 i e};{have e':i=q.length:=ae;subst e';rw[gj,mE ao,Au];exact hx}
 unfold Ek;split;{refine key _ ae ?_;unfold jV;rw[bH ae];simp[he.1,he.2.1,he.2.2.1]};{
 split;{
 rename_i e7
 refine key _ ae ?_;unfold jV;rw[bN e7]
 rfl}
 {exact⟨h1,h2⟩}}
def SV(x:Int)(s:aR):Prop:=(1<=s.1/\s.1<=x)/\(0<=s.2.1/\s.2.1<=1000015)/\gO s.2.2=true/\∀e∈s.2.2,aM e.2
def SV.push(h:SV x s){ev:Ev}(he:EvG ev):SV x (s.1,s.2.1,Ek s.2.2 ev):=by
 refine⟨h.1,h.2.1,Rb h.2.2.1 he,fun y hy=>?_⟩;simp only[Ek]at hy;split at hy;{rcases gR.1 hy with h1|h1;{exact h.2.2.2 y h1};{simp at h1;rw[h1];exact he.2.2.2}};{split at hy;{rcases gR.1 hy with h1|h1;{exact h.2.2.2 y h1};{simp at h1;rw[h1];intro z hz;simp at hz}};{exact h.2.2.2 y hy}}
def oI(ss:List aR):LI:=ss.map (·.1)
def Dp(ns:List aB):List (LI×Int):=ns.map fun nd=>(nd.path,nd.owner)
def CP(C:List (LI×Int))(l:LI):Prop:=l=[47]\/(l,0)∈C
structure NV(e g:Int)(I:LI)(C:List (LI×Int))(nd:aB):Prop where
 vp:vp nd.path=true
 pb:aM nd.path
 cp:CP C (dY nd.path)
 va:nd.value.length<=40
 vb:aM nd.value
 ow:nd.owner=0\/nd.owner∈I
 h1:nd.holders.Pairwise (·<·)
 h2:∀i∈nd.holders,i∈I
 w1:nd.watchers=[]
 w2:∀i∈nd.watchers,i∈I
 lk:fg e g nd.mode nd.holders.length nd.aJ nd.gen=true
structure VD(D:SD):Prop where
 e:D.e<=4611686018427387904
 g:0<=D.g/\D.g<=4611686018427387904
 x:0<=D.x/\D.x<=4611686018427387904
 t:0<=D.t/\D.t<=1000000
 sl:D.ss.length<=50
 nl:D.ns.length<=200
 s1:(oI D.ss).Pairwise (·<·)
 s2:∀s∈D.ss,SV D.x s
 n1:(D.ns.map fun nd=>qw nd.path).Pairwise (·<·)
 n2:∀nd∈D.ns,NV D.e D.g (oI D.ss) (Dp D.ns) nd
def TL(hk:ns[k]?=some nd)(hp:nd'.path=nd.path)(ho:nd'.owner=nd.owner):Dp (ns.set k nd')=Dp ns:=by
 unfold Dp;rw[Uk];exact xQ (by rw[kU,hk];simp[hp,ho])
def VD.td(h:VD D)(hk:D.ns[k]?=some nd)(hp:nd'.path=nd.path)(ho:nd'.owner=nd.owner)(hn:NV D.e D.g (oI D.ss) (Dp D.ns) nd'):VD {D with ns:=D.ns.set k nd'}:=by
 refine⟨h.e,h.g,h.x,h.t,h.sl,by show(List.set _ _ _).length<=_;rw[mB];exact h.nl,h.s1,h.s2,?_,fun y hy=>?_⟩;{
 have e:(D.ns.set k nd').map (fun nd=>qw nd.path)=D.ns.map fun nd=>qw nd.path:=by have:=wF (List.map qw) (rA hk hp);rw[uj,uj]at this;exact this
 show List.Pairwise _ (List.map _ (D.ns.set k nd'));rw[e];exact h.n1};{show NV _ _ _ (Dp (D.ns.set k nd')) y;rw[TL hk hp ho];rcases NJ hy with hy|rfl;{exact h.n2 y hy};{exact hn}}
def VD.bU7(h:VD D){DX:List aR}(hi:oI DX=oI D.ss)(hs:∀s∈DX,SV D.x s):VD {D with ss:=DX}:=by
 have hl:DX.length=D.ss.length:=by have:=wF List.length hi;simpa[oI]using this
 refine⟨h.e,h.g,h.x,h.t,by show DX.length<=_;rw[hl];exact h.sl,h.nl,by show List.Pairwise _ (oI DX);rw[hi];exact h.s1,hs,h.n1,fun y hy=>?_⟩;show NV _ _ (oI DX) _ y;rw[hi];exact h.n2 y hy
theorem MF{ev:Ev}(he:EvG ev):∀(ids:LI){ss:List aR},(∀s∈ss,SV x s)->∀s∈rr ss ids ev,SV x s
 |[],ss,h=>h
 |y::r,ss,h=>MF he r (ss:=FM ss y ev) fun s hs=>by obtain⟨s0,h0,rfl⟩:=iJ.1 hs;split;{exact(h s0 h0).push he};{exact h s0 h0}
def VD.bi2(h:VD D){ev:Ev}(he:EvG ev)(ids:LI):VD {D with ss:=rr D.ss ids ev}:=h.bU7 (uO ids ev D.ss) (MF he ids h.s2)
theorem VD.tell(h:VD D)(k:Nat){kd:Int}(h1:1<=kd)(h3:kd<=3):VD (dR D k kd):=by
 unfold dR;cases hk:D.ns[k]? with
 |none=>exact h
 |some nd=>
  have hn:=h.n2 nd (aS hk);exact VD.bi2 (D:={D with ns:=D.ns.set k {nd with watchers:=[]}}) (h.td hk rfl rfl ⟨hn.vp,hn.pb,hn.cp,hn.va,hn.vb,hn.ow,hn.h1,hn.h2,rfl,fun i hi=>by simp at hi,hn.lk⟩) ⟨h1,h3,hn.vp,hn.pb⟩ _
def Ac(hk:D.ns[k]?=some nd)(kd:Int):∃IF,dR D k kd={D with ss:=IF,ns:=D.ns.set k {nd with watchers:=[]}}/\oI IF=oI D.ss:=by
 unfold dR;rw[hk];exact⟨_,rfl,uO _ _ _⟩
theorem Vt(ns:List aB)(k:Nat):Dp (ns.eraseIdx k)=(Dp ns).eraseIdx k:=by
 unfold Dp
 induction ns generalizing k with
 |nil=>rfl
 |cons a r ih=>cases k with
  |zero=>rfl
  |succ k=>simp[ih]
def VD.rm(h:VD D)(hk:D.ns[k]?=some nd)(hc:nd.owner≠0\/∀z∈Dp D.ns,dY z.1≠nd.path):VD (Qa D k):=by
 refine⟨h.e,h.g,h.x,h.t,h.sl,fW (List.Sublist.length_le (EP _ _)) h.nl,h.s1,h.s2,h.n1.sublist ((EP _ _).map _),fun y hy=>?_⟩;have hy':=EO hy;have hn:=h.n2 y hy';refine⟨hn.vp,hn.pb,?_,hn.va,hn.vb,hn.ow,hn.h1,hn.h2,hn.w1,hn.w2,hn.lk⟩;rcases hn.cp with e|e;{exact .inl e};{
 refine .inr ?_;show _∈Dp (D.ns.eraseIdx k);rw[Vt,aD2];obtain⟨j,hj⟩:=gv.1 e;refine⟨j,fun ej=>?_,hj⟩;subst ej;have:(Dp D.ns)[j]?=some (nd.path,nd.owner):=by unfold Dp;rw[kU,hk];rfl
 rw[this]at hj;simp only[jU,fO]at hj;rcases hc with hc|hc;{exact hc hj.2};{exact hc (y.path,y.owner) (iJ.2 ⟨y,hy',rfl⟩) hj.1.symm}}
theorem VD.drop(h:VD D)(k:Nat)(id:Int):VD (dN D k id):=by
 unfold dN;cases hk:D.ns[k]? with
 |none=>exact h
 |some nd=>
  have hn:=h.n2 nd (aS hk);simp only;split;{
 rename_i hc
 split;{exact VD.tell (D:={D with ns:=D.ns.set k {nd with holders:=[],mode:=0,aJ:=0,gen:=0}}) (h.td hk rfl rfl ⟨hn.vp,hn.pb,hn.cp,hn.va,hn.vb,hn.ow,List.Pairwise.nil,fun i hi=>by simp at hi,hn.w1,hn.w2,rfl⟩) k aU aU};{
 rename_i hw
 refine h.td hk rfl rfl ⟨hn.vp,hn.pb,hn.cp,hn.va,hn.vb,hn.ow,Mw hn.h1,fun i hi=>hn.h2 i (qD.1 hi).1,hn.w1,hn.w2,?_⟩;show fg D.e D.g nd.mode (qE nd.holders id).length nd.aJ nd.gen=true;have hid:id∈nd.holders:=by simpa using hc
 have cb7:1<=(qE nd.holders id).length:=by
  cases hq:qE nd.holders id with
  |nil=>exact absurd hq hw
  |cons a r=>simp
 have m1:nd.mode≠1:=fun hm=>by have h1:=sr hn.lk hm;obtain⟨a,ha⟩:=aD0.1 h1;rw[ha]at hid hw;simp at hid;subst hid;exact hw (by simp[qE])
 have hl:=hn.lk;unfold fg at hl⊢;rw[bH m1]at hl⊢;by_cases m0:nd.mode=0;{have:=(uo hn.lk m1).2.2 m0;have:nd.holders=[]:=tp.1 this;rw[this]at hid;simp at hid};{rw[bH m0]at hl⊢;simp only[fu,jg]at hl⊢;exact⟨hl.1,hl.2.1,hl.2.2.1,cb7⟩}}};{exact h}
def Wx(hk:D.ns[k]?=some nd){id:Int}:∃IF kP,dN D k id={D with ss:=IF,ns:=D.ns.set k kP}/\oI IF=oI D.ss/\kP.path=nd.path/\kP.owner=nd.owner/\id∉kP.holders/\(kP.watchers=nd.watchers\/kP.watchers=[]):=by
 unfold dN;rw[hk];simp only;split;{split;{have hk':(D.ns.set k {nd with holders:=[],mode:=0,aJ:=0,gen:=0})[k]?=some {nd with holders:=[],mode:=0,aJ:=0,gen:=0}:=bM hk _;obtain⟨IF,e,hi⟩:=Ac (D:={D with ns:=D.ns.set k {nd with holders:=[],mode:=0,aJ:=0,gen:=0}}) hk' 3;refine⟨IF,{nd with holders:=[],mode:=0,aJ:=0,gen:=0,watchers:=[]},by rw[e];simp only[I0],hi,rfl,rfl,ai,.inr rfl⟩};{exact⟨D.ss,_,rfl,rfl,rfl,rfl,fun hm=>(qD.1 hm).2 rfl,.inl rfl⟩}};{
 rename_i hc
 exact⟨D.ss,nd,by rw[xQ hk],rfl,rfl,rfl,by simpa using hc,.inl rfl⟩}
def ba9(id:Int)(nd:aB):Prop:=nd.owner≠id/\id∉nd.holders
def Ke(id:Int)(ns:List aB):Nat:=ns.countP fun nd=>decide (nd.owner=id)
theorem VD.dC{id:Int}(h0:id≠0):∀(f k:Nat){D:SD},VD D->(∀nd∈D.ns,id∉nd.watchers)->(∀(j:Nat)(nd:aB),j<k->D.ns[j]?=some nd->ba9 id nd)->D.ns.length<=k+f→
  VD (Proofs.YtjjnidignljppaaGreatDoor.dC id f k D)/\oI (Proofs.YtjjnidignljppaaGreatDoor.dC id f k D).ss=oI D.ss/\(∀nd∈(Proofs.YtjjnidignljppaaGreatDoor.dC id f k D).ns,ba9 id nd/\id∉nd.watchers)/\(Proofs.YtjjnidignljppaaGreatDoor.dC id f k D).ns.length+Ke id (D.ns.drop k)=D.ns.length
 |0,k,D,h,hw,hg,hl=>by
  unfold Proofs.YtjjnidignljppaaGreatDoor.dC;refine⟨h,rfl,fun nd br=>⟨?_,hw nd br⟩,?_⟩;{obtain⟨j,hj⟩:=gv.1 br;have:=(aT.1 hj).1;exact hg j nd ae hj};{
 rw[Oc ae]
 rfl}
 | f+1,k,D,h,hw,hg,hl=>by
  unfold Proofs.YtjjnidignljppaaGreatDoor.dC;cases hk:D.ns[k]? with
  |none=>
   have hle:D.ns.length<=k:=by simpa using hk
   have e:dN D k id=D:=by unfold dN;rw[hk]
   rw[e,hk];dsimp only;refine⟨h,rfl,fun nd br=>⟨?_,hw nd br⟩,?_⟩;{obtain⟨j,hj⟩:=gv.1 br;have:=(aT.1 hj).1;exact hg j nd ae hj};{
 rw[Oc hle]
 rfl}
  | some nd=>
   have aX:=(aT.1 hk).1;have hv:=h.drop k id;obtain⟨IF,kP,e,hi,e1,e2,e3,e4⟩:=Wx hk (id:=id);rw[e]at hv⊢;have jQ:(D.ns.set k kP)[k]?=some kP:=bM hk _;have hdr:D.ns.drop k=nd::D.ns.drop (k+1):=(List.jC hk).symm;have hw1:∀y∈D.ns.set k kP,id∉y.watchers:=fun y hy=>by
    rcases NJ hy with hy|rfl;{exact hw y hy};{
 rcases e4 with e4|e4<;>rw[e4]
 {exact hw nd (aS hk)};{simp}}
   simp only[jQ];by_cases ho:kP.owner=id;{
 rw[bN ho];obtain⟨ss2,eT,hi2⟩:=Ac (D:={D with ss:=IF,ns:=D.ns.set k kP}) jQ 2;have hvT:=VD.tell (D:={D with ss:=IF,ns:=D.ns.set k kP}) hv k (kd:=2) aU aU;rw[eT]at hvT⊢;simp only[I0]at hvT⊢;have qK:(D.ns.set k {kP with watchers:=[]})[k]?=some {kP with watchers:=[]}:=bM hk _;have hvR:=VD.rm hvT (nd:={kP with watchers:=[]}) qK (.inl (by show kP.owner≠0;rw[ho];exact h0));have Xf:(Qa {D with ss:=ss2,ns:=D.ns.set k {kP with watchers:=[]}} k).ns=D.ns.eraseIdx k:=by show(D.ns.set k _).eraseIdx k=_;exact List.eraseIdx_set_eq
 have hlen:(D.ns.eraseIdx k).length=D.ns.length-1:=List.length_eraseIdx_of_lt aX;obtain⟨q1,q2,q3,q4⟩:=VD.dC h0 f k hvR (fun y hy=>by
  rw[Xf]at hy;exact hw y (EO hy)) (fun j y hj hy=>by
  rw[Xf,List.getElem?_eraseIdx_of_lt hj]at hy;exact hg j y hj hy) (by rw[Xf,hlen];omega)
 refine⟨q1,q2.trans (hi2.trans hi),q3,?_⟩;rw[Xf,hlen,Gj aX]at q4;rw[hdr,Ke,List.countP_cons_of_pos (by simp[<-e2,ho]),<-Ke];omega};{
 rw[bH ho];obtain⟨q1,q2,q3,q4⟩:=VD.dC h0 f (k+1) hv hw1 (fun j y hj hy=>by
  change(D.ns.set k kP)[j]?=some y at hy
  rw[qH]at hy;by_cases ej:k=j;{subst ej;rw[bN rfl,bN aX]at hy;cases hy;exact⟨ho,e3⟩};{rw[bH ej]at hy;exact hg j y ae hy}) (by show(List.set _ _ _).length<=_;rw[mB];omega)
 refine⟨q1,q2.trans hi,q3,?_⟩;have e5:(D.ns.set k kP).drop (k+1)=D.ns.drop (k+1):=by rw[List.drop_set_of_lt ae]
 simp only[e5,mB]at q4;rw[hdr,Ke,List.countP_cons_of_neg (by simp[<-e2,ho]),<-Ke];exact q4}
def Ki{id:Int}:oI (VA id ss)=(oI ss).filter fun i=>!(i==id):=by
 unfold oI VA;rw[List.filter_map]
 rfl
def VD.close(h:VD D){id:Int}(h0:id≠0):VD (jt D id)/\oI (jt D id).ss=(oI D.ss).filter (fun i=>!(i==id))/\(∀nd∈(jt D id).ns,ba9 id nd/\id∉nd.watchers)/\(jt D id).ns.length+Ke id D.ns=D.ns.length:=by
 have hcw:VD {D with ns:=D.ns.map (GS id)}:=by
  have ep:Dp (D.ns.map (GS id))=Dp D.ns:=by unfold Dp;rw[uj];rfl
  refine⟨h.e,h.g,h.x,h.t,h.sl,by show(List.map _ _).length<=_;rw[fe];exact h.nl,h.s1,h.s2,by show List.Pairwise _ (List.map _ (D.ns.map (GS id)));rw[uj];exact h.n1,fun y hy=>?_⟩;obtain⟨z,hz,rfl⟩:=iJ.1 hy;have hn:=h.n2 z hz;show NV _ _ _ (Dp (D.ns.map (GS id))) _;rw[ep];exact⟨hn.vp,hn.pb,hn.cp,hn.va,hn.vb,hn.ow,hn.h1,hn.h2,(by show qE z.watchers id=[];rw[hn.w1];rfl),fun i hi=>hn.w2 i (qD.1 hi).1,hn.lk⟩
 obtain⟨q1,q2,q3,q4⟩:=VD.dC h0 D.ns.length 0 hcw (fun y hy=>by obtain⟨z,hz,rfl⟩:=iJ.1 hy;exact fun hm=>(qD.1 hm).2 rfl) (fun j y hj=>ae) (by show(List.map _ _).length<=_;rw[fe];omega)
 refine⟨?_,(Ki).trans (by rw[q2]),q3,?_⟩;{
 refine⟨q1.e,q1.g,q1.x,q1.t,fW (NI _ _) q1.sl,q1.nl,?_,fun s hs=>q1.s2 s (I8.1 hs).1,q1.n1,fun y hy=>?_⟩;{show List.Pairwise _ (oI (VA id _));rw[Ki];exact q1.s1.filter _};{
 have hn:=q1.n2 y hy;obtain⟨⟨g1,g2⟩,g3⟩:=q3 y hy;have key:∀i,i∈oI (Proofs.YtjjnidignljppaaGreatDoor.dC id D.ns.length 0 {D with ns:=D.ns.map (GS id)}).ss->i≠id->i∈oI (VA id (Proofs.YtjjnidignljppaaGreatDoor.dC id D.ns.length 0 {D with ns:=D.ns.map (GS id)}).ss):=fun i hi cg=>by rw[Ki];exact I8.2 ⟨hi,by simp[cg]⟩
 exact⟨hn.vp,hn.pb,hn.cp,hn.va,hn.vb,hn.ow.imp (fun h=>h) (fun ho=>key _ ho g1),hn.h1,fun i hi=>key i (hn.h2 i hi) (fun e=>g2 (e▸hi)),hn.w1,fun i hi=>key i (hn.w2 i hi) (fun e=>g3 (e▸hi)),hn.lk⟩}};{
 have e:Ke id (List.drop 0 (D.ns.map (GS id)))=Ke id D.ns:=by
  rw[tf,Ke,List.countP_map]
  rfl
 have q5:=q4;simp only[fe]at q5;rw[e]at q5;exact q5}
def PD.pw(h:(ns.map fun nd=>qw nd.path).Pairwise (·<·)):PD ns:=fun i j a b ha hb e=>by
 have key:∀(i j:Nat)(a b:aB),ns[i]?=some a->ns[j]?=some b->a.path=b.path->¬i<j:=fun i j a b ha hb e kF=>by obtain⟨h1,rfl⟩:=aT.1 ha;obtain⟨h2,rfl⟩:=aT.1 hb;have:=Ez.1 h i j (by simpa using h1) (by simpa using h2) kF;simp only[Y6,e]at this;exact List.lt_irrefl _ this
 have h1:=key i j a b ha hb e;have h2:=key j i b a hb ha e.symm;omega
theorem AR(hd:PD ns):dQ ns l=true↔CP (Dp ns) l:=by
 unfold dQ CP;by_cases h:l=[47];{simp[h]};{
 rw[bH h];constructor;{
 intro hc;cases hn:ia ns l with
 |none=>rw[hn]at hc;cases hc
 |some nd=>
  rw[hn]at hc;have hp:nd.path=l:=by simpa using NN hn
  exact .inr (iJ.2 ⟨nd,Ud hn,by rw[hp,show nd.owner=0 by simpa using hc]⟩)};{
 rintro(e|e);{exact absurd e h};{
 obtain⟨nd,hm,e2⟩:=iJ.1 e;simp only[fO]at e2;cases hn:ia ns l with
 |none=>exact absurd (NL.1 hn nd hm) (by simp[e2.1])
 |some n2=>
  have hp:n2.path=l:=by simpa using NN hn
  obtain⟨i,hi⟩:=gv.1 hm;obtain⟨j,hj⟩:=gv.1 (Ud hn);have:=hd i j nd n2 hi hj (e2.1.trans hp.symm);subst this;rw[hi]at hj;cases hj;simp[e2.2]}}}
theorem UY(h:l.Pairwise (·<·)){i:Nat}(hi:i<l.length):(i==0||decide (l.getD (i-1) 0<l.getD i 0))=true:=by
 cases i with
 |zero=>rfl
 |succ i=>
  have:=Ez.1 h i (i+1) ae hi ae;simp[gj,aO hi,aO (show i<l.length by omega),this]
def Fh{i:Int}:live ss i=true↔i∈oI ss:=by
 unfold live oI;simp only[Ob,NC,iJ]
def ZF(h:l.Pairwise (·<·))(h2:∀i∈l,i∈oI ss):iK ss l=true:=by
 unfold iK;simp only[iT,yv];intro i hi;unfold Ht;rw[UY h hi,Bool.and_true,Fh];refine h2 _ ?_;rw[gj,aO hi];exact Hl hi
def aY0:∀(a b:List UInt8),Op.bytesLess a b=true↔a<b:=fun a b=>by rw[T.nG];simp
theorem VD.ok(h:VD D):mw D.e D.g D.x D.t D.ss D.ns=true:=by
 unfold mw;simp only[fu,jg,iT,yv];refine⟨⟨h.e,h.g.2,h.x.2,h.t.1,h.t.2,h.sl,h.nl⟩,fun i hi=>?_,fun i hi=>?_⟩;{
 have hs:=h.s2 _ (Hl hi);have ha:=UY h.s1 (i:=i) (by unfold oI;simpa using hi);have e:∀j,(D.ss.getD j (0,0,[])).1=(oI D.ss).getD j 0:=fun j=>by unfold oI;rw[gj,gj,kU];cases D.ss[j]?<;>rfl
 have ed:D.ss.getD i (0,0,[])=D.ss[i]:=by rw[gj,aO hi];rfl
 rw[<-e,<-e]at ha;unfold lX;rw[ha,ed];simp only[fu,jg,ox];exact⟨hs.1.1,hs.1.2,hs.2.1.1,hs.2.1.2,hs.2.2.1⟩};{
 have hn:=h.n2 _ (Hl hi);unfold kW;simp only[gj,aO hi,qI,fu,jg,Jc];refine⟨⟨hn.vp,?_⟩,(AR (PD.pw h.n1)).2 hn.cp,hn.va,?_,ZF hn.h1 hn.h2,ZF (hn.w1▸List.Pairwise.nil) hn.w2,hn.lk⟩;{
 cases i with
 |zero=>exact .inl rfl
 |succ i=>
  refine .inr ?_;have:=Ez.1 h.n1 i (i+1) bj (by simpa using hi) ae;simp only[Y6]at this;simp only[yC,aO (show i<D.ns.length by omega),qI];rw[mY,aY0,fE,fE];exact this};{rcases hn.ow with e|e;{exact .inl (by simp[e])};{exact .inr (Fh.2 e)}}}
def VD.of{t:Int}(h:mw e g x t ss ns=true)(hF:AY ss ns)(g0:0<=g)(x0:0<=x)(hq:∀s∈ss,∀ev∈s.2.2,aM ev.2)(hv:∀nd∈ns,aM nd.value)(hw:∀nd∈ns,nd.watchers=[]):VD ⟨e,g,x,t,ss,ns⟩:=by
 have h':=h;unfold mw at h';simp only[fu,jg]at h';obtain⟨⟨l1,l2,l3,l4,l5,l6,l7⟩,a1,a2⟩:=h';refine⟨l1,⟨g0,l2⟩,⟨x0,l3⟩,⟨l4,l5⟩,l6,l7,by unfold oI;rw[Ap];exact hF.s1,fun s hs=>?_,hF.n1,fun nd br=>?_⟩;{obtain⟨i,hi⟩:=gv.1 hs;have:=iT.1 a1 i (by simpa using(aT.1 hi).1);unfold lX at this;rw[gj,hi]at this;simp only[qI,fu,jg]at this;exact⟨⟨this.1,this.2.1⟩,⟨this.2.2.2.1,this.2.2.2.2.1⟩,this.2.2.2.2.2,hq s hs⟩};{obtain⟨i,hi⟩:=gv.1 br;obtain⟨f1,f2,f3,f4,f5,f6,f7⟩:=hF.n2 nd br;have zy:=(aT.1 hi).1;have:=iT.1 a2 i (by simpa using zy);unfold kW at this;simp only[gj,hi,qI,fu,jg,Jc]at this;obtain⟨⟨q1,-⟩,q2,q3,q4,q5,q6,q7⟩:=this;refine⟨q1,f1,(AR (PD.pw hF.n1)).1 q2,q3,hv nd br,q4.imp (fun e=>by simpa using e) Fh.1,f6,fun j hj=>?_,hw nd br,fun j hj=>?_,q7⟩;{obtain⟨s,hs,e⟩:=wV q5 j hj;exact iJ.2 ⟨s,hs,e⟩};{obtain⟨s,hs,e⟩:=wV q6 j hj;exact iJ.2 ⟨s,hs,e⟩}}
theorem Yh{S:Int}(h:¬vU ss S<0):S∈oI ss:=by
 unfold vU at h;cases hf:ss.findIdx? (fun s=>s.1==S)with
 |none=>rw[hf]at h;simp at h
 |some k=>
  obtain⟨h1,h2,-⟩:=Bu.1 hf;exact iJ.2 ⟨_,Hl h1,by simpa using h2⟩
def NV.gen{g':Int}{I:LI}{C:List (LI×Int)}(h:NV e g I C nd)(hg:g<=g'):NV e g' I C nd:=by
 refine⟨h.vp,h.pb,h.cp,h.va,h.vb,h.ow,h.h1,h.h2,h.w1,h.w2,?_⟩;have:=h.lk;unfold fg at this⊢;split;{
 rename_i hm
 rw[bN hm]at this;simp only[fu,jg]at this⊢;exact⟨this.1,this.2.1,ae,this.2.2.2⟩};{
 rename_i hm
 rwa [bH hm]at this}
def NV.ids{I I':LI}{C:List (LI×Int)}(h:NV e g I C nd)(hi:∀i∈I,i∈I'):NV e g I' C nd:=
 ⟨h.vp,h.pb,h.cp,h.va,h.vb,h.ow.imp (fun h=>h) (hi _),h.h1,fun i hh=>hi i (h.h2 i hh),h.w1,fun i hh=>hi i (h.w2 i hh),h.lk⟩
def VD.create(h:VD D){S F:Int}(hv:vp P=true)(hB:aM P)(hV:V.length<=40)(bV:aM V)(hS:S∈oI D.ss):VD (lT D P V S F).1:=by
 unfold lT;split;{exact h};{
 rename_i h1
 split;{exact h};{
 rename_i h2
 split;{exact h};{
 rename_i h3
 have la:ia D.ns P=none:=by simpa using h1
 have hc:dQ D.ns (dY P)=true:=by simpa using h2
 have hcp:=(AR (PD.pw h.n1)).1 hc;have hm:∀z∈Dp D.ns,z∈Dp (mg (lZ P V (if F=1 then S else 0)) D.ns):=fun z hz=>by obtain⟨y,hy,rfl⟩:=iJ.1 hz;exact iJ.2 ⟨y,Dt.2 (.inr hy),rfl⟩
 have Dy:∀l,CP (Dp D.ns) l->CP (Dp (mg (lZ P V (if F=1 then S else 0)) D.ns)) l:=fun l hl=>hl.imp (fun h=>h) (hm _);refine⟨h.e,h.g,h.x,h.t,h.sl,by show(mg _ _).length<=_;rw[Oq];omega,h.s1,h.s2,ZA h.n1 (fun y hy e=>?_),fun y hy=>?_⟩;{have:=NL.1 la y hy;exact this (by simpa using az1 (h.n2 y hy).pb hB e)};{rcases Dt.1 hy with rfl|hy;{refine⟨hv,hB,Dy _ hcp,hV,bV,?_,List.Pairwise.nil,fun i hi=>by simp[lZ]at hi,rfl,fun i hi=>by simp[lZ]at hi,rfl⟩;show(if F=1 then S else 0)=0\/_;split;{exact .inr hS};{exact .inl rfl}};{have hn:=h.n2 y hy;exact⟨hn.vp,hn.pb,Dy _ hn.cp,hn.va,hn.vb,hn.ow,hn.h1,hn.h2,hn.w1,hn.w2,hn.lk⟩}}}}}
theorem VD.lock(h:VD D)(k:Nat){s:Int}(fl:Int)(hS:s∈oI D.ss):VD (rK D k s fl).1:=by
 unfold rK;cases hk:D.ns[k]? with
 |none=>exact h
 |some nd=>
  have hn:=h.n2 nd (aS hk);simp only;split;{exact h};{
 split;{
 split;{exact h};{
 rename_i m1
 refine h.td hk rfl rfl ⟨hn.vp,hn.pb,hn.cp,hn.va,hn.vb,hn.ow,XF hn.h1,fun i hi=>?_,hn.w1,hn.w2,?_⟩;{rcases zQ.1 hi with rfl|hi;{exact hS};{exact hn.h2 i hi}};{obtain⟨l1,l2,-⟩:=uo hn.lk m1;show fg D.e D.g 2 (vR nd.holders s).length nd.aJ nd.gen=true;have:1<=(vR nd.holders s).length:=aC8 (zQ.2 (.inl rfl));simp[fg,l1,l2,this]}}};{
 split;{exact h};{
 split;{exact h};{
 rename_i hg
 have h':VD {D with g:=D.g+1}:=⟨h.e,⟨by have:=h.g;show 0<=D.g+1;omega,by show D.g+1<=_;omega⟩,h.x,h.t,h.sl,h.nl,h.s1,h.s2,h.n1,fun y hy=>(h.n2 y hy).gen (by show D.g<=D.g+1;omega)⟩;refine VD.td h' (nd':={nd with mode:=1,holders:=[s],aJ:=D.e,gen:=D.g+1}) hk rfl rfl ⟨hn.vp,hn.pb,hn.cp,hn.va,hn.vb,hn.ow,ai,fun i hi=>?_,hn.w1,hn.w2,?_⟩;{simp at hi;rw[hi];exact hS};{have:=h.g;show fg D.e (D.g+1) 1 1 D.e (D.g+1)=true;simp[fg];omega}}}}}
theorem VD.node(h:VD D)(k:Nat){K S F:Int}(hV:K=7->V.length<=40)(bV:aM V)(hj:K=5\/K=7\/K=8\/K=9)(hS:S∈oI D.ss\/K=6):VD (vx D k K S F V).1:=by
 unfold vx;cases hk:D.ns[k]? with
 |none=>exact h
 |some nd=>
  have hn:=h.n2 nd (aS hk);simp only;split;{
 split;{exact h};{
 split;{exact h};{
 rename_i Sa _
 have Sa:jB D.ns nd.path=[]:=by simpa using Sa
 obtain⟨IF,eT,-⟩:=Ac hk 2;have hT:=h.tell k (kd:=2) aU aU;rw[eT]at hT⊢;refine VD.rm hT (nd:={nd with watchers:=[]}) (bM hk _) (.inr fun z hz e=>?_);rw[show Dp ({D with ss:=IF,ns:=D.ns.set k {nd with watchers:=[]}}:SD).ns=Dp D.ns from TL hk rfl rfl]at hz;obtain⟨y,hy,rfl⟩:=iJ.1 hz;unfold jB at Sa;rw[List.map_eq_nil_iff,List.filter_eq_nil_iff]at Sa;exact Sa y hy (by simpa using e)}}};{
 split;{exact h};{
 rename_i n6
 have hS:=hS.resolve_right n6;split;{
 split;{exact h};{
 rename_i h7 _
 exact VD.tell (D:={D with ns:=D.ns.set k {nd with value:=V}}) (h.td hk rfl rfl ⟨hn.vp,hn.pb,hn.cp,hV h7,bV,hn.ow,hn.h1,hn.h2,hn.w1,hn.w2,hn.lk⟩) k aU aU}};{split;{exact h.lock k F hS};{split;{split;{exact h.drop k S};{exact h}};{exact absurd hj ae}}}}}
def VD.apply(h:VD D){K S F E G:Int}(hB:aM P)(bV:aM V)(hj:K=1\/K=3\/K=4\/K=5\/K=7\/K=8\/K=9):VD (fx D K S F E G P V).1:=by
 unfold fx;split;{exact h};{
 rename_i hf
 split;{
 unfold og;split;{exact h};{
 split;{exact h};{
 rename_i h1 h2
 have hx:=h.x;have ht:=h.t;have ei:oI (D.ss++[(D.x+1,D.t+10,[])])=oI D.ss++[D.x+1]:=by simp[oI]
 refine⟨h.e,h.g,⟨by show 0<=D.x+1;omega,by show D.x+1<=_;omega⟩,h.t,by show(D.ss++[_]).length<=_;simp;omega,h.nl,?_,fun s hs=>?_,h.n1,fun y hy=>?_⟩;{show List.Pairwise _ (oI (D.ss++[_]));rw[ei,List.pairwise_append];refine⟨h.s1,ai,fun a ha c hc=>?_⟩;simp at hc;obtain⟨s,hs,rfl⟩:=iJ.1 ha;have:=(h.s2 s hs).1.2;omega};{rcases gR.1 hs with hs|hs;{have q:=h.s2 s hs;exact⟨⟨q.1.1,by have:=q.1.2;show s.1<=D.x+1;omega⟩,q.2⟩};{simp at hs;rw[hs];exact⟨⟨by show 1<=D.x+1;omega,by show D.x+1<=D.x+1;omega⟩,⟨by show 0<=D.t+10;omega,by show D.t+10<=_;omega⟩,rfl,fun e he=>by simp at he⟩}};{show NV _ _ (oI (D.ss++[_])) _ y;rw[ei];exact(h.n2 y hy).ids fun i hi=>Bz _ hi}}}};{
 rename_i n1
 split;{exact h};{
 rename_i hs
 have ZS:Xe K=true->S∈oI D.ss:=fun hh=>Yh (by intro hn;simp[hh,hn]at hs);split;{exact absurd hj ae};{
 split;{
 rename_i n2 h3
 have:S∈oI D.ss:=ZS (by rw[h3];rfl);obtain⟨s,hm,rfl⟩:=iJ.1 this;exact(h.close (by have:=(h.s2 s hm).1.1;omega)).1};{
 split;{exact absurd hj ae};{
 rename_i n2 n3 n12
 have hV:K=4\/K=7->V.length<=40:=fun hK=>by rcases hK with rfl|rfl<;>· simp[fmI,DA,fmF,rowOf]at hf;omega
 unfold xY;split;{exact h};{
 rename_i hp
 split;{
 rename_i h4
 rw[JY ae]at hp;exact h.create (by simpa using hp) hB (hV (.inl h4)) bV (ZS (by rw[h4];rfl))};{
 split;{exact h};{
 split;{exact h};{
 split;{exact h};{
 rename_i n4 n10 _ n13
 refine h.node _ (fun e=>hV (.inr e)) bV ae ?_;by_cases h6:K=6;{exact .inr h6};{exact .inl (ZS (by simp[Xe,n1,h6,n13]))}}}}}}}}}}}}
def VD.wf(h:VD D):WF D:=by
 have hl:∀(l:LI),l.Pairwise (·<·)->(∀i∈l,i∈oI D.ss)->l.length<=50:=fun l hp hm=>by have:=Dr l (oI D.ss) (hp.imp (fun Ql e=>ae)) hm;have:=h.sl;unfold oI at*;rw[fe]at*;omega
 refine⟨h.g,h.x,h.t,fun nd br=>?_,fun nd br=>?_,fun nd br=>?_,fun nd br hm e=>?_,PD.pw h.n1⟩
 all_goals have hn:=h.n2 nd br
 {exact⟨fW (Aa hn.vp) aU,(by rw[hn.w1];exact jS _),fW (hl _ hn.h1 hn.h2) aU⟩};{exact⟨hn.vp,hn.pb,fW (Aa hn.vp) aU⟩};{exact fW hn.va aU};{have:=sr hn.lk hm;rw[e]at this;cases this}
def VD.ids(h:VD D)(hp:l.Pairwise (·<·))(hm:∀i∈l,i∈oI D.ss):l.length<=50:=by
 have:=Dr l (oI D.ss) (hp.imp (fun Ql e=>ae)) hm;have:=h.sl;unfold oI at*;rw[fe]at*;omega
def SV.q(h:SV x s):s.2.2.length<=8/\∀e∈s.2.2,aM e.2/\e.2.length<=136:=by
 have q:=h.2.2.1;unfold gO at q;simp only[fu,jg,iT,yv]at q;refine⟨q.1,fun e he=>⟨h.2.2.2 e he,?_⟩⟩;obtain⟨i,hi⟩:=gv.1 he;have h1:=q.2 i (aT.1 hi).1;rw[gj,hi,qI]at h1;unfold jV at h1;split at h1;{simp only[fu,NC]at h1;omega};{simp only[fu]at h1;exact Aa h1.2.2}
end Go.Proofs.YtjjnidignljppaaGreatDoor
