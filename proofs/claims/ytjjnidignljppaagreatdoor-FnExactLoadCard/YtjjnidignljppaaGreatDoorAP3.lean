import Derived.Test.YtjjnidignljppaaGreatDoorK22
import Derived.Test.YtjjnidignljppaaGreatDoorK21
import Derived.Test.YtjjnidignljppaaGreatDoorK23
namespace Go.Proofs.YtjjnidignljppaaGreatDoor
set_option maxHeartbeats 400000
set_option linter.all false
set_option maxRecDepth 100000
open Go.ChangeShapes Go.WideShapes Go.ChangeAt Go.RowKit Go.Proofs.Tryz
variable {D:SD}{P:LI}{k:Nat}{ns:List aB}
def fmI(K S F:Int)(np nv:Nat)(E G:Int):Bool:=if 1<=K/\K<=13 then DA K.toNat S F np nv E G else false
def Xe(K:Int):Bool:=!(K==1)&&(!(K==6)&&!(K==13))
def bm1(D:SD)(i:Nat):SD×RP:=match D.ss[i]? with
 |none=>(D,rB)
 |some s=>if s.2.1<D.t+10 then({D with ss:=D.ss.set i (s.1,D.t+10,s.2.2)},{rB with n:=D.t+10})else(D,{rB with n:=s.2.1})
def bj9(D:SD)(i:Nat):SD×RP:=match D.ss[i]? with
 |none=>(D,rB)
 |some s=>({D with ss:=D.ss.set i (s.1,s.2.1,[])},{rB with Lv:=s.2.2})
def Qb(ns:List aB)(P:LI):Int:=match ns.findIdx? (fun nd=>decide (nd.path=P))with
 |some i=>i
 |none=>-1
def rD(K:Int)(P:LI):Bool:=decide (K=13)&&decide (P=[47])
def xY(D:SD)(K S F E G:Int)(P V:LI):SD×RP:=
 if(!rD K P&&!vp P)=true then(D,zl 4)
 else if K=4 then lT D P V S F
 else if K=10 then(D,{rB with n:=aX3 D.ns P S E G})
 else if(!rD K P&&decide (Qb D.ns P<0))=true then(D,zl 5)
 else if K=13 then(D,{rB with nms:=jB D.ns P})
 else vx D (Qb D.ns P).toNat K S F V
def fx(D:SD)(K S F E G:Int)(P V:LI):SD×RP:=
 if fmI K S F P.length V.length E G=false then(D,zl 2)
 else if K=1 then og D
 else if(Xe K&&decide (vU D.ss S<0))=true then(D,zl 3)
 else if K=2 then bm1 D (vU D.ss S).toNat
 else if K=3 then(jt D S,rB)
 else if K=12 then bj9 D (vU D.ss S).toNat
 else xY D K S F E G P V
def PD(ns:List aB):Prop:=∀(i j:Nat)(a b:aB),ns[i]?=some a->ns[j]?=some b->a.path=b.path->i=j
structure WF(D:SD):Prop where
 g:0<=D.g/\D.g<=4611686018427387904
 x:0<=D.x/\D.x<=4611686018427387904
 t:0<=D.t/\D.t<=1000000
 nb:NB D.ns
 pb:PPB D.ns
 vl:∀nd∈D.ns,nd.value.length<=1048576
 ex:∀nd∈D.ns,nd.mode=1->nd.holders≠[]
 pd:PD D.ns
def ac9{K S F E G:Int}{pp pq:OA}{np nv cp cv:Nat}{w:World}{B:Bool}(eB:Hid (fmI K S F np nv E G=B)):Cp 49 #[GF K S (.S pp np cp) F (.S pq nv cv) E G] w fun r w'=>r=.returned (.bool B)/\Bw w w':=by
 by_cases h:1<=K/\K<=13;{obtain⟨k,rfl⟩:∃k:Nat,K=(k:Int):=⟨K.toNat,ae⟩;have e:=aa eB;rw[fmI,bN h,uk]at e;exact FO ae ae (af e)};{have e:=aa eB;rw[fmI,bH h]at e;subst e;exact FN ae}
def aO8{K:Int}{w:World}:Cp 84 #[.I K] w fun r w'=>r=.returned (.bool (Xe K))/\w'=w:=by
 by_cases h1:K=1;{subst h1;go_enter func84,ntmps84;go_wp2;go_ret;exact⟨rfl,rfl⟩};{
 by_cases h6:K=6;{subst h6;go_enter func84,ntmps84;go_wp2;go_ret;exact⟨rfl,rfl⟩};{
 by_cases h13:K=13;{subst h13;go_enter func84,ntmps84;go_wp2;go_ret;exact⟨rfl,rfl⟩};{
 have e:Xe K=true:=by simp[Xe,h1,h6,h13]
 rw[e];have a1:(K != 1)=true:=by simp[h1]
 have a6:(K != 6)=true:=by simp[h6]
 have a13:(K != 13)=true:=by simp[h13]
 go_enter func84,ntmps84;go_wp2;go_ret;exact⟨rfl,rfl⟩}}}
def aq7{nd:aB}(hp:PD ns)(h:ns[k]?=some nd)(hn:ia ns P=some nd):Qb ns P=k:=by
 have e:nd.path=P:=by have:=NN hn;simpa using this
 have:ns.findIdx? (fun nd=>decide (nd.path=P))=some k:=by
  rw[Bu];obtain⟨h1,h2⟩:=aT.1 h;refine⟨h1,by rw[h2];simp[e],fun i hi hc=>?_⟩;have qM:ns[i].path=P:=by simpa using hc
  have:=hp i k _ _ (aO ae) h (qM.trans e.symm);omega
 rw[Qb,this]
def Nu(hn:ia ns P=none):Qb ns P=-1:=by
 have:ns.findIdx? (fun nd=>decide (nd.path=P))=none:=by rw[T9];intro x hx;have:=NL.1 hn x hx;simpa using this
 rw[Qb,this]
theorem aq8(h:¬Qb ns P<0):∃(k:Nat)(nd:aB),Qb ns P=k/\ns[k]?=some nd:=by
 unfold Qb at h⊢;cases hf:ns.findIdx? (fun nd=>decide (nd.path=P))with
 |none=>rw[hf]at h;simp at h
 |some k=>
  obtain⟨h1,-⟩:=Bu.1 hf;exact⟨k,_,rfl,aO h1⟩
theorem ao7{ss:List aR}{S:Int}(h:¬vU ss S<0):∃(k:Nat)(s:aR),vU ss S=k/\ss[k]?=some s:=by
 unfold vU at h⊢;cases hf:ss.findIdx? (fun s=>s.1==S)with
 |none=>rw[hf]at h;simp at h
 |some k=>
  obtain⟨h1,-⟩:=Bu.1 hf;exact⟨k,_,rfl,aO h1⟩
def Ri{e g x t:Int}{p q:OA}{c n d m:Nat}{S:Value}{l:LI}(en:Hid (ns.length=n))(em:Hid (l.length=m)){w:World}(h:qz w (.S p n c) ns)(hl:Rd w (.S q m d) l)(hn:n<=1048576)(hm:m<=2097152)(fS:Hid (aM l/\∀nd∈ns,aM nd.path))(hp:PD ns):Cp 92 #[gh e g x t S (.S p n c),.S q m d] w fun r w'=>r=.returned (.I (Qb ns l))/\Bw w w':=by
 refine(wG en em h hl hn hm fS).mono ?_;rintro r w'⟨⟨k,nd,rfl,-,h1,h2⟩|⟨rfl,h1⟩,hb⟩;{exact⟨by rw[aq7 hp h1 h2],hb⟩};{exact⟨by rw[Nu h1],hb⟩}
def Iz{kd:Int}:(dR D k kd).e=D.e/\(dR D k kd).g=D.g/\(dR D k kd).x=D.x/\(dR D k kd).t=D.t:=by
 unfold dR;split<;>exact⟨rfl,rfl,rfl,rfl⟩
def Wy{id:Int}:(dN D k id).e=D.e/\(dN D k id).g=D.g/\(dN D k id).x=D.x/\(dN D k id).t=D.t:=by
 unfold dN;split;{exact⟨rfl,rfl,rfl,rfl⟩};{split;{split;{exact Iz};{exact⟨rfl,rfl,rfl,rfl⟩}};{exact⟨rfl,rfl,rfl,rfl⟩}}
theorem xo(id:Int):∀(f k:Nat)(D:SD),(dC id f k D).e=D.e/\(dC id f k D).g=D.g/\(dC id f k D).x=D.x/\(dC id f k D).t=D.t
 |0,k,D=>by unfold dC;exact⟨rfl,rfl,rfl,rfl⟩
 |f+1,k,D=>by have hd:=Wy (D:=D) (k:=k) (id:=id);unfold dC;split;{exact⟨rfl,rfl,rfl,rfl⟩};{split;{have h1:=xo id f k (Qa (dR (dN D k id) k 2) k);have h2:=Iz (D:=dN D k id) (k:=k) (kd:=2);exact⟨h1.1.trans (h2.1.trans hd.1),h1.2.1.trans (h2.2.1.trans hd.2.1),h1.2.2.1.trans (h2.2.2.1.trans hd.2.2.1),h1.2.2.2.trans (h2.2.2.2.trans hd.2.2.2)⟩};{have h1:=xo id f (k+1) (dN D k id);exact⟨h1.1.trans hd.1,h1.2.1.trans hd.2.1,h1.2.2.1.trans hd.2.2.1,h1.2.2.2.trans hd.2.2.2⟩}}
def SP{id:Int}:(jt D id).e=D.e/\(jt D id).g=D.g/\(jt D id).x=D.x/\(jt D id).t=D.t:=xo id _ _ _
end Go.Proofs.YtjjnidignljppaaGreatDoor
