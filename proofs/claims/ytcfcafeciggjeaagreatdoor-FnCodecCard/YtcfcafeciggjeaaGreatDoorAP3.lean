import Derived.Test.YtcfcafeciggjeaaGreatDoorASf
import Derived.Test.YtcfcafeciggjeaaGreatDoorK30
namespace Go.Proofs.YtcfcafeciggjeaaGreatDoor
set_option maxHeartbeats 400000
set_option linter.all false
set_option maxRecDepth 100000
open Go.ChangeShapes Go.WideShapes Go.ChangeAt Go.RowKit Go.Proofs.Tryz
variable {P:List Int} {ns:List aD} {ss:List aY}
def Af (K S F:Int) (np nv:Nat) (E G:Int):Bool:=if 1<=K/\K<=13 then vH K.toNat S F np nv E G else false
def DB (K:Int):Bool:=!(K==1)&&(!(K==6)&&!(K==13))
def jE (D:SD) (i:Nat):SD × RP:=match D.ss[i]? with
 | none=>(D,Jv)
 | some s=>if s.2.1<D.t+10 then ({ D with ss:=D.ss.set i (s.1,D.t+10,s.2.2) },{ Jv with n:=D.t+10 }) else (D,{ Jv with n:=s.2.1 })
def pX (D:SD) (i:Nat):SD × RP:=match D.ss[i]? with
 | none=>(D,Jv)
 | some s=>({ D with ss:=D.ss.set i (s.1,s.2.1,[]) },{ Jv with qm:=s.2.2 })
def xY (ns:List aD) (P:List Int):Int:=match ns.findIdx? (fun nd=>decide (nd.path=P)) with
 | some i=>i
 | none=>-1
def jA (K:Int) (P:List Int):Bool:=decide (K=13)&&decide (P=[47])
def iA (D:SD) (K S F E G:Int) (P V:List Int):SD × RP:=
 if (!jA K P&&!vp P)=true then (D,sV 4)
 else if K=4 then fG D P V S F
 else if K=10 then (D,{ Jv with n:=kI D.ns P S E G })
 else if (!jA K P&&decide (xY D.ns P<0))=true then (D,sV 5)
 else if K=13 then (D,{ Jv with nms:=gJ D.ns P })
 else gI D (xY D.ns P).toNat K S F V
def aM (D:SD) (K S F E G:Int) (P V:List Int):SD × RP:=
 if Af K S F P.length V.length E G=false then (D,sV 2)
 else if K=1 then ik D
 else if (DB K&&decide (lT D.ss S<0))=true then (D,sV 3)
 else if K=2 then jE D (lT D.ss S).toNat
 else if K=3 then (gv D S,Jv)
 else if K=12 then pX D (lT D.ss S).toNat
 else iA D K S F E G P V
def PD (ns:List aD):Prop:=∀ (i j:Nat) (a b:aD),ns[i]?=some a->ns[j]?=some b->a.path=b.path->i=j
structure WF (D:SD):Prop where
 g:0<=D.g/\D.g<=4611686018427387904
 x:0<=D.x/\D.x<=4611686018427387904
 t:0<=D.t/\D.t<=1000000
 nb:NB D.ns
 pb:PPB D.ns
 vl:∀ nd∈D.ns,nd.value.length<=1048576
 ex:∀ nd∈D.ns,nd.mode=1->nd.holders≠[]
 pd:PD D.ns
theorem Nc (K S F E G:Int) (pp pq:Option Addr) (np nv cp cv:Nat) (w:World) (B:Bool) (eB:Hid (Af K S F np nv E G=B)) :
  Calls prog 53 #[lW K S (.S pp np cp) F (.S pq nv cv) E G] w fun r w'=>r=.returned (.bool B)/\Bw w w':=by
 by_cases h:1<=K/\K<=13;{obtain ⟨k,rfl⟩:∃ k:Nat,K=(k:Int):=⟨K.toNat,ab⟩;have e:=aa eB;rw [Af,if_pos h,Int.toNat_natCast] at e;exact M8 k ab ab S F E G pp pq np nv cp cv w B (ae e)};{have e:=aa eB;rw [Af,if_neg h] at e;subst e;exact Ge K S F E G pp pq np nv cp cv w ab}
theorem L6 (K:Int) (w:World):Calls prog 77 #[.I K] w fun r w'=>r=.returned (.bool (DB K))/\w'=w:=by
 by_cases h1:K=1;{subst h1;go_enter func77,ntmps77;go_wp2;go_ret;exact ⟨rfl,rfl⟩};{
 by_cases h6:K=6;{subst h6;go_enter func77,ntmps77;go_wp2;go_ret;exact ⟨rfl,rfl⟩};{
 by_cases Yw:K=13;{subst Yw;go_enter func77,ntmps77;go_wp2;go_ret;exact ⟨rfl,rfl⟩};{
 have e:DB K=true:=by simp [DB,h1,h6,Yw]
 rw [e];have a1:(K != 1)=true:=by simp [h1]
 have a6:(K != 6)=true:=by simp [h6]
 have a13:(K != 13)=true:=by simp [Yw]
 go_enter func77,ntmps77;go_wp2;go_ret;exact ⟨rfl,rfl⟩}}}
theorem QD {k:Nat} {nd:aD} (hp:PD ns) (h:ns[k]?=some nd) (hn:fE ns P=some nd):xY ns P=k:=by
 have e:nd.path=P:=by have:=List.find?_some hn;simpa using this
 have:ns.findIdx? (fun nd=>decide (nd.path=P))=some k:=by
  rw [List.findIdx?_eq_some_iff_getElem];obtain ⟨h1,h2⟩:=aN.1 h;refine ⟨h1,by rw [h2];simp [e],fun i hi hc=>?_⟩;have iw:ns[i].path=P:=by simpa using hc
  have:=hp i k _ _ (aK ab) h (iw.trans e.symm);omega
 rw [xY,this]
theorem Dc (hn:fE ns P=none):xY ns P=-1:=by
 have:ns.findIdx? (fun nd=>decide (nd.path=P))=none:=by rw [List.findIdx?_eq_none_iff];intro x hx;have:=List.find?_eq_none.1 hn x hx;simpa using this
 rw [xY,this]
theorem QE (h:¬ xY ns P<0):∃ (k:Nat) (nd:aD),xY ns P=k/\ns[k]?=some nd:=by
 unfold xY at h ⊢;cases hf:ns.findIdx? (fun nd=>decide (nd.path=P)) with
 | none=>rw [hf] at h;simp at h
 | some k=>
  obtain ⟨h1,-⟩:=List.findIdx?_eq_some_iff_getElem.1 hf;exact ⟨k,_,rfl,aK h1⟩
theorem AE {S:Int} (h:¬ lT ss S<0):∃ (k:Nat) (s:aY),lT ss S=k/\ss[k]?=some s:=by
 unfold lT at h ⊢;cases hf:ss.findIdx? (fun s=>s.1==S) with
 | none=>rw [hf] at h;simp at h
 | some k=>
  obtain ⟨h1,-⟩:=List.findIdx?_eq_some_iff_getElem.1 hf;exact ⟨k,_,rfl,aK h1⟩
theorem Fl (e g x t:Int) (p q:Option Addr) (c n d m:Nat) (S:Value) (ns:List aD) (l:List Int) (en:Hid (ns.length=n)) (em:Hid (l.length=m)) (w:World) (h:kJ w (.S p n c) ns) (hl:Rd w (.S q m d) l) (hn:n<=1048576) (hm:m<=2097152)
  (fI:Hid (bM l/\∀ nd∈ns,bM nd.path)) (hp:PD ns) :
  Calls prog 108 #[cY e g x t S (.S p n c),.S q m d] w fun r w'=>r=.returned (.I (xY ns l))/\Bw w w':=by
 refine (mO e g x t p q c n d m S ns l en em w h hl hn hm fI).mono ?_;rintro r w' ⟨⟨k,nd,rfl,-,h1,h2⟩ | ⟨rfl,h1⟩,hb⟩;{exact ⟨by rw [QD hp h1 h2],hb⟩};{exact ⟨by rw [Dc h1],hb⟩}
theorem LH {e g x t:Int} {i:Nat} {s:aY} (h:ss[i]?=some s) {dd:Int} (hd:(if s.2.1<t+10 then t+10 else s.2.1)=dd):jE ⟨e,g,x,t,ss,ns⟩ i=(⟨e,g,x,t,ss.set i (s.1,dd,s.2.2),ns⟩,⟨0,0,0,0,dd,[],[],[]⟩):=by
 unfold jE;simp only [h];by_cases hl:s.2.1<t+10;{
 rw [if_pos hl] at hd ⊢;rw [<-hd]
 rfl}
 {
 rw [if_neg hl] at hd ⊢;rw [<-hd,kN h]
 rfl}
theorem ki (D:SD) (k:Nat) (kd:Int):(cO D k kd).e=D.e/\(cO D k kd).g=D.g/\(cO D k kd).x=D.x/\(cO D k kd).t=D.t:=by
 unfold cO;split<;>exact ⟨rfl,rfl,rfl,rfl⟩
theorem tR (D:SD) (k:Nat) (id:Int):(cT D k id).e=D.e/\(cT D k id).g=D.g/\(cT D k id).x=D.x/\(cT D k id).t=D.t:=by
 unfold cT;split;{exact ⟨rfl,rfl,rfl,rfl⟩};{split;{split;{exact ki _ _ _};{exact ⟨rfl,rfl,rfl,rfl⟩}};{exact ⟨rfl,rfl,rfl,rfl⟩}}
theorem qV (id:Int):∀ (f k:Nat) (D:SD),(fW id f k D).e=D.e/\(fW id f k D).g=D.g/\(fW id f k D).x=D.x/\(fW id f k D).t=D.t
 | 0,k,D=>by unfold fW;exact ⟨rfl,rfl,rfl,rfl⟩
 | f+1,k,D=>by have hd:=tR D k id;unfold fW;split;{exact ⟨rfl,rfl,rfl,rfl⟩};{split;{have h1:=qV id f k (AH (cO (cT D k id) k 2) k);have h2:=ki (cT D k id) k 2;exact ⟨h1.1.trans (h2.1.trans hd.1),h1.2.1.trans (h2.2.1.trans hd.2.1),h1.2.2.1.trans (h2.2.2.1.trans hd.2.2.1),h1.2.2.2.trans (h2.2.2.2.trans hd.2.2.2)⟩};{have h1:=qV id f (k+1) (cT D k id);exact ⟨h1.1.trans hd.1,h1.2.1.trans hd.2.1,h1.2.2.1.trans hd.2.2.1,h1.2.2.2.trans hd.2.2.2⟩}}
theorem qW (D:SD) (id:Int):(gv D id).e=D.e/\(gv D id).g=D.g/\(gv D id).x=D.x/\(gv D id).t=D.t:=qV id _ _ _
end Go.Proofs.YtcfcafeciggjeaaGreatDoor
