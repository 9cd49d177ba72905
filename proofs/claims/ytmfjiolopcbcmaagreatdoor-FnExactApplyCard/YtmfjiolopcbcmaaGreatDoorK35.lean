import Derived.Test.YtmfjiolopcbcmaaGreatDoorASf
import Derived.Test.YtmfjiolopcbcmaaGreatDoorK31
import Derived.Test.YtmfjiolopcbcmaaGreatDoorK34
namespace Go.Proofs.YtmfjiolopcbcmaaGreatDoor
set_option maxHeartbeats 800000
set_option linter.unusedVariables false
set_option linter.unusedSimpArgs false
set_option maxRecDepth 100000
open Go.ChangeShapes Go.WideShapes Go.ChangeAt Go.RowKit Go.Proofs.Tryz
variable {P:List Int} {ns:List aA} {ss:List aR}
def Jr (K S F:Int) (np nv:Nat) (E G:Int):Bool:=if 1<=K/\K<=13 then Am K.toNat S F np nv E G else false
def Jd (K:Int):Bool:=!(K==1)&&(!(K==6)&&!(K==13))
def oU (D:SD) (i:Nat):SD × RP:=match D.ss[i]? with
 | none=>(D,iQ)
 | some s=>if s.2.1<D.t+10 then ({ D with ss:=D.ss.set i (s.1,D.t+10,s.2.2) },{ iQ with n:=D.t+10 }) else (D,{ iQ with n:=s.2.1 })
def Gn (D:SD) (i:Nat):SD × RP:=match D.ss[i]? with
 | none=>(D,iQ)
 | some s=>({ D with ss:=D.ss.set i (s.1,s.2.1,[]) },{ iQ with gy:=s.2.2 })
def DS (ns:List aA) (P:List Int):Int:=match ns.findIdx? (fun nd=>decide (nd.path=P)) with
 | some i=>i
 | none=>-1
def jY (K:Int) (P:List Int):Bool:=decide (K=13)&&decide (P=[47])
def la (D:SD) (K S F E G:Int) (P V:List Int):SD × RP:=
 if (!jY K P&&!vp P)=true then (D,rO 4)
 else if K=4 then iT D P V S F
 else if K=10 then (D,{ iQ with n:=ka D.ns P S E G })
 else if (!jY K P&&decide (DS D.ns P<0))=true then (D,rO 5)
 else if K=13 then (D,{ iQ with fS:=gw D.ns P })
 else mn D (DS D.ns P).toNat K S F V
def cG (D:SD) (K S F E G:Int) (P V:List Int):SD × RP:=
 if Jr K S F P.length V.length E G=false then (D,rO 2)
 else if K=1 then jZ D
 else if (Jd K&&decide (ni D.ss S<0))=true then (D,rO 3)
 else if K=2 then oU D (ni D.ss S).toNat
 else if K=3 then (il D S,iQ)
 else if K=12 then Gn D (ni D.ss S).toNat
 else la D K S F E G P V
def PD (ns:List aA):Prop:=∀ (i j:Nat) (a b:aA),ns[i]?=some a->ns[j]?=some b->a.path=b.path->i=j
structure WF (D:SD):Prop where
 g:0<=D.g/\D.g<=4611686018427387904
 x:0<=D.x/\D.x<=4611686018427387904
 t:0<=D.t/\D.t<=1000000
 nb:NB D.ns
 pb:PPB D.ns
 vl:∀ nd∈D.ns,nd.value.length<=1048576
 ex:∀ nd∈D.ns,nd.mode=1->nd.holders≠[]
 pd:PD D.ns
theorem LF (K S F E G:Int) (pp pq:Option Addr) (np nv cp cv:Nat) (w:World) (B:Bool) (eB:Hid (Jr K S F np nv E G=B)) :
  Calls prog 52 #[oP K S (.slice pp np cp) F (.slice pq nv cv) E G] w fun r w'=>r=.returned (.bool B)/\Below w.heap.size w w':=by
 by_cases h:1<=K/\K<=13;{obtain ⟨k,rfl⟩:∃ k:Nat,K=(k:Int):=⟨K.toNat,by omega⟩;have e:=aa eB;rw [Jr,if_pos h,Int.toNat_natCast] at e;exact Lx k (by omega) (by omega) S F E G pp pq np nv cp cv w B (ae e)};{have e:=aa eB;rw [Jr,if_neg h] at e;subst e;exact Fo K S F E G pp pq np nv cp cv w (by omega)}
theorem Uw (K:Int) (w:World):Calls prog 55 #[.int .i64 K] w fun r w'=>r=.returned (.bool (Jd K))/\w'=w:=by
 by_cases h1:K=1;{subst h1;go_enter func55,ntmps55;go_wp2;go_ret;exact ⟨rfl,rfl⟩};{
 by_cases h6:K=6;{subst h6;go_enter func55,ntmps55;go_wp2;go_ret;exact ⟨rfl,rfl⟩};{
 by_cases W9:K=13;{subst W9;go_enter func55,ntmps55;go_wp2;go_ret;exact ⟨rfl,rfl⟩};{
 have e:Jd K=true:=by simp [Jd,h1,h6,W9]
 rw [e];have a1:(K != 1)=true:=by simp [h1]
 have a6:(K != 6)=true:=by simp [h6]
 have a13:(K != 13)=true:=by simp [W9]
 go_enter func55,ntmps55;go_wp2;go_ret;exact ⟨rfl,rfl⟩}}}
theorem Pk {k:Nat} {nd:aA} (hp:PD ns) (h:ns[k]?=some nd) (hn:fe ns P=some nd):DS ns P=k:=by
 have e:nd.path=P:=by have:=List.find?_some hn;simpa using this
 have:ns.findIdx? (fun nd=>decide (nd.path=P))=some k:=by
  rw [List.findIdx?_eq_some_iff_getElem];obtain ⟨h1,h2⟩:=aM.1 h;refine ⟨h1,by rw [h2];simp [e],fun i hi hc=>?_⟩;have gq:ns[i].path=P:=by simpa using hc
  have:=hp i k _ _ (aH (by omega)) h (gq.trans e.symm);omega
 rw [DS,this]
theorem Cd (hn:fe ns P=none):DS ns P=-1:=by
 have:ns.findIdx? (fun nd=>decide (nd.path=P))=none:=by rw [List.findIdx?_eq_none_iff];intro x hx;have:=List.find?_eq_none.1 hn x hx;simpa using this
 rw [DS,this]
theorem Pm (h:¬ DS ns P<0):∃ (k:Nat) (nd:aA),DS ns P=k/\ns[k]?=some nd:=by
 unfold DS at h ⊢;cases hf:ns.findIdx? (fun nd=>decide (nd.path=P)) with
 | none=>rw [hf] at h;simp at h
 | some k=>
  obtain ⟨h1,-⟩:=List.findIdx?_eq_some_iff_getElem.1 hf;exact ⟨k,_,rfl,aH h1⟩
theorem yS {S:Int} (h:¬ ni ss S<0):∃ (k:Nat) (s:aR),ni ss S=k/\ss[k]?=some s:=by
 unfold ni at h ⊢;cases hf:ss.findIdx? (fun s=>s.1==S) with
 | none=>rw [hf] at h;simp at h
 | some k=>
  obtain ⟨h1,-⟩:=List.findIdx?_eq_some_iff_getElem.1 hf;exact ⟨k,_,rfl,aH h1⟩
theorem Ew (e g x t:Int) (p q:Option Addr) (c n d m:Nat) (S:Value) (ns:List aA) (l:List Int) (en:Hid (ns.length=n)) (em:Hid (l.length=m)) (w:World) (h:jB w (.slice p n c) ns) (hl:Rd w (.slice q m d) l) (hn:n<=1048576) (hm:m<=2097152)
  (du:Hid (cT l/\∀ nd∈ns,cT nd.path)) (hp:PD ns) :
  Calls prog 61 #[cL e g x t S (.slice p n c),.slice q m d] w fun r w'=>r=.returned (.int .i64 (DS ns l))/\Below w.heap.size w w':=by
 refine (lW e g x t p q c n d m S ns l en em w h hl hn hm du).mono ?_;rintro r w' ⟨⟨k,nd,rfl,-,h1,h2⟩ | ⟨rfl,h1⟩,hb⟩;{exact ⟨by rw [Pk hp h1 h2],hb⟩};{exact ⟨by rw [Cd h1],hb⟩}
theorem Kq {e g x t:Int} {i:Nat} {s:aR} (h:ss[i]?=some s) {dd:Int} (hd:(if s.2.1<t+10 then t+10 else s.2.1)=dd):oU ⟨e,g,x,t,ss,ns⟩ i=(⟨e,g,x,t,ss.set i (s.1,dd,s.2.2),ns⟩,⟨0,0,0,0,dd,[],[],[]⟩):=by
 unfold oU;simp only [h];by_cases hl:s.2.1<t+10;{
 rw [if_pos hl] at hd ⊢;rw [<-hd]
 rfl}
 {
 rw [if_neg hl] at hd ⊢;rw [<-hd,jW h]
 rfl}
theorem xA (D:SD) (k:Nat) (kd:Int):(da D k kd).e=D.e/\(da D k kd).g=D.g/\(da D k kd).x=D.x/\(da D k kd).t=D.t:=by
 unfold da;split<;>exact ⟨rfl,rfl,rfl,rfl⟩
theorem Iu (D:SD) (k:Nat) (id:Int):(df D k id).e=D.e/\(df D k id).g=D.g/\(df D k id).x=D.x/\(df D k id).t=D.t:=by
 unfold df;split;{exact ⟨rfl,rfl,rfl,rfl⟩};{split;{split;{exact xA _ _ _};{exact ⟨rfl,rfl,rfl,rfl⟩}};{exact ⟨rfl,rfl,rfl,rfl⟩}}
theorem qj (id:Int):∀ (f k:Nat) (D:SD),(dm id f k D).e=D.e/\(dm id f k D).g=D.g/\(dm id f k D).x=D.x/\(dm id f k D).t=D.t
 | 0,k,D=>by unfold dm;exact ⟨rfl,rfl,rfl,rfl⟩
 | f+1,k,D=>by have hd:=Iu D k id;unfold dm;split;{exact ⟨rfl,rfl,rfl,rfl⟩};{split;{have h1:=qj id f k (DQ (da (df D k id) k 2) k);have h2:=xA (df D k id) k 2;exact ⟨h1.1.trans (h2.1.trans hd.1),h1.2.1.trans (h2.2.1.trans hd.2.1),h1.2.2.1.trans (h2.2.2.1.trans hd.2.2.1),h1.2.2.2.trans (h2.2.2.2.trans hd.2.2.2)⟩};{have h1:=qj id f (k+1) (df D k id);exact ⟨h1.1.trans hd.1,h1.2.1.trans hd.2.1,h1.2.2.1.trans hd.2.2.1,h1.2.2.2.trans hd.2.2.2⟩}}
theorem Fw (D:SD) (id:Int):(il D id).e=D.e/\(il D id).g=D.g/\(il D id).x=D.x/\(il D id).t=D.t:=qj id _ _ _
open Go.Maps
def uh (k:Int):Value:=if k=0 then .nilIface else .iface 68 (.agg #[.int .i64 k])
theorem jU (v:Value) (hv:v=.agg #[]) (pt:Value) (w:World):Calls prog 239 #[v,pt] w fun r w'=>r=.returned (uh 0)/\Below w.heap.size w w':=by
 subst hv;go_enter func239,ntmps239;go_wp2;go_ret;exact ⟨rfl,ar.alloc ay _⟩
def qT (D:SD):Int:=if 50<=D.ss.length then 11 else if 4611686018427387904<=D.x then 12 else 0
theorem Pa {w0:World} (w:World) (b bs bn:Nat) (D:SD) (SB NB HB UB:List Nat) (h:Hid (PS w0 w b bs bn D SB NB HB UB)) (C:Int) (eC:Hid (qT D=C)) :
  Calls prog 238 #[.agg #[],.pointer (some ⟨b,0,none⟩)] w fun r w'=>r=.returned (uh C)/\Below w.heap.size w w':=by
 obtain ⟨-,-,h2,-,h4,-,-⟩:=h.cO;obtain ⟨M,n,o,hn,m,hz⟩:=h.lI;have k2:=fun (ob:Obj)=>af h2 ((Below.refl w.heap.size w).alloc ay ob);have k4:=fun (ob:Obj)=>af h4 ((Below.refl w.heap.size w).alloc ay ob);have hlen:=fun (ob:Obj)=>(o.alloc ob).len underlying111 3;rw [hz] at hlen;have e:=aa eC;unfold qT at e;obtain ⟨nl,iw⟩:=aZ D.ss.length;rw [iw] at hlen e;clear o m hz iw;by_cases Vr:50<=nl;{
 have Vq:(50:Int)<=(nl:Int):=by omega
 rw [if_pos Vr] at e;subst e;go_enter func238,ntmps238;go_wp2;go_ret;exact ⟨rfl,ar.alloc ay _⟩};{
 have Vq:¬ (50:Int)<=(nl:Int):=by omega
 rw [if_neg Vr] at e;by_cases hx:4611686018427387904<=D.x;{
 have Ku:decide (4611686018427387904<=D.x)=true:=by simpa using hx
 rw [if_pos hx] at e;subst e;go_enter func238,ntmps238;go_wp2;go_ret;exact ⟨rfl,ar.alloc ay _⟩};{
 have Ku:decide (4611686018427387904<=D.x)=false:=by simpa using hx
 rw [if_neg hx] at e;subst e;go_enter func238,ntmps238;go_wp2;go_ret;exact ⟨rfl,ar.alloc ay _⟩}}
end Go.Proofs.YtmfjiolopcbcmaaGreatDoor
