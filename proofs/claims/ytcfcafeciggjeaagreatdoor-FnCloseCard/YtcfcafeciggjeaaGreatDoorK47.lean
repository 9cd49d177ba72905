import Derived.Test.YtcfcafeciggjeaaGreatDoorK46
import Derived.LaidEql
import Derived.Stop.Asserts
import Derived.RowKitTokens
import Derived.ShutString
import Derived.ChangeOld
import Derived.HandedShaped
import Derived.Shelf.Vars
import Derived.LaidMore
import Derived.Lay
import Derived.Stop.Joined
import Derived.OpenVars
import Derived.LaidHandle
import Derived.LaidLaws
import Derived.Stop.LaidErr
namespace Go.Proofs.YtcfcafeciggjeaaGreatDoor
set_option maxHeartbeats 25600000
set_option linter.unusedVariables false
set_option linter.unusedSimpArgs false
set_option maxRecDepth 100000
open Go.ChangeShapes Go.WideShapes Go.ChangeAt Go.RowKit Go.Proofs.Tryz
variable {B B' b i:Nat} {D:SD} {W w w':World} {cs:List Value} {nd:aA} {ns:List aA} {p:Option Addr} {s:aL} {ss:List aL} {v:Value}
theorem CO (p:Option Addr) (c n:Nat) (l:List Int) (en:Hid (l.length=n)) (id:Int) (w:World) (h:kL w (.slice p n c) l) (hl:n<=1048576) (B:Bool) (eB:Hid (l.contains id=B)) :
  Calls prog 11 #[.slice p n c,.int .u64 id] w fun r w'=>r=.returned (.bool B)/\Below w.heap.size w w':=by
 have HR:=ae fun (w':World) (hb:Below w.heap.size w w')=>h.below hb;clear h;go_enter func11,ntmps11;go_wp2
 go_loopw [5] (fun iv wr=>∃ k:Nat,k<=n/\iv=.int .i64 k/\Hid ((l.take k).contains id=false)/\Hid (Below w.heap.size w wr)) (fun iv _=>n-(intOf iv).toNat)
 case atStart=>exact ⟨0,Nat.zero_le _,rfl,(by show _=_;simp),Below.refl _ _⟩
 case round =>(
 obtain ⟨k,hk,rfl,hc,aT⟩:=hrel;by_cases br:k<n;{
 have bt:(k:Int)<(n:Int):=by omega
 obtain ⟨x,hx⟩:∃ x,l[k]?=some x:=⟨_,aE (by rw [aa en];exact br)⟩;obtain ⟨b,o,rfl,uz⟩:=(aa HR _ aT).at hx;have HX:=ae hx;clear hx;by_cases he:x=id;{
 subst he;have Bi:(x==x)=true:=by simp
 go_wp2;go_ret;refine ⟨?_,aT⟩;rw [<-aa eB,List.contains_iff_mem.2 (aF (aa HX))]
 rfl}
 {
 have cF:=ae (nj HX hc he);go_wp2;go_roundw
 case rel=>exact ⟨k+1,by omega,by go_num,cF,aT⟩
 case measure=>simp [intOf];omega}}
 {
 have bt:¬ (k:Int)<(n:Int):=by omega
 have fq:=aa hc;rw [List.take_of_length_le (by rw [aa en];omega),aa eB] at fq;subst fq;go_wp2;go_ret;exact ⟨rfl,aT⟩})
theorem sU {id:Int}:∀ {l:List Int},l.Pairwise (·<·)->id∈l->(l.filter (fun i=>!(i==id))).length+1=l.length
 | [],_,hm=>by simp at hm
 | a::r,hp,hm=>by
  rw [List.pairwise_cons] at hp;by_cases e:a=id;{
 subst e;have h2:r.filter (fun i=>!(i==a))=r:=List.filter_eq_self.2 fun y hy=>by have:=hp.1 y hy;simp;omega
 rw [List.filter_cons_of_neg (by simp),h2]
 rfl}
  {
 have hr:id∈r:=by rcases List.mem_cons.1 hm with h | h;{exact absurd h.symm e};{exact h}
 rw [List.filter_cons_of_pos (by simp [e]),List.length_cons,sU hp.2 hr,List.length_cons]}
theorem DO {k:Nat} (h:ns[k]?=some nd) (id:Int):nH id (ns.take (k+1))=nH id (ns.take k)+if nd.owner=id then 1 else 0:=by
 unfold nH;rw [List.take_add_one,h,List.countP_append];simp only [Option.toList_some,List.countP_singleton,decide_eq_true_eq]
open Go.Maps Go.Extern.Stop Go.Stop Go.Extern
theorem Qy (t:Value) (w:World):Calls prog 37 #[.nilIface,t] w fun e w'=>e=.returned (.bool false)/\w'=w:=by
 go_enter func37,ntmps37;go_wp2;go_ret;exact ⟨rfl,rfl⟩
theorem Oe (t:Addr) (w:World):(ReflectliteValue.unpack (.iface 79 (.pointer (some t)))).run prog w=.ok (.agg #[.pointer (some ⟨5,79,none⟩),.pointer (some ⟨w.heap.size,0,none⟩),.int .u64 150]) (w.alloc (.cells #[.pointer (some t)] 79)):=by kernel_rfl
theorem Og (a : Addr) (w : World) : (ReflectliteValue.methodAny (ReflectliteValue.valueError "reflectlite.Value.Type" 0) (fun t _ _ _ => ReflectliteType.toType t) #[.agg #[.pointer (some ⟨5, 79, none⟩), .pointer (some a), .int .u64 150]]).run prog w = .ok (.iface 219 (.agg #[.pointer (some ⟨5, 79, none⟩)])) w := by kernel_rfl
theorem Sr (h : Value) (w : World) : (Go.method 440 219 (.agg #[h]) "Kind").run prog w = .ok (244, h) w := by kernel_rfl
theorem St (h : Value) (w : World) : (Go.method 440 219 (.agg #[h]) "Elem").run prog w = .ok (284, .agg #[h]) w := by kernel_rfl
theorem Ss (h : Value) (w : World) : (Go.method 440 219 (.agg #[h]) "Implements").run prog w = .ok (285, .agg #[h]) w := by kernel_rfl
theorem Su (h : Value) (w : World) : (Go.method 440 219 (.agg #[h]) "AssignableTo").run prog w = .ok (282, .agg #[h]) w := by kernel_rfl
theorem Sy (w:World):((ReflectliteType.abiMethod fun t=>Functor.map (fun a:Nat=>Value.int IntKind.u8 (a:Int)) (Rtype.kind t)) #[.pointer (some ⟨5,79,none⟩)]).run prog w=.ok (.int .u8 22) w:=by kernel_rfl
theorem Sw (w:World):((ReflectliteType.abiMethod fun t=>Functor.map (fun a:Nat=>Value.int IntKind.u8 (a:Int)) (Rtype.kind t)) #[.pointer (some ⟨5,77,none⟩)]).run prog w=.ok (.int .u8 25) w:=by kernel_rfl
theorem Mr (a:Addr) (w:World):(ReflectliteValue.parts (.agg #[.pointer (some ⟨5,79,none⟩),.pointer (some a),.int .u64 150])).run prog w=.ok (some (79,a,150)) w:=by kernel_rfl
theorem Oi (a p : Addr) (W : World) (ha : W.cell? a = some (.pointer (some p))) : (ReflectliteValue.method (ReflectliteValue.valueError "reflectlite.Value.IsNil" 0) ReflectliteValue.isNil #[.agg #[.pointer (some ⟨5, 79, none⟩), .pointer (some a), .int .u64 150]]).run prog W = .ok (.bool false) W := by
 show Sem.run _ (ReflectliteValue.parts (.agg #[.pointer (some ⟨5,79,none⟩),.pointer (some a),.int .u64 150]) >>= _) _=_;rw [Sem.run_bind,Mr];simp [ReflectliteValue.isNil,loadVar,isAgg,underlying,underlying79,ha,Result.andThen]
theorem SG (w:World):(ReflectliteType.method ReflectliteType.elem #[.agg #[.pointer (some ⟨5,79,none⟩)]]).run prog w=.ok (.iface 219 (.agg #[.pointer (some ⟨5,77,none⟩)])) w:=by kernel_rfl
theorem Sz (w : World) : (ReflectliteType.relation "Implements" ReflectliteType.implements_ #[.agg #[.pointer (some ⟨5, 77, none⟩)], .iface 219 (.agg #[.pointer (some ⟨5, 73, none⟩)])]).run prog w = .ok (.bool true) w := by kernel_rfl
theorem Sl (v:Value) (w:World):(ReflectliteType.typeOf #[.iface 77 v]).run prog w=.ok (.iface 219 (.agg #[.pointer (some ⟨5,77,none⟩)])) w:=by kernel_rfl
theorem SJ (w : World) : (ReflectliteType.relation "AssignableTo" ReflectliteType.assignableTo #[.agg #[.pointer (some ⟨5, 77, none⟩)], .iface 219 (.agg #[.pointer (some ⟨5, 77, none⟩)])]).run prog w = .ok (.bool true) w := by kernel_rfl
theorem Of (C:Int) (w:World):(ReflectliteValue.unpack (.iface 77 (.agg #[.int .i64 C]))).run prog w=.ok (.agg #[.pointer (some ⟨5,77,none⟩),.pointer (some ⟨w.heap.size,0,none⟩),.int .u64 153]) (w.alloc (.cells #[.int .i64 C] 77)):=by kernel_rfl
theorem SE (w:World):(Rtype.elem? 79).run prog w=.ok (some 77) w:=by kernel_rfl
theorem Sq (p:Addr) (w:World):(ReflectliteValue.mk 77 p ReflectliteValue.flagAddr).run prog w=.ok (.agg #[.pointer (some ⟨5,77,none⟩),.pointer (some p),.int .u64 409]) w:=by kernel_rfl
theorem SC (a p : Addr) (W : World) (ha : W.cell? a = some (.pointer (some p))) : (ReflectliteValue.method (ReflectliteValue.valueError "reflectlite.Value.Elem" 0) ReflectliteValue.elem #[.agg #[.pointer (some ⟨5, 79, none⟩), .pointer (some a), .int .u64 150]]).run prog W = .ok (.agg #[.pointer (some ⟨5, 77, none⟩), .pointer (some p), .int .u64 409]) W := by
 show Sem.run _ (ReflectliteValue.parts (.agg #[.pointer (some ⟨5,79,none⟩),.pointer (some a),.int .u64 150]) >>= _) _=_;rw [Sem.run_bind,Mr];simp [ReflectliteValue.elem,loadVar,isAgg,underlying,underlying79,ha,Result.andThen,SE,Sq]
theorem Sn (a:Addr) (w:World):(ReflectliteValue.parts (.agg #[.pointer (some ⟨5,77,none⟩),.pointer (some a),.int .u64 409])).run prog w=.ok (some (77,a,409)) w:=by kernel_rfl
theorem Sm (a:Addr) (w:World):(ReflectliteValue.parts (.agg #[.pointer (some ⟨5,77,none⟩),.pointer (some a),.int .u64 153])).run prog w=.ok (some (77,a,153)) w:=by kernel_rfl
theorem SI (w:World):(Rtype.directlyAssignable 77 77).run prog w=.ok true w:=by kernel_rfl
theorem Oh (tb g:Nat) (C:Int) (Ra:Value) (W:World) (hb:W.cell? ⟨g,0,none⟩=some (.int .i64 C)) (ht:W.cell? ⟨tb,0,none⟩=some Ra) (hf:W.frozen? ⟨tb,0,none⟩=false):(ReflectliteValue.set #[.agg #[.pointer (some ⟨5,77,none⟩),.pointer (some ⟨tb,0,none⟩),.int .u64 409],.agg #[.pointer (some ⟨5,77,none⟩),.pointer (some ⟨g,0,none⟩),.int .u64 153]]).run prog W=.ok (.tuple #[]) (W.setCell ⟨tb,0,none⟩ (.int .i64 C)):=by
 show Sem.run _ (ReflectliteValue.parts (.agg #[.pointer (some ⟨5,77,none⟩),.pointer (some ⟨tb,0,none⟩),.int .u64 409]) >>= _) _=_;rw [Sem.run_bind,Sn,Result.andThen_ok,Sem.run_bind];show ((Sem.run _ (ReflectliteValue.parts (.agg #[.pointer (some ⟨5,77,none⟩),.pointer (some ⟨g,0,none⟩),.int .u64 153])) _).andThen _)=_;rw [Sm,Result.andThen_ok];have hl:(loadCells ⟨g,0,none⟩ 1).run prog W=.ok #[.int .i64 C] W:=run_loadCells_list W ⟨g,0,none⟩ [.int .i64 C] (fun j v hj=>by
  have e:j=0:=by have:=(aJ.1 hj).1;simpa using this
  subst e;simp at hj;subst hj;exact hb)
 simp [ReflectliteValue.flagAddr,loadVar,isAgg,underlying,underlying77,hl,Result.andThen,SI,storeVar,Value.cells,storeCells,Addr.add];rw [run_store prog W _ _ _ (by rfl)];simp [ht,hf]
theorem Qz (tb:Nat) (C:Int) (Ra:Value) (w:World) (hg:w.cell? ⟨1,0,none⟩=some (.iface 219 (.agg #[.pointer (some ⟨5,73,none⟩)]))) (OQ:w.cell? ⟨tb,0,none⟩=some Ra) (Us:w.frozen? ⟨tb,0,none⟩=false) :
  Calls prog 37 #[.iface 77 (.agg #[.int .i64 C]),.iface 79 (.pointer (some ⟨tb,0,none⟩))] w fun ev w'=>ev=.returned (.bool true)/\w'=((((w.alloc (.cells #[.pointer (some ⟨tb,0,none⟩)] 79)).alloc (.cells #[.pointer (some ⟨5,79,none⟩),.pointer (some ⟨w.heap.size,0,none⟩),.int .u64 150] 147)).alloc (.cells #[.pointer (some ⟨5,79,none⟩),.pointer (some ⟨w.heap.size,0,none⟩),.int .u64 150] 147)).alloc (.cells #[.int .i64 C] 77)).setCell ⟨tb,0,none⟩ (.int .i64 C):=by
 have h6:=@run_callFunc_extern prog 95 _ (fun args=>ReflectliteValue.unpack (args.getD 0 (.tuple #[]))) func95 (by kernel_rfl) (by kernel_rfl) (by kernel_rfl) (by kernel_rfl);have h7 := @run_callFunc_extern prog 96 _ (ReflectliteValue.methodAny (ReflectliteValue.valueError "reflectlite.Value.Type" 0) (fun t _ _ _ => ReflectliteType.toType t)) func96 (by kernel_rfl) (by kernel_rfl) (by kernel_rfl) (by kernel_rfl);have h8 := @run_callFunc_extern prog 97 _ (ReflectliteValue.method (ReflectliteValue.valueError "reflectlite.Value.IsNil" 0) ReflectliteValue.isNil) func97 (by kernel_rfl) (by kernel_rfl) (by kernel_rfl) (by kernel_rfl);have h27:=@run_callFunc_extern prog 244 _ (ReflectliteType.abiMethod fun t=>do pure (.int .u8 (<-Rtype.kind t))) func244 (by kernel_rfl) (by kernel_rfl) (by kernel_rfl) (by kernel_rfl);have h37:=@run_callFunc_extern prog 284 _ (ReflectliteType.method ReflectliteType.elem) func284 (by kernel_rfl) (by kernel_rfl) (by kernel_rfl) (by kernel_rfl);have h38 := @run_callFunc_extern prog 285 _ (ReflectliteType.relation "Implements" ReflectliteType.implements_) func285 (by kernel_rfl) (by kernel_rfl) (by kernel_rfl) (by kernel_rfl);have Vg:=@run_callFunc_extern prog 140 _ ReflectliteType.typeOf func140 (by kernel_rfl) (by kernel_rfl) (by kernel_rfl) (by kernel_rfl);have h35 := @run_callFunc_extern prog 282 _ (ReflectliteType.relation "AssignableTo" ReflectliteType.assignableTo) func282 (by kernel_rfl) (by kernel_rfl) (by kernel_rfl) (by kernel_rfl);have Rw := @run_callFunc_extern prog 141 _ (ReflectliteValue.method (ReflectliteValue.valueError "reflectlite.Value.Elem" 0) ReflectliteValue.elem) func141 (by kernel_rfl) (by kernel_rfl) (by kernel_rfl) (by kernel_rfl);have Ru:=@run_callFunc_extern prog 142 _ ReflectliteValue.set func142 (by kernel_rfl) (by kernel_rfl) (by kernel_rfl) (by kernel_rfl);have tO:=Sl;have mA:=Su;have a25:=SJ;have v25:=Of;have f6:=Oe;have f7:=Og;have mK:=Sr;have mE:=St;have mI:=Ss;have k27:=Sy;have k25:=Sw;have e27:=SG;have i25:=Sz;have n8:=Oi ⟨w.heap.size,0,none⟩ ⟨tb,0,none⟩ ((w.alloc (.cells #[.pointer (some ⟨tb,0,none⟩)] 79)).alloc (.cells #[.pointer (some ⟨5,79,none⟩),.pointer (some ⟨w.heap.size,0,none⟩),.int .u64 150] 147)) (by simp);have br:1<w.heap.size:=World.block_lt_of_cell? w _ hg;have dV:((w.alloc (.cells #[.pointer (some ⟨tb,0,none⟩)] 79)).alloc (.cells #[.pointer (some ⟨5,79,none⟩),.pointer (some ⟨w.heap.size,0,none⟩),.int .u64 150] 147)).cell? ⟨1,0,none⟩=some (.iface 219 (.agg #[.pointer (some ⟨5,73,none⟩)])):=by rw [World.cell?_alloc_lt _ _ ⟨1,0,none⟩ (by simp;omega),World.cell?_alloc_lt _ _ ⟨1,0,none⟩ br];exact hg
 have htl:tb<w.heap.size:=World.block_lt_of_cell? w _ OQ;have el:=SC ⟨w.heap.size,0,none⟩ ⟨tb,0,none⟩ (((w.alloc (.cells #[.pointer (some ⟨tb,0,none⟩)] 79)).alloc (.cells #[.pointer (some ⟨5,79,none⟩),.pointer (some ⟨w.heap.size,0,none⟩),.int .u64 150] 147)).alloc (.cells #[.pointer (some ⟨5,79,none⟩),.pointer (some ⟨w.heap.size,0,none⟩),.int .u64 150] 147)) (by rw [World.cell?_alloc_lt _ _ ⟨w.heap.size,0,none⟩ (by simp;omega)];simp);have st:=Oh tb (w.heap.size+1+1+1) C Ra ((((w.alloc (.cells #[.pointer (some ⟨tb,0,none⟩)] 79)).alloc (.cells #[.pointer (some ⟨5,79,none⟩),.pointer (some ⟨w.heap.size,0,none⟩),.int .u64 150] 147)).alloc (.cells #[.pointer (some ⟨5,79,none⟩),.pointer (some ⟨w.heap.size,0,none⟩),.int .u64 150] 147)).alloc (.cells #[.int .i64 C] 77))
  (by rw [World.cell?_alloc_at _ _ _ _ (by simp)];rfl)
  (by rw [World.cell?_alloc_lt _ _ ⟨tb,0,none⟩ (by simp;omega),World.cell?_alloc_lt _ _ ⟨tb,0,none⟩ (by simp;omega),World.cell?_alloc_lt _ _ ⟨tb,0,none⟩ (by simp;omega),World.cell?_alloc_lt _ _ ⟨tb,0,none⟩ htl];exact OQ)
  (by rw [World.frozen?_alloc_old _ _ ⟨tb,0,none⟩ (by simp;omega),World.frozen?_alloc_old _ _ ⟨tb,0,none⟩ (by simp;omega),World.frozen?_alloc_old _ _ ⟨tb,0,none⟩ (by simp;omega),World.frozen?_alloc_old _ _ ⟨tb,0,none⟩ (Nat.ne_of_lt htl)];exact Us)
 go_enter func37,ntmps37;go_wp2;refine wp_loop_rounds 1 ?_;rw [rounds_succ];go_wp2;go_ret;exact ⟨rfl,rfl⟩
theorem de.mono {Qs:List Value} (h:de B w v ss Qs) (hB:B'<=B):de B' w v ss Qs:=⟨h.len,RT.mono h.row hB,fun i s Q hs hq=>RT.mono (h.xm i s Q hs hq) hB,h.pD⟩
def YB (w:World) (b:Nat) (st out:List Value):Prop:=BX w b st/\BX w (b+1) [.int .u64 0,.int .u64 0,.int .u64 0,.int .i64 0,.slice none 0 0,.slice none 0 0]/\BX w (b+1+1) out
theorem YB.fr {T:List TypeId} {st out:List Value} (h:YB w b st out) (hf:Fr T w w') (ht:27∉T):YB w' b st out:=⟨h.1.fr hf ht,h.2.1.fr hf ht,h.2.2.fr hf ht⟩
theorem YB.set {st out:List Value} (h:YB w b st out) (j:Nat) (hj:j<out.length) (u:Value):YB (w.setCell ⟨b+1+1,j,none⟩ u) b st (out.set j u)/\Fr [27] w (w.setCell ⟨b+1+1,j,none⟩ u):=
 ⟨⟨h.1.nF (by omega),h.2.1.nF (by omega),h.2.2.1.da j hj u,(aZ h.2.2.2).1⟩,(aZ h.2.2.2).2⟩
theorem jh.mono (h:jh B w v ns) (hB:B'<=B):jh B' w v ns:=by
 obtain ⟨cs,h1,h2,h3,h4⟩:=RT.mono h hB;refine ⟨cs,h1,h2,h3,fun i x c hx hc=>?_⟩;obtain ⟨P,V,H,U,e,k1,k2,k3,k4⟩:=h4 i x c hx hc;exact ⟨P,V,H,U,e,k1,k2,k3.mono hB,k4.mono hB⟩
theorem QR.mono {r:Ending} {R:RP} (h:QR B w w' r D R) (hB:B'<=B):QR B' w w' r D R:=by
 obtain ⟨p,c,q,d,Dv,Nv,Ev,Qs,e,hS,hN,tD,tN,tE,hF2,js⟩:=h;exact ⟨p,c,q,d,Dv,Nv,Ev,Qs,e,hS.mono hB,jh.mono hN hB,tD,RT.mono tN hB,RT.mono tE hB,hF2,js.mono hB⟩
def SD0:SD:=⟨0,0,0,0,[],[]⟩
def AP (e g x t:Int) (ss:List aL) (ns:List aA) (K S F E G:Int) (P V:List Int):SD × RP:=if jl e g x t ss ns=true then bS ⟨e,g,x,t,ss,ns⟩ K S F E G P V else (SD0,qV 1)
structure StD where
 e:Int
 g:Int
 x:Int
 t:Int
 ss:List aL
 ns:List aA
def jg (B:Nat) (w:World) (p:Option Addr) (n c:Nat) (q:Option Addr) (m d:Nat) (ss:List aL) (ns:List aA):Prop:=
 ∃ A1 A2,gh w (.slice p n c) ss/\mi w (.slice q m d) ns/\zE w (.slice p n c) ss A1/\Af w (.slice q m d) ns A2/\ja B w (A1++A2)
theorem jg.zero (B:Nat) (w:World):jg B w none 0 0 none 0 0 [] []:=
 ⟨[],[],⟨none,0,rfl,.inl rfl⟩,⟨none,0,rfl,.inl rfl⟩,⟨none,0,[],rfl,rfl,rfl,.inl rfl⟩,⟨none,0,[],rfl,rfl,rfl,.inl rfl⟩,ja.nil _ _⟩
theorem jg.aM {p q:Option Addr} {n c m d:Nat} (h:jg B w p n c q m d ss ns) (hk:∀ b,B<=b->b<w.heap.size->w'.heap[b]?=w.heap[b]?):jg B w' p n c q m d ss ns:=by
 obtain ⟨A1,A2,h1,h2,h3,h4,h5⟩:=h;have k:∀ a∈A1++A2,w'.heap[a.b]?=w.heap[a.b]?:=fun a ha=>hk _ (h5.lo a ha) (h5.qY.lt ha);have k1:∀ a∈A1,w'.heap[a.b]?=w.heap[a.b]?:=fun a ha=>k a (List.mem_append_left _ ha);have k2:∀ a∈A2,w'.heap[a.b]?=w.heap[a.b]?:=fun a ha=>k a (List.mem_append_right _ ha);exact ⟨A1,A2,h1.cR h3 k1,h2.cR h4 k2,zE.aM h3 k1,Af.aM h4 k2,h5.aM k⟩
theorem jg.below {p q:Option Addr} {n c m d:Nat} (h:jg B w p n c q m d ss ns) (hb:Below w.heap.size w w'):jg B w' p n c q m d ss ns:=h.aM fun b _ hl=>hb.block b hl
theorem jg.mono {p q:Option Addr} {n c m d:Nat} (h:jg B w p n c q m d ss ns) (hB:B'<=B):jg B' w p n c q m d ss ns:=by
 obtain ⟨A1,A2,h1,h2,h3,h4,h5⟩:=h;exact ⟨A1,A2,h1,h2,h3,h4,h5.mono hB⟩
theorem Gh {md:Region.Mode} {ops:Array Oper} {Q:Exit->Act->World->Prop} {S:World->Prop} {listed:Array Bool} {a:Act} (i5 i6 t2 t3 d1 d2:Nat) {ps J1:String} {A5 A6:Array Edge} (gF:Region.ready md ops listed=[i5]) (tL:Region.ready md ops (listed.setIfInBounds i5 true)=[i6]) (Tx:Region.ready md ops ((listed.setIfInBounds i5 true).setIfInBounds i6 true)=[])
  (TI:ops[i5]?=some { dst:=none,op:=Op.store 27 (Operand.tmp t2) (Operand.tmp d1),type:=0,pos:=ps,after:=A5,guard:=none }) (ZK:ops[i6]?=some { dst:=none,op:=Op.store 41 (Operand.tmp t3) (Operand.tmp d2),type:=0,pos:=J1,after:=A6,guard:=none })
  (b1 b2:Nat) (e g x t:Int) (p:Option Addr) (n c:Nat) (q:Option Addr) (m d:Nat) (k i h s z:Int) (dp:Option Addr) (dn dc:Nat) (np:Option Addr) (nn nc:Nat) (vp:Option Addr) (vn vc:Nat) {o0 o1 o2 o3 o4 o5 r0 r1 r2 r3 r4 r5 r6 r7:Value}
  (e2:a.tmps[t2]?.getD undef=.pointer (some ⟨b1,0,none⟩)) (e3:a.tmps[d1]?.getD undef=cK e g x t (.slice p n c) (.slice q m d)) (e4:a.tmps[t3]?.getD undef=.pointer (some ⟨b2,0,none⟩)) (e5:a.tmps[d2]?.getD undef=fW k i h s z (.slice dp dn dc) (.slice np nn nc) (.slice vp vn vc))
  (h1:BX w b1 [o0,o1,o2,o3,o4,o5]) (h2:RX w b2 [r0,r1,r2,r3,r4,r5,r6,r7]) (Ru:b1≠b2) (hB:B<=b1/\B<=b2) (og:∀ w',(∀ y,y≠b1->y≠b2->w'.heap[y]?=w.heap[y]?)->S w')
  (hQ:∀ w',BX w' b1 [.int .u64 e,.int .u64 g,.int .u64 x,.int .i64 t,.slice p n c,.slice q m d]->RX w' b2 [.int .i64 k,.int .u64 i,.int .u64 h,.int .u64 s,.int .i64 z,.slice dp dn dc,.slice np nn nc,.slice vp vn vc]->Below B w w'->(∀ y,y≠b1->y≠b2->w'.heap[y]?=w.heap[y]?)->Q .normal a w'):wpAnyH prog md ops Q S 2 listed a w:=by
 refine wpAnyH_ready gF (by simp) ?_;refine AllReadyH.cons TI (fun KK hK=>?_) AllReadyH.nil;obtain ⟨k0,k1,k2,k3,k4,k5,kf⟩:=h1.cells;go_simp;obtain ⟨X,hX⟩:=ar (aP w b1 (.int .u64 e) (.int .u64 g) (.int .u64 x) (.int .i64 t) (.slice p n c) (.slice q m d));have bX:Below b1 w X:=by rw [hX];exact bH _ _ _ _ _ _ _ _
 have kX:∀ y,y≠b1->X.heap[y]?=w.heap[y]?:=fun y hy=>by rw [hX];exact gK hy
 have nw:=h1.put (.int .u64 e) (.int .u64 g) (.int .u64 x) (.int .i64 t) (.slice p n c) (.slice q m d);rw [<-hX] at nw;have IT:=h2.bc (kX b2 (fun e=>Ru e.symm));unfold aP at hX;rw [<-hX];refine hK.out _ _ (og X (fun y h1 _=>kX y h1)) (fun hS=>?_);clear hK KK hX k0 k1 k2 k3 k4 k5 kf;refine wpAnyH_ready tL (by simp) ?_;refine AllReadyH.cons ZK (fun KK hK=>?_) AllReadyH.nil;obtain ⟨k0,k1,k2,k3,k4,k5,k6,k7,kf⟩:=IT.cells;go_simp;obtain ⟨Fm,-⟩:=IT.put (.int .i64 k) (.int .u64 i) (.int .u64 h) (.int .u64 s) (.int .i64 z) (.slice dp dn dc) (.slice np nn nc) (.slice vp vn vc);have bY:=aU X b2 (.int .i64 k) (.int .u64 i) (.int .u64 h) (.int .u64 s) (.int .i64 z) (.slice dp dn dc) (.slice np nn nc) (.slice vp vn vc);obtain ⟨Y,hY⟩:=ar (fk X b2 (.int .i64 k) (.int .u64 i) (.int .u64 h) (.int .u64 s) (.int .i64 z) (.slice dp dn dc) (.slice np nn nc) (.slice vp vn vc));have kY:∀ y,y≠b1->y≠b2->Y.heap[y]?=w.heap[y]?:=fun y h1 h2=>by rw [hY,l9 h2];exact kX y h1
 have WK:BX Y b1 [.int .u64 e,.int .u64 g,.int .u64 x,.int .i64 t,.slice p n c,.slice q m d]:=nw.bc (by rw [hY];exact l9 Ru);rw [<-hY] at Fm bY;unfold fk aP at hY;rw [<-hY];refine hK.out _ _ (og Y kY) (fun hS=>?_);clear hK KK hY;refine wpAnyH_done Tx ?_ _;exact hQ Y WK Fm ((bX.mono hB.1).trans (bY.mono hB.2)) kY
def IA (B:Nat) (w':World) (r:Ending) (D:SD) (R:RP):Prop:=∃ p c q d v B5 w6,r=.returned (.tuple #[cK D.e D.g D.x D.t (.slice p D.ss.length c) (.slice q D.ns.length d),v])/\(B<=B5/\B<=w6.heap.size)/\zt B5 w6 v R/\w6.heap.size<=w'.heap.size/\(∀ b,B5<=b->b<w6.heap.size->w'.heap[b]?=w6.heap[b]?)/\jg w6.heap.size w' p D.ss.length c q D.ns.length d D.ss D.ns
def CT (w1 wc:World) (b bs bn zr B5:Nat) (A:SD × RP):Prop:=∃ SB NB HB UB p1 c1 p2 c2 p3 c3,PS w1 wc b bs bn A.1 SB NB HB UB/\RX wc zr [.int .i64 A.2.k,.int .u64 A.2.i,.int .u64 A.2.e,.int .u64 A.2.g,.int .i64 A.2.n,.slice p1 A.2.vt.length c1,.slice p2 A.2.qh.length c2,.slice p3 A.2.tT.length c3]/\zt B5 wc (fW A.2.k A.2.i A.2.e A.2.g A.2.n (.slice p1 A.2.vt.length c1) (.slice p2 A.2.qh.length c2) (.slice p3 A.2.tT.length c3)) A.2
theorem Eb (w:World) (tb:Nat) (o1 o2 o3 o4:Obj) (v:Value) (ht:tb<w.heap.size):Below tb w (((((w.alloc o1).alloc o2).alloc o3).alloc o4).setCell ⟨tb,0,none⟩ v):=
 ((((((Below.refl tb w).alloc (by omega) o1).alloc (by simp;omega) o2).alloc (by simp;omega) o3).alloc (by simp;omega) o4).setCell (p:=⟨tb,0,none⟩) ax v)
theorem QA (C:Int) (tb:Nat) (w:World) (hg:w.cell? ⟨1,0,none⟩=some (.iface 219 (.agg #[.pointer (some ⟨5,73,none⟩)]))) (OQ:w.cell? ⟨tb,0,none⟩=some (.int .i64 0)) (Us:w.frozen? ⟨tb,0,none⟩=false) (B:Bool) (eB:Hid (decide (C≠0)=B)) :
  Calls prog 37 #[yR C,.iface 79 (.pointer (some ⟨tb,0,none⟩))] w fun r w'=>r=.returned (.bool B)/\Below tb w w'/\w'.cell? ⟨tb,0,none⟩=some (.int .i64 C):=by
 by_cases hC:C=0;{
 subst hC;have e:B=false:=by rw [<-aa eB];simp
 subst e;refine (Qy _ w).mono ?_;rintro r w' ⟨rfl,rfl⟩;exact ⟨rfl,Below.refl _ _,OQ⟩};{
 have e:B=true:=by rw [<-aa eB];simp [hC]
 subst e;rw [yR,if_neg hC];refine (Qz tb C _ w hg OQ Us).mono ?_;rintro r w' ⟨rfl,rfl⟩;have hl:=World.block_lt_of_cell? w _ OQ;refine ⟨rfl,Eb w tb _ _ _ _ _ hl,World.cell?_setCell_same' _ _ _ ?_⟩;rw [af OQ ((((Below.refl w.heap.size w).alloc ax _).alloc (by simp) _).alloc (by simp;omega) _ |>.alloc (by simp;omega) _)]
 rfl}
theorem AY (e g x t:Int) (p:Option Addr) (n c:Nat) (q:Option Addr) (m d:Nat) (ss:List aL) (ns:List aA) (en:Hid (ss.length=n)) (em:Hid (ns.length=m)) (K S F E G:Int) (pp:Option Addr) (np cp:Nat) (pq:Option Addr) (nv cv:Nat) (P V:List Int) (eP:Hid (P.length=np)) (eV:Hid (V.length=nv)) (w:World) (h:Hid (gh w (.slice p n c) ss)) (hN:Hid (mi w (.slice q m d) ns)) (hP:Hid (Rd w (.slice pp np cp) P)) (hV:Hid (Rd w (.slice pq nv cv) V)) (hn:n<=1048576) (hm:m<=1048576) (hp:np<=1048576) (mG:np<=cp) (jN:Hid (cp<=maxLen))
  (yG:Hid (∀ s∈ss,s.2.2.length<=1048576/\∀ e∈s.2.2,bQ e.2/\e.2.length<=1048576)) (fK:Hid (∀ nd∈ns,bQ nd.path/\nd.path.length<=1048576/\nd.value.length<=1048576/\nd.holders.length<=1048576/\nd.watchers.length<=1048576))
  (ME:Hid (∀ nd∈ns,(∀ i∈nd.holders,0<=i/\i<18446744073709551616)/\∀ i∈nd.watchers,0<=i/\i<18446744073709551616)) (TG:Hid (∀ nd∈ns,0<=nd.owner/\nd.owner<18446744073709551616)) (xq:Hid (ML w)) (PG:Hid (Ya w)) (hEr:Hid (w.cell? ⟨1,0,none⟩=some (.iface 219 (.agg #[.pointer (some ⟨5,73,none⟩)])))) (bP:Hid (bQ P)) (hS:Hid (0<=S/\S<18446744073709551616)) (gx0:Hid (0<=g/\0<=x)) (R:SD × RP) (eR:Hid (AP e g x t ss ns K S F E G P V=R)) (ac4:Hid (∀ (w1 w2:World) (b bs bn:Nat) (SB NB HB UB:List Nat),EU w1 w2 b bs bn ⟨e,g,x,t,ss,ns⟩ SB NB HB UB S F E G pp np cp pq nv cv P V->Calls prog 36 #[.pointer (some ⟨b,0,none⟩),tJ K S (.slice pp np cp) F (.slice pq nv cv) E G] w2 (Mo w1 w2 b bs bn ⟨e,g,x,t,ss,ns⟩ (bS ⟨e,g,x,t,ss,ns⟩ K S F E G P V)))) (hAF:Hid (jl e g x t ss ns=true->Fd 51 (bS ⟨e,g,x,t,ss,ns⟩ K S F E G P V).1.ss (bS ⟨e,g,x,t,ss,ns⟩ K S F E G P V).1.ns)) :
  Calls prog 10 #[cK e g x t (.slice p n c) (.slice q m d),tJ K S (.slice pp np cp) F (.slice pq nv cv) E G] w fun r w'=>IA w.heap.size w' r R.1 R.2/\Below w.heap.size w w':=by
 obtain ⟨W0,cA,b0,z0,C0⟩:=bg w (.int .u64 e) (.int .u64 g) (.int .u64 x) (.int .i64 t) (.slice p n c) (.slice q m d);obtain ⟨W1,fP,b1,z1,C1,-⟩:=aj W0 #[.int .i64 K,.int .u64 S,.slice pp np cp,.int .i64 F,.slice pq nv cv,.int .u64 E,.int .u64 G] 29;obtain ⟨W2,iY,b2,z2,C2⟩:=bg W1 (.int .u64 0) (.int .u64 0) (.int .u64 0) (.int .i64 0) (.slice none 0 0) (.slice none 0 0);obtain ⟨W3,j8,b3,z3,C3⟩:=gP W2 (.int .i64 0) (.int .u64 0) (.int .u64 0) (.int .u64 0) (.int .i64 0) aq aq aq;rw [z0] at C1 z1;rw [z1] at C2 z2;rw [z2] at C3 z3;have LQ:QB W3 w.heap.size _ _ _ _:=⟨((C0.below b1).below b2).below b3,(C1.below (by omega) b2).below (by omega) b3,C2.below b3,C3⟩;have bW:=ai (ai (ai b0 b1) b2) b3;have HA:=ae (fun (v:World) (hv:Below W3.heap.size W3 v)=>ag (QB.aM LQ (fun j h1 h2=>hv.block j (by omega))) (ag (h.below (ai bW hv)) (ag (hN.below (ai bW hv)) (ag (hP.below (ai bW hv)) (ag (hV.below (ai bW hv)) (ai bW hv))))));have BR:=ae (Below.refl W3.heap.size W3);have Z3:=ae z3;clear b0 b1 b2 b3 C0 C1 C2 C3 LQ bW z3;have hR:=aa eR;unfold AP at hR;obtain ⟨ok,Nh⟩:∃ ok,Hid (jl e g x t ss ns=ok):=⟨_,ae rfl⟩;rw [aa Nh] at hR;have HR:=ae hR;clear hR;go_enter func10,ntmps10;go_wp2_with fail;rw [<-cA,<-fP,<-iY,<-j8];clear cA fP iY j8;refine (OK e g x t p q c n d m ss ns en em W3 (aa HA W3 BR).2.1 (aa HA W3 BR).2.2.1 hn hm yG fK ME TG (xq.below (aa HA W3 BR).2.2.2.2.2) ok Nh).mono ?_;rintro r w1 ⟨rfl,bf⟩;have B1:=ae bf;have rO:=bf.size;have e9:=aa HR;clear bf HR;cases ok;{rw [if_neg (by simp)] at e9;have E9:=ae e9;obtain ⟨LW,-,-,-,-,bw⟩:=aa HA w1 B1;have iK:=ae (show TX w1 w.heap.size _ _ _ from ⟨LW.1,LW.2.2.1,LW.2.2.2⟩);have BW:=ae bw;clear e9 LW bw;obtain ⟨q0,q1,q2,q3,q4,q5,qf⟩:=iK.2.1.cells;obtain ⟨r0,r1,r2,r3,r4,r5,r6,r7,rf⟩:=iK.2.2.cells;go_wp2;obtain ⟨fF,bF⟩:=TX.fin iK (.int .u64 0) (.int .u64 0) (.int .u64 0) (.int .i64 0) aq aq (.int .i64 1) (.int .u64 0) (.int .u64 0) (.int .u64 0) (.int .i64 0) aq aq aq;refine bodyPost_ret (v:=.tuple #[cK 0 0 0 0 aq aq,fW 1 0 0 0 0 aq aq aq]) (by simp [results,results10,go_sem,q0,q1,q2,q3,q4,q5,r0,r1,r2,r3,r4,r5,r6,r7]) rfl ⟨?_,BW.trans bF⟩;rw [<-aa E9];exact ⟨none,0,none,0,_,w.heap.size,w,rfl,⟨Nat.le_refl _,Nat.le_refl _⟩,zt.num _ _ _ _ _ _ _,(BW.trans bF).size,fun b h1 h2=>by omega,jg.zero _ _⟩};{
 rw [if_pos rfl] at e9;have E9:=ae e9;have MO:=wV Nh yG fK;have HF:=ae MO;obtain ⟨LW,r1,r2,r3,r4,bw⟩:=aa HA w1 B1;have BW:=ae bw;obtain ⟨i0,i1,i2,i3,i4,i5,-⟩:=LW.1.cells;have HRW:=ae (ag r1 (ag r2 (ag r3 r4)));clear e9 LW bw r1 r2 r3 r4 MO;go_wp2_with fail;clear i0 i1 i2 i3 i4 i5;refine (qF e g x t p q c n d m ss ns en em w1 HRW.1 HRW.2.1 hn hm (ae fun s hs=>(HF.s2 s hs).1) (ae HF.s3) fK ME (ae HF.n3)).mono ?_;rintro r w2 ⟨b,bs,bn,SB,NB,HB,UB,rfl,cF,aS⟩;have PS2:=PS.of cF aS (aa HF) (by rw [aa en];exact hn) (by rw [aa em];exact hm);have B2:=ae (ai B1 aS);obtain ⟨LW,-,-,r3,r4,bw⟩:=aa HA w2 B2;have CX:=ae (show EU w1 w2 b bs bn ⟨e,g,x,t,ss,ns⟩ SB NB HB UB S F E G pp np cp pq nv cv P V from ⟨PS2,GD.of Nh HF gx0.1 gx0.2,hS,eP,eV,r3,.inl HRW.2.2.2,bP,hp,mG,jN,xq.below bw,fun k h1 h2=>(aa PG k h1 h2).below bw⟩);have o0:=LW.2.1.1 0 _ rfl;have o1:=LW.2.1.1 1 _ rfl;have o2:=LW.2.1.1 2 _ rfl;have o3:=LW.2.1.1 3 _ rfl;have o4:=LW.2.1.1 4 _ rfl;have o5:=LW.2.1.1 5 _ rfl;have o6:=LW.2.1.1 6 _ rfl;have R6:=ae bw;have z12:=aS.size;clear PS2 cF aS LW r3 r4 bw;go_wp2_with fail;clear o0 o1 o2 o3 o4 o5 o6;refine (aa ac4 _ _ _ _ _ _ _ _ _ CX).mono ?_;rintro r w3 ⟨D',R',C,⟨QK,QM,Cb,QF,v3,rfl,F3,P3,L3⟩,hA3⟩;have F3':=ae F3;have XA:R=(if C=0 then (D',R') else (⟨e,g,x,t,ss,ns⟩,qV C)):=E9.symm.trans hA3;have VZ:Hid (PS w1 w3 b bs bn R.1 QK QM Cb QF):=by rw [XA];by_cases hC:C=0;{rw [if_pos hC] at P3 ⊢;exact P3};{rw [if_neg hC] at P3 ⊢;exact P3}
 obtain ⟨Rx,eRx⟩:∃ Rx,(if C=0 then R' else mR)=Rx:=⟨_,rfl⟩;rw [eRx] at L3;have HRX:=ae (show (C=0->Rx=R.2)/\(C≠0->qV C=R.2) from ⟨fun hC=>by rw [<-eRx,XA,if_pos hC,if_pos hC],fun hC=>by rw [XA,if_neg hC]⟩);have L3':=ae L3;obtain ⟨p1,c1,p2,c2,p3,c3,A1,A2,A3,rfl,-⟩:=L3;obtain ⟨n1,Vr⟩:∃ n,Hid (Rx.vt.length=n):=⟨_,ae rfl⟩;obtain ⟨n2,Vq⟩:∃ n,Hid (Rx.qh.length=n):=⟨_,ae rfl⟩;obtain ⟨n3,Rz⟩:∃ n,Hid (Rx.tT.length=n):=⟨_,ae rfl⟩;rw [aa Vr,aa Vq,aa Rz] at L3' ⊢;obtain ⟨Y,hY,bY,zY,RY⟩:=gP w3 (.int .i64 Rx.k) (.int .u64 Rx.i) (.int .u64 Rx.e) (.int .u64 Rx.g) (.int .i64 Rx.n) (.slice p1 n1 c1) (.slice p2 n2 c2) (.slice p3 n3 c3);obtain ⟨Z,hZ,bZ,zZ,CZ,-⟩:=aj Y #[.int .i64 0] 77;rw [zY] at CZ zZ;have bwZ:=ai R6 ((Below.refl w2.heap.size w2));have hEw:w3.cell? ⟨1,0,none⟩=some (.iface 219 (.agg #[.pointer (some ⟨5,73,none⟩)])):=by have h1:=af hEr BW;exact af h1 VZ.be
 have hEz:=af hEw (bY.trans (bZ.mono (by omega)));have Yh:=ae (ag RY (ag bY bZ));have t0:=CZ.1 0 _ rfl;have tf:=CZ.2;obtain ⟨BC,eBC⟩:∃ B,Hid (decide (C≠0)=B):=⟨_,ae rfl⟩;have HAS:=ae (QA C (w3.heap.size+1) Z hEz t0 (tf 0) BC eBC);have RH:=ae (ag zY zZ);clear F3 XA hA3 P3 eRx RY bY bZ CZ bwZ hEw hEz t0 tf zY zZ;go_wp2_with fail;rw [<-hY,<-hZ];clear hY hZ;refine HAS.mono ?_;rintro r w4 ⟨rfl,fO,hf4⟩;have B4:=ae fO;have F4:=ae hf4;have VJ:Below w3.heap.size w3 w4:=(Yh.2.1.trans (Yh.2.2.mono (by have:=RH.1;omega))).trans (fO.mono (by omega));have R4:=(Yh.1.below Yh.2.2).bc (w':=w4) (fO.block _ (by have:=RH.2;omega));have EJ:=ae VJ;have QS:=ae R4;clear fO hf4 VJ R4
 go_upto_if 25 with fail
 go_cut [] (fun wc=>Hid (CT w1 wc b bs bn w3.heap.size w2.heap.size R)/\Hid (Below w3.heap.size w3 wc))
 case first =>(
 cases BC;{
 go_wp2_with fail;go_meet;have hC:C=0:=by have:=aa eBC;simpa using this
 have eq:=HRX.1 hC;refine ⟨ae ⟨QK,QM,Cb,QF,p1,c1,p2,c2,p3,c3,VZ.below EJ,?_,?_⟩,EJ⟩;{rw [<-eq,aa Vr,aa Vq,aa Rz];exact QS};{rw [<-eq,aa Vr,aa Vq,aa Rz];exact L3'.aM (fun z _ h2=>EJ.block z h2) EJ.size}};{
 obtain ⟨r0,r1,r2,r3,r4,r5,r6,r7,rf⟩:=QS.cells;have f4:=aa F4;go_wp2_with fail;go_meet;have hC:C≠0:=by have:=aa eBC;simpa using this
 have eq:=HRX.2 hC;refine ⟨ae ⟨QK,QM,Cb,QF,none,0,none,0,none,0,?_,?_,?_⟩,ae (EJ.trans (aU w4 w3.heap.size (.int .i64 C) (.int .u64 0) (.int .u64 0) (.int .u64 0) (.int .i64 0) (.slice none 0 0) (.slice none 0 0) (.slice none 0 0)))⟩;{exact (VZ.below EJ).rep QS (by have:=VZ.be.size;omega) _ _ _ _ _ _ _ _};{rw [<-eq];exact (QS.put _ _ _ _ _ _ _ _).1};{rw [<-eq];exact zt.num _ _ _ _ _ _ _}})
 case rest =>(
 obtain ⟨MR,uB⟩:=hcut;obtain ⟨SB9,NB9,HB9,UB9,y1,d1,y2,d2,y3,d3,P9,R9,L9⟩:=aa MR;obtain ⟨m1,em1⟩:∃ n,Hid (R.2.vt.length=n):=⟨_,ae rfl⟩;obtain ⟨m2,em2⟩:∃ n,Hid (R.2.qh.length=n):=⟨_,ae rfl⟩;obtain ⟨m3,XS⟩:∃ n,Hid (R.2.tT.length=n):=⟨_,ae rfl⟩;rw [aa em1,aa em2,aa XS] at R9 L9;have hFS:=aa hAF Nh;rw [aa E9] at hFS;have NH:=ae hFS;have Wj:=ae (ag P9 (ag R9 L9));have Mh:=ae (fun (vs:Array Value) (w:World)=>show (callFunc 38 vs).run prog w=.ok (.enter 38 vs) w by kernel_rfl);clear P9 R9 L9 hFS MR;go_wp2_with fail;obtain ⟨vA,bM⟩:=ar wc.drew;have bA:Below wc.heap.size wc vA:=by rw [bM];exact ay.drew
 have Fq:=ae bA;have SA:=ae (fun (v:World) (hv:RX v w3.heap.size [.int .i64 R.2.k,.int .u64 R.2.i,.int .u64 R.2.e,.int .u64 R.2.g,.int .i64 R.2.n,.slice y1 m1 d1,.slice y2 m2 d2,.slice y3 m3 d3])=>(ag hv.cells.1 (ag hv.cells.2.1 (ag hv.cells.2.2.1 (ag hv.cells.2.2.2.1 (ag hv.cells.2.2.2.2.1 (ag hv.cells.2.2.2.2.2.1 (ag hv.cells.2.2.2.2.2.2.1 hv.cells.2.2.2.2.2.2.2.1)))))):v.cell? ⟨w3.heap.size,0,none⟩=some (.int .i64 R.2.k)/\v.cell? ⟨w3.heap.size,1,none⟩=some (.int .u64 R.2.i)/\v.cell? ⟨w3.heap.size,2,none⟩=some (.int .u64 R.2.e)/\v.cell? ⟨w3.heap.size,3,none⟩=some (.int .u64 R.2.g)/\v.cell? ⟨w3.heap.size,4,none⟩=some (.int .i64 R.2.n)/\v.cell? ⟨w3.heap.size,5,none⟩=some (.slice y1 m1 d1)/\v.cell? ⟨w3.heap.size,6,none⟩=some (.slice y2 m2 d2)/\v.cell? ⟨w3.heap.size,7,none⟩=some (.slice y3 m3 d3)));refine wp_region_noPanic ?_;refine wp_region_held_drew (S:=fun v=>v.cell? ⟨w3.heap.size,0,none⟩=some (.int .i64 R.2.k)/\v.cell? ⟨w3.heap.size,1,none⟩=some (.int .u64 R.2.i)/\v.cell? ⟨w3.heap.size,2,none⟩=some (.int .u64 R.2.e)/\v.cell? ⟨w3.heap.size,3,none⟩=some (.int .u64 R.2.g)/\v.cell? ⟨w3.heap.size,4,none⟩=some (.int .i64 R.2.n)/\v.cell? ⟨w3.heap.size,5,none⟩=some (.slice y1 m1 d1)/\v.cell? ⟨w3.heap.size,6,none⟩=some (.slice y2 m2 d2)/\v.cell? ⟨w3.heap.size,7,none⟩=some (.slice y3 m3 d3)) (by kernel_rfl) (by rw [<-bM];exact aa SA vA (Wj.2.1.below bA)) (fun hS=>?_);rw [<-bM] at hS ⊢;clear bM bA;refine dQ 0 2 hS ?_;refine aH 1 fun KK hK=>?_;refine iL (by rfl) 38 _ _ (by rfl) (.pointer (some ⟨b,0,none⟩)) (by rfl) (fun _=>aa Mh _ _) (DD b bs bn R.1.e R.1.g R.1.x R.1.t R.1.ss R.1.ns SB9 NB9 vA (Wj.1.below Fq).sto (ae NH.s1) (ae NH.n1) (by have:=NH.sl;omega) (by have:=NH.nl;omega) (ae fun s hs=>⟨(NH.s2 s hs).1,by have:=(NH.s2 s hs).2.1;omega,fun e he=>by have:=(NH.s2 s hs).2.2 e he;omega⟩) (ae fun nd aK=>by obtain ⟨f1,f2,f3,f4,f5,f6,f7⟩:=NH.n2 nd aK;exact ⟨f1,by omega,by omega,by omega,by omega,f6,f7⟩)) ?_
 rintro r v2 ⟨p',c',q',d',A1',A2',rfl,s1,s2,s3,s4,s5,j7⟩;refine ⟨_,rfl,?_⟩;have jQ:=ae (show jg vA.heap.size v2 p' R.1.ss.length c' q' R.1.ns.length d' R.1.ss R.1.ns from ⟨A1',A2',s1,s2,s3,s4,s5⟩);have B5:=ae j7;have BC5:=ae (ai uB (ai Fq j7));refine bm hK (by exact SA v2 (Wj.2.1.below (ai Fq j7))) fun hS=>?_;clear hK KK s1 s2 s3 s4 s5 j7;have LQ2:=(aa HA w2 B2).1;have BX5:=(LQ2.2.2.1.fr F3' (by decide)).below BC5;have RX5:=(LQ2.2.2.2.fr F3' (by decide)).below BC5;have R5:=Wj.2.1.below (ai Fq B5);have zz1:=aa Z3;have zz2:=F3'.1;refine Gh 3 4 4 5 30 31 (by kernel_rfl) (by kernel_rfl) (by kernel_rfl) rfl rfl (w.heap.size+1+1) (w.heap.size+1+1+1) R.1.e R.1.g R.1.x R.1.t p' R.1.ss.length c' q' R.1.ns.length d' R.2.k R.2.i R.2.e R.2.g R.2.n y1 m1 d1 y2 m2 d2 y3 m3 d3 rfl rfl rfl rfl BX5 RX5 (B:=w.heap.size+1+1) (by omega) ⟨Nat.le_refl _,by omega⟩ (fun v hv=>aa SA v (R5.bc (hv _ (by omega) (by omega)))) ?_;intro w' bf gF bl hk;refine aX ?_;obtain ⟨q0,q1,q2,q3,q4,q5,qf⟩:=bf.cells;obtain ⟨r0,r1,r2,r3,r4,r5,r6,r7,rf⟩:=gF.cells;have Yu:=ae (ag bl hk);clear hS LQ2 BX5 RX5 R5 bf gF bl hk;go_wp2;refine bodyPost_ret (v:=.tuple #[cK R.1.e R.1.g R.1.x R.1.t (.slice p' R.1.ss.length c') (.slice q' R.1.ns.length d'),fW R.2.k R.2.i R.2.e R.2.g R.2.n (.slice y1 m1 d1) (.slice y2 m2 d2) (.slice y3 m3 d3)]) (by simp [results,results10,go_sem,q0,q1,q2,q3,q4,q5,r0,r1,r2,r3,r4,r5,r6,r7]) rfl ⟨⟨p',c',q',d',_,w2.heap.size,vA,rfl,⟨R6.size,by have:=R6.size;have:=Fq.size;have:=uB.size;omega⟩,?_,?_,?_,?_⟩,?_⟩;{exact Wj.2.2.aM (fun z _ h2=>Fq.block z h2) Fq.size};{exact Nat.le_trans B5.size Yu.1.size};{intro z h1 h2;exact (Yu.2 z (by omega) (by omega)).trans (B5.block z h2)};{exact jQ.aM (fun z h1 h2=>Yu.2 z (by have:=Fq.size;have:=uB.size;omega) (by have:=Fq.size;have:=uB.size;omega))};{have h1:=BW.trans (VZ.be.mono BW.size);have h2:=h1.trans (BC5.mono h1.size);exact h2.trans (Yu.1.mono (by omega))})}
open Go.Deep
theorem BD.yG (h:BD D):∀ s∈D.ss,s.2.2.length<=1048576/\∀ e∈s.2.2,bQ e.2/\e.2.length<=1048576:=fun s hs=>⟨by have:=(h.s s hs).1;omega,fun e he=>⟨((h.s s hs).2 e he).1,by have:=((h.s s hs).2 e he).2;omega⟩⟩
theorem BD.fK (h:BD D):∀ nd∈D.ns,bQ nd.path/\nd.path.length<=1048576/\nd.value.length<=1048576/\nd.holders.length<=1048576/\nd.watchers.length<=1048576:=fun nd aK=>by
 obtain ⟨a,b,c,d,e,f⟩:=h.n nd aK;exact ⟨a,by omega,by omega,by omega,by omega⟩
theorem BD.vd (h:BD D) (gC:jl D.e D.g D.x D.t D.ss D.ns=true):VD D:=VD.of gC (wV gC h.yG h.fK) h.g.1 h.x.1 (fun s hs ev he=>((h.s s hs).2 ev he).1) (fun nd aK=>(h.n nd aK).2.2.2.1)
theorem VD.WX (h:VD D) {i:Int} (hi:i∈gR D.ss):1<=i/\i<=4611686018427387904:=by
 obtain ⟨s,hs,rfl⟩:=List.mem_map.1 hi;have h1:=(h.s2 s hs).1;have h2:=h.x;exact ⟨h1.1,by omega⟩
theorem VD.fs (h:VD D):Fd 51 D.ss D.ns:=by
 have hb:∀ s∈D.ss,s.2.2.length<=1048576/\∀ e∈s.2.2,bQ e.2/\e.2.length<=1048576:=fun s hs=>by obtain ⟨q1,q2⟩:=(h.s2 s hs).q;exact ⟨by omega,fun e he=>⟨(q2 e he).1,by have:=(q2 e he).2;omega⟩⟩
 have hy:∀ nd∈D.ns,bQ nd.path/\nd.path.length<=1048576/\nd.value.length<=1048576/\nd.holders.length<=1048576/\nd.watchers.length<=1048576:=fun nd aK=>by have hn:=h.n2 nd aK;have a1:=kR hn.vp;have a2:=hn.va;have a3:=h.ids hn.h1 hn.h2;have a4:=h.ids hn.w1 hn.w2;exact ⟨hn.pb,by omega,by omega,by omega,by omega⟩
 exact (Fd.of h.ok (wV h.ok hb hy)).mono (by omega)
theorem vy (hs:s∈D.ss):bS D 3 s.1 0 0 0 [] []=(dw D s.1,mR):=by
 have hf:Dc 3 s.1 0 0 0 0 0=true:=by simp [Dc,Eg,rowOf,Ll]
 have hi:¬ kp D.ss s.1<0:=by
  unfold kp;cases hf:D.ss.findIdx? (fun y=>y.1==s.1) with
  | some i=>simp
  | none=>
   have:=List.findIdx?_eq_none_iff.1 hf s hs;simp at this
 unfold bS;rw [if_neg (by show ¬ Dc 3 s.1 0 0 0 0 0=false;rw [hf];simp),if_neg (by decide),if_neg (by simp [hi]),if_neg (by decide),if_pos rfl]
theorem IN (h:VD D) (hs:s∈D.ss):AP D.e D.g D.x D.t D.ss D.ns 3 s.1 0 0 0 [] []=(dw D s.1,mR):=by
 unfold AP;rw [if_pos h.ok];exact vy hs
theorem gh.at {n c:Nat} (h:IS w (.slice p n c) ss) (hx:ss[i]?=some s):∃ b o,p=some ⟨b,o,none⟩/\w.cell? ⟨b,o+i*3,none⟩=some (.int .u64 s.1):=by
 obtain ⟨p',c',e,hd⟩:=h;simp only [Value.slice.injEq] at e;obtain ⟨rfl,-,rfl⟩:=e;rcases hd with rfl | ⟨b,o,rfl,hc⟩;{simp at hx};{exact ⟨b,o,rfl,(hc i s hx).1⟩}
theorem mi.own {n c:Nat} (h:mi w (.slice p n c) ns) (hx:ns[i]?=some nd):∃ b o P V H U,p=some ⟨b,o,none⟩/\kk w b (o+i*8) nd P V H U:=by
 obtain ⟨b,o,rfl,hc⟩:=h.at (by have:=(aJ.1 hx).1;omega);obtain ⟨P,V,H,U,hn⟩:=hc i nd hx;exact ⟨b,o,P,V,H,U,rfl,hn⟩
theorem GF {code:List Int} {O:Ey} (hD:Hid (BD D)) (hA:Hid (WC code D O)) (p:Option Addr) (c:Nat) (w:World) (hR:Hid (Rd w (.slice p code.length c) code)) (hc:code.length<=c) (hl:code.length<=1048576) (xq:Hid (ML w)) (PG:Hid (Ya w)) (hEr:Hid (w.cell? ⟨1,0,none⟩=some (.iface 219 (.agg #[.pointer (some ⟨5,73,none⟩)])))) :
  Calls prog 3 #[.slice p code.length c] w fun r w'=>r=.returned (.bool true)/\Below w.heap.size w w':=by
 have uw:¬ (1048576:Int)<(code.length:Int):=by omega
 obtain ⟨m,em⟩:∃ m,Hid (D.ss.length=m):=⟨_,ae rfl⟩;obtain ⟨n,en⟩:∃ n,Hid (D.ns.length=n):=⟨_,ae rfl⟩;have Re:m<=1000:=by rw [<-aa em];exact hD.sl
 have zR:n<=1000:=by rw [<-aa en];exact hD.nl
 go_enter func3,ntmps3;go_wp2_with fail;refine (aa hA p c w hR hc).mono ?_;rintro r w1 ⟨ps,cs,qs,ds,pp,cp,pq,cv,rfl,S1,N1,-,-,b1⟩;rw [aa em] at S1;rw [aa en] at N1;rw [aa em,aa en];obtain ⟨W2,iY,b2,z2,C2⟩:=bg w1 (.int .u64 D.e) (.int .u64 D.g) (.int .u64 D.x) (.int .i64 D.t) (.slice ps m cs) (.slice qs n ds);obtain ⟨W3,j8,b3,z3,-,-⟩:=aj W2 #[.int .i64 O.K,.int .u64 O.S,.slice pp O.P.length cp,.int .i64 O.F,.slice pq O.V.length cv,.int .u64 O.E,.int .u64 O.G] 29;have bW:=ai b2 b3;have HW:=ae (fun (v:World) (hv:Below W3.heap.size W3 v)=>ag ((C2.below b3).below hv) (ag (S1.below (ai bW hv)) (ag (N1.below (ai bW hv)) (ai b1 (ai bW hv)))));obtain ⟨sb,il⟩:=aN w1.heap.size;rw [il] at HW;have zsb:sb<W3.heap.size:=by omega
 have ko:=ae il;clear S1 N1 b1 b2 b3 z2 z3 C2 bW il;go_wp2_with fail;rw [<-iY,<-j8];clear iY j8 W2;obtain ⟨ok,Nh⟩:∃ ok,Hid (jl D.e D.g D.x D.t D.ss D.ns=ok):=⟨_,ae rfl⟩;refine (Oc D.e D.g D.x D.t ps qs cs m ds n D.ss D.ns em en W3 (aa HW W3 ay).2.1.rd (aa HW W3 ay).2.2.1 (by omega) (by omega) (ae hD.yG) (ae hD.fK) ok Nh).mono ?_;rintro r w4 ⟨rfl,fO⟩;have B4:=ae fO;clear fO;rw [aa ko];clear ko w1;cases ok;{go_wp2;go_ret;exact ⟨rfl,(aa HW w4 B4).2.2.2⟩};have HV:Hid (VD D):=hD.vd Nh;have hm5:m<=50:=by rw [<-aa em];exact HV.sl
 have hn5:n<=200:=by rw [<-aa en];exact HV.nl
 go_wp2
 go_loopw [5] (fun iv wr=>∃ i:Nat,i<=8/\i<=m/\iv=.int .i64 i/\Hid (Below W3.heap.size W3 wr)) (fun iv _=>8-(intOf iv).toNat)
 case atStart=>exact ⟨0,by omega,by omega,rfl,B4⟩
 case round =>(
 clear B4;obtain ⟨i,hi8,him,rfl,RN⟩:=hrel;obtain ⟨q0,q1,q2,q3,q4,q5,qf⟩:=(aa HW wr RN).1.cells;by_cases br:i<m/\i<8;{
 have h1:(i:Int)<(m:Int):=by omega
 have h2:(i:Int)<8:=by omega
 obtain ⟨s,hs⟩:∃ s,D.ss[i]?=some s:=⟨_,aE (by rw [aa em];exact br.1)⟩;obtain ⟨gs,os,rfl,c0⟩:=gh.at (aa HW wr RN).2.1.rd hs;obtain ⟨id,eid⟩:=aN s.1;rw [eid] at c0;have HS:=ae (ag hs eid);clear hs eid br;go_wp2;clear c0 q0 q1 q2 q3 q4 q5 qf
 go_loopw [7,8] (fun ov kv wr=>∃ (k ow:Nat),k<=n/\ow<=k/\kv=.int .i64 k/\ov=.int .i64 ow/\Hid (nH id (D.ns.take k)=ow)/\Hid (Below W3.heap.size W3 wr)) (fun _ kv _=>n-(intOf kv).toNat)
 case atStart=>exact ⟨0,0,by omega,by omega,rfl,rfl,(by show _=_;simp [nH]),RN⟩
 case round =>(
 clear RN;obtain ⟨k,ow,hk,gC,rfl,rfl,Yj,km⟩:=hrel;obtain ⟨q0,q1,q2,q3,q4,q5,qf⟩:=(aa HW wr km).1.cells;by_cases hlk:k<n;{
 have ZW:(k:Int)<(n:Int):=by omega
 obtain ⟨nd,aK⟩:∃ nd,D.ns[k]?=some nd:=⟨_,aE (by rw [aa en];exact hlk)⟩;obtain ⟨gn,on,P,V,H,U,rfl,NA⟩:=mi.own (aa HW wr km).2.2.1 aK;have n2:=NA.c2;have QP:=ae (DO aK id);clear NA aK;by_cases ho:nd.owner=id;{
 have hoo:(nd.owner==id)=true:=by simp [ho]
 have HO:=ae ho;clear ho;go_wp2;go_roundw
 case rel=>exact ⟨k+1,ow+1,by omega,by omega,by go_num,by go_num,(by show _=_;rw [aa QP,if_pos (aa HO),aa Yj]),km⟩
 case measure=>simp [intOf];omega}
 {
 have hoo:(nd.owner==id)=false:=by simp [ho]
 have HO:=ae ho;clear ho;go_wp2;go_roundw
 case rel=>exact ⟨k+1,ow,by omega,by omega,by go_num,rfl,(by show _=_;rw [aa QP,if_neg (aa HO),aa Yj];rfl),km⟩
 case measure=>simp [intOf];omega}}
 {
 have ZW:¬ (k:Int)<(n:Int):=by omega
 have xr:k=n:=by omega
 subst xr;have an1:Hid (nH id D.ns=ow):=by have:=aa Yj;rw [List.take_of_length_le (by rw [aa en];omega)] at this;exact this
 clear Yj;have BO:=(aa HW wr km).2.2.2;go_wp2_with fail;clear q0 q1 q2 q3 q4 q5 qf;refine (aa hA p c wr (hR.below BO) hc).mono ?_;rintro r w5 ⟨ps5,cs5,qs5,ds5,pp5,cp5,pq5,cv5,rfl,S5,N5,-,-,b5⟩;rw [aa em] at S5;rw [aa en] at N5;rw [aa em,aa en];obtain ⟨W6,hW6,b6,z6,C6⟩:=bg w5 (.int .u64 D.e) (.int .u64 D.g) (.int .u64 D.x) (.int .i64 D.t) (.slice ps5 m cs5) (.slice qs5 k ds5);obtain ⟨W7,hW7,b7,z7,-,-⟩:=aj W6 #[.int .i64 O.K,.int .u64 O.S,.slice pp5 O.P.length cp5,.int .i64 O.F,.slice pq5 O.V.length cv5,.int .u64 O.E,.int .u64 O.G] 29;have bW7:=ai b5 (ai b6 b7);have QW:=ae (ag (S5.below (ai b6 b7)) (ag (N5.below (ai b6 b7)) (ag (ai (aa km) bW7) (ai BO bW7))));clear S5 N5 b5 b6 b7 C6 bW7 BO z6 z7;go_wp2_with fail;rw [<-hW6,<-hW7];clear hW6 hW7 W6;have Tu:=aF HS.1;have hid:=HV.WX (List.mem_map.2 ⟨s,Tu,HS.2⟩);have UG:bS ⟨D.e,D.g,D.x,D.t,D.ss,D.ns⟩ 3 id 0 0 0 [] []=(dw D id,mR):=by have:=vy Tu;rw [HS.2] at this;exact this
 have Ji:=IN HV Tu;rw [HS.2] at Ji;have tQ:=HV.close (id:=id) (by omega);have Hi:=sU HV.s1 (List.mem_map.2 ⟨s,Tu,HS.2⟩:id∈gR D.ss);have hfs:Fd 51 (bS ⟨D.e,D.g,D.x,D.t,D.ss,D.ns⟩ 3 id 0 0 0 [] []).1.ss (bS ⟨D.e,D.g,D.x,D.t,D.ss,D.ns⟩ 3 id 0 0 0 [] []).1.ns:=by rw [UG];exact tQ.1.fs
 refine (AY D.e D.g D.x D.t ps5 m cs5 qs5 k ds5 D.ss D.ns em en 3 id 0 0 0 none 0 0 none 0 0 [] [] (ae rfl) (ae rfl) W7 (ae QW.1) (ae QW.2.1) (ae (Rd.nil _)) (ae (Rd.nil _)) (by omega) (by omega) (by omega) ax (ae (Nat.zero_le _)) (ae hD.yG) (ae hD.fK) (ae fun nd aK=>⟨fun i hi=>by have:=HV.WX ((HV.n2 nd aK).h2 i hi);omega,fun i hi=>by have:=HV.WX ((HV.n2 nd aK).w2 i hi);omega⟩) (ae fun nd aK=>by rcases (HV.n2 nd aK).ow with h | h;{omega};{have:=HV.WX h;omega}) (ae (xq.below QW.2.2.2)) (ae fun k h1 h2=>(aa PG k h1 h2).below QW.2.2.2) (ae (af (aa hEr) QW.2.2.2)) (ae fun z hz=>by simp at hz) (ae ⟨by omega,by omega⟩) (ae ⟨hD.g.1,hD.x.1⟩) (dw D id,mR) (ae Ji) (ae fun _ _ _ _ _ _ _ _ _ cx=>Eu cx) (ae fun _=>hfs)).mono ?_
 rintro r w8 ⟨⟨p8,c8,q8,d8,v8,B5,w6,rfl,-,L8,-,-,St8⟩,b8⟩;obtain ⟨p1,c1,p2,c2,p3,c3,A1,A2,A3,rfl,-⟩:=L8;obtain ⟨A4,A5,s8,n8,-⟩:=St8;obtain ⟨D8,eD8⟩:=aN (dw D id);have XQ:(dw D id,mR).1=D8:=eD8;have ewr:(dw D id,mR).2=mR:=rfl;rw [XQ] at s8 n8 ⊢;rw [ewr];rw [eD8] at tQ;obtain ⟨m8,em8⟩:∃ m8,Hid (D8.ss.length=m8):=⟨_,ae rfl⟩;obtain ⟨n9,en9⟩:∃ n9,Hid (D8.ns.length=n9):=⟨_,ae rfl⟩;rw [aa em8] at s8 ⊢;rw [aa en9] at n8 ⊢;have hm8:m8+1=m:=by have h1:=congrArg List.length tQ.2.1;rw [gR,List.length_map,aa em8] at h1;rw [<-h1,gR,List.length_map,aa em] at Hi;exact Hi
 have Xh:n9+ow=k:=by have h1:=tQ.2.2.2;rw [aa en9,aa an1,aa en] at h1;exact h1
 have HC:=ae tQ;clear tQ Hi hfs Ji UG eD8 XQ ewr hid Tu A1 A2 A3 A4 A5;rw [show mR=(⟨0,0,0,0,0,[],[],[]⟩:RP) from rfl];obtain ⟨W9,hW9,b9,z9,C9⟩:=bg w8 (.int .u64 D8.e) (.int .u64 D8.g) (.int .u64 D8.x) (.int .i64 D8.t) (.slice p8 m8 c8) (.slice q8 n9 d8);obtain ⟨Nw,Py,X8,z10,R10⟩:=gP W9 (.int .i64 0) (.int .u64 0) (.int .u64 0) (.int .u64 0) (.int .i64 0) (.slice p1 0 c1) (.slice p2 0 c2) (.slice p3 0 c3);rw [z9] at R10;have bX:=ai b9 X8;have Qx:Below W3.heap.size W3 Nw:=ai QW.2.2.1 (ai b8 bX);have HX:=ae (fun (v:World) (hv:Below Nw.heap.size Nw v)=>ag ((C9.below X8).below hv) (ag (s8.below (ai bX hv)) (ag (n8.below (ai bX hv)) (ai Qx hv))));obtain ⟨-,-,-,-,q4,q5,-⟩:=(aa HW Nw Qx).1.cells;obtain ⟨-,-,-,-,x4,x5,-⟩:=(C9.below X8).cells;obtain ⟨r0,-⟩:=R10.cells;have e1:((m8:Int) != (m:Int)-1)=false:=by simp;omega
 have e2:((n9:Int) != (k:Int)-(ow:Int))=false:=by simp;omega
 have HE:=ae (ag hm8 Xh);have bk:m8<=50/\n9<=200/\ow<=200:=by omega
 rw [Py,hW9] at q4 q5 x4 x5 r0;clear hm8 Xh C9 R10 b9 X8 z9 z10 bX s8 n8 b8 QW;go_wp2;rw [<-hW9,<-Py];clear hW9 Py q4 q5 x4 x5 r0 e1 e2 Qx;obtain ⟨nb,enb⟩:∃ nb,Hid (w8.heap.size=nb):=⟨_,ae rfl⟩;rw [aa enb] at HX
 (try rw [aa enb])
 go_loopw [13] (fun kv wr=>∃ j:Nat,j<=m8/\kv=.int .i64 j/\Hid (Below Nw.heap.size Nw wr)) (fun kv _=>m8-(intOf kv).toNat)
 case atStart=>exact ⟨0,by omega,rfl,Below.refl _ _⟩
 case round =>(
 obtain ⟨j,hj,rfl,jy⟩:=hrel;obtain ⟨x0,x1,x2,x3,x4,x5,xf⟩:=(aa HX wr jy).1.cells;by_cases Xk:j<m8;{
 have Kz:(j:Int)<(m8:Int):=by omega
 obtain ⟨s',vZ⟩:∃ s',D8.ss[j]?=some s':=⟨_,aE (by rw [aa em8];exact Xk)⟩;obtain ⟨g8,o8,rfl,y0⟩:=gh.at (aa HX wr jy).2.1.rd vZ;have bq:(s'.1==id)=false:=by have h1:s'.1∈gR D8.ss:=List.mem_map.2 ⟨s',aF vZ,rfl⟩;rw [HC.2.1] at h1;have:=(List.mem_filter.1 h1).2;simpa using this
 clear vZ;go_wp2;go_roundw
 case rel=>exact ⟨j+1,by omega,by go_num,jy⟩
 case measure=>simp [intOf];omega}
 {
 have Kz:¬ (j:Int)<(m8:Int):=by omega
 go_wp2;clear x0 x1 x2 x3 x4 x5 xf
 go_loopw [14] (fun kv wr=>∃ j:Nat,j<=n9/\kv=.int .i64 j/\Hid (Below Nw.heap.size Nw wr)) (fun kv _=>n9-(intOf kv).toNat)
 case atStart=>exact ⟨0,by omega,rfl,jy⟩
 case round =>(
 clear jy Xk Kz hj;obtain ⟨j,hj,rfl,jy⟩:=hrel;obtain ⟨x0,x1,x2,x3,x4,x5,xf⟩:=(aa HX wr jy).1.cells;by_cases Xk:j<n9;{
 have Kz:(j:Int)<(n9:Int):=by omega
 obtain ⟨nd,aK⟩:∃ nd,D8.ns[j]?=some nd:=⟨_,aE (by rw [aa en9];exact Xk)⟩;obtain ⟨gn,on,P,V,H,U,rfl,NA⟩:=mi.own (aa HX wr jy).2.2.1 aK;have gN:=aF aK;obtain ⟨KM,hwa⟩:=HC.2.2.1 nd gN;have D9:=HC.1.n2 nd gN;have l1:=HC.1.ids D9.h1 D9.h2;have l2:=HC.1.ids D9.w1 D9.w2;have hoo:(nd.owner==id)=false:=by simp [KM.1]
 have f1:Hid (nd.holders.contains id=false):=by show _=_;rw [<-Bool.not_eq_true];exact fun h=>KM.2 (List.contains_iff_mem.1 h)
 have f2:Hid (nd.watchers.contains id=false):=by show _=_;rw [<-Bool.not_eq_true];exact fun h=>hwa (List.contains_iff_mem.1 h)
 obtain ⟨nh,enh⟩:∃ nh,Hid (nd.holders.length=nh):=⟨_,ae rfl⟩;obtain ⟨nu,enu⟩:∃ nu,Hid (nd.watchers.length=nu):=⟨_,ae rfl⟩;obtain ⟨pP,cP,rfl⟩:∃ p c,P=.slice p nd.path.length c:=by obtain ⟨p,c,e,-⟩:=NA.r0;exact ⟨p,c,e⟩
 obtain ⟨pV,cV,rfl⟩:∃ p c,V=.slice p nd.value.length c:=by obtain ⟨p,c,e,-⟩:=NA.r1;exact ⟨p,c,e⟩
 obtain ⟨pH,cH,rfl⟩:∃ p c,H=.slice p nh c:=by obtain ⟨p,c,e,-⟩:=NA.r4;rw [aa enh] at e;exact ⟨p,c,e⟩
 obtain ⟨pU,cU,rfl⟩:∃ p c,U=.slice p nu c:=by obtain ⟨p,c,e,-⟩:=NA.r7;rw [aa enu] at e;exact ⟨p,c,e⟩
 rw [aa enh] at l1;rw [aa enu] at l2;obtain ⟨k0,k1,k2,k3,k4,k5,k6,k7⟩:_/\_/\_/\_/\_/\_/\_/\_:=⟨NA.c0,NA.c1,NA.c2,NA.c3,NA.c4,NA.c5,NA.c6,NA.c7⟩;obtain ⟨W11,UJ,X7,z11,C11,-⟩:=aj wr #[.slice pP nd.path.length cP,.slice pV nd.value.length cV,.int .u64 nd.owner,.int .i64 nd.mode,.slice pH nh cH,.int .u64 nd.aD,.int .u64 nd.gen,.slice pU nu cU] 38;have HN:=ae (ag (NA.r4.below X7) (ag (NA.r7.below X7) (ag (ai (aa jy) X7) (ag C11 z11))));clear gN KM hwa D9 aK NA X7 C11 z11;go_wp2_with fail;rw [<-UJ];clear UJ;refine (CO pH cH nh nd.holders enh id W11 HN.1 (by omega) false f1).mono ?_;rintro r w12 ⟨rfl,KY⟩;have C12:=(HN.2.2.2.1.below (by have:=HN.2.2.2.2;omega) KY).1 7 _ rfl;have mj:=ae (ag (HN.2.1.below KY) (ai HN.2.2.1 KY));clear KY HN k0 k1 k2 k3 k4 k5 k6 k7;go_wp2_with fail;refine (CO pU cU nu nd.watchers enu id w12 mj.1 (by omega) false f2).mono ?_;rintro r w13 ⟨rfl,UF⟩;have B13:=ae (ai mj.2 UF);clear UF mj C12;go_wp2;go_roundw
 case rel=>exact ⟨j+1,by omega,by go_num,B13⟩
 case measure=>simp [intOf];omega}
 {
 have Kz:¬ (j:Int)<(n9:Int):=by omega
 go_wp2;go_roundw
 case rel=>exact ⟨i+1,by omega,by omega,by go_num,ae (aa HX wr jy).2.2.2⟩
 case measure=>simp [intOf];omega})})})}
 {
 by_cases h1:i<m;{
 have C5:(i:Int)<(m:Int):=by omega
 have h2':¬ (i:Int)<8:=by omega
 go_wp2;go_ret;exact ⟨rfl,(aa HW wr RN).2.2.2⟩};{
 have C5:¬ (i:Int)<(m:Int):=by omega
 go_wp2;go_ret;exact ⟨rfl,(aa HW wr RN).2.2.2⟩}})
theorem own:ownKnob Tryz.prog.godebug=none:=by kernel_rfl
theorem laidOut:laidOutB Tryz.prog=true:=by kernel_rfl
theorem yI {H:Type} {enc:TypeId × Value->H} {a:Assume} {C:Checked} {os:Os} {f:FuncId} {fn:Func} {s:ChangeSpec} {conds:List PathCond} {apart fresh handsOn again:Bool} {X:World->Array Value->Prop}
  (hX:∀ (w w':World) (args:Array Value),w.heap=w'.heap->X w args->X w' args)
  (own:ownKnob C.prog.godebug=none) (started:os.Started) (Ot:C.prog.inits.idxOf? f=none) (hfn:C.prog.funcs[f]?=some fn)
  (witness:∃ (w:World) (tape:Tape) (i:Input),w.os=os/\(w.forCall tape i).Shaped C.prog/\i.vars=[]/\Input.okWide C.prog (w.forCall tape i) .any w.heap.size f i ∧
   ((s.pre enc C.prog fn conds apart (w.forCall tape i).memory i.args/\X (w.forCall tape i).memory i.args)/\sizedMet enc C.prog fn (OpenSpec.ofChange s) apart (w.forCall tape i).memory i.args)/\a.holds C.prog (lone (Frame.enter C.prog f i.args .normal) [] (w.forCall tape i)))
  (Iz:∀ (W:World) (base:Nat) (args:Array Value) (ds gs:List (DataW H)) (before:List MemPlace),
   (∀ (j:Nat) t v,fn.params[j]?=some t->args[j]?=some v->Value.okWide C.prog W .any base t v) →
   DataW.Whole enc C.prog fn.params.toList s.vars apart W args.toList ds gs before →
   X W args->W.ShapedOpen C.prog →
   Calls C.prog f args W fun e W'=>∃ v,e=.returned v/\s.post enc C.prog fn apart fresh handsOn again W args v W') :
  ReturnsInHanded a C os f .any (fun w args=>(s.pre enc C.prog fn conds apart w args/\X w args)/\sizedMet enc C.prog fn (OpenSpec.ofChange s) apart w args) (s.post enc C.prog fn apart fresh handsOn again):=by
 refine returnsInHanded_of_calls own started Ot witness ?_;intro w tape i _ Zy _ gC Kv aa5;obtain ⟨_,_,_,fn',ab4,_,_,_,_,qZ⟩:=gC;have e:fn'=fn:=Option.some.inj (ab4.symm.trans hfn);subst e;obtain ⟨⟨⟨ds,gs,before,hw,hc⟩,hx⟩,hz⟩:=Kv;refine (Iz (w.forCall tape i) w.heap.size i.args ds gs before qZ (DataW.Whole.of_heap (w':=w.forCall tape i) (by rfl) hw) (hX _ _ _ (by rfl) hx) Zy).mono fun e W' ⟨v,he,hp⟩=>?_;subst he;exact ChangeSpec.post_blind hp
theorem xW (h:w.ShapedOpen Tryz.prog):∃ m,w.cell? ⟨2,0,none⟩=some (.int .i64 m):=
 cell_of_shapedOpen_int (t:=3) (zero:=#[.int .i64 0]) h (of_decide_eq_true (by kernel_rfl)) (by kernel_rfl) rfl (by kernel_rfl) (by kernel_rfl) Tryz.underlying3
theorem tp:Tryz.prog.cellsOf 101=7:=by kernel_rfl
theorem Et:Tryz.prog.cellsOf 3=1:=by kernel_rfl
theorem BL:Tryz.prog.cellsOf 4=1:=by kernel_rfl
theorem vG {H:Type} {enc:TypeId × Value->H} {P:Program} {base:Nat} {spare:Nat->Bool} {held:Bool} {t:TypeId} {f0 f1 f2 f3 f4 f5 f6:Field} {fuel:Nat} {x:DataW H × List MemPlace} (ht:P.underlying t=some (.struct #[f0,f1,f2,f3,f4,f5,f6])) (h:DataW.trod enc P w base spare held fuel t cs=some x) :
  ∃ y0 y1 y2 y3 y4 y5 y6 n,x.1=.agg [y0.1,y1.1,y2.1,y3.1,y4.1,y5.1,y6.1]/\cs.length=P.cellsOf t ∧
   DataW.trod enc P w base spare held n f0.type ((cs.drop f0.offset).take (P.cellsOf f0.type))=some y0/\DataW.trod enc P w base spare held n f1.type ((cs.drop f1.offset).take (P.cellsOf f1.type))=some y1 ∧
   DataW.trod enc P w base spare held n f2.type ((cs.drop f2.offset).take (P.cellsOf f2.type))=some y2/\DataW.trod enc P w base spare held n f3.type ((cs.drop f3.offset).take (P.cellsOf f3.type))=some y3 ∧
   DataW.trod enc P w base spare held n f4.type ((cs.drop f4.offset).take (P.cellsOf f4.type))=some y4/\DataW.trod enc P w base spare held n f5.type ((cs.drop f5.offset).take (P.cellsOf f5.type))=some y5 ∧
   DataW.trod enc P w base spare held n f6.type ((cs.drop f6.offset).take (P.cellsOf f6.type))=some y6:=by
 obtain ⟨xs,n,_,rfl,hl,hlen,hf⟩:=DataW.trod_struct ht h
 match xs,hlen with
 | [y0,y1,y2,y3,y4,y5,y6],_=>exact ⟨y0,y1,y2,y3,y4,y5,y6,n,rfl,hl,by simpa using hf 0 f0 rfl,by simpa using hf 1 f1 rfl,by simpa using hf 2 f2 rfl,by simpa using hf 3 f3 rfl,by simpa using hf 4 f4 rfl,by simpa using hf 5 f5 rfl,by simpa using hf 6 f6 rfl⟩
theorem wS {n:Nat} {x:DataW Unit × List MemPlace} {se pa sq jo:Bool} {lo hi vs:Int} (h:DataW.trod (fun _=>()) Tryz.prog w 0 (fun _=>true) false n 101 cs=some x) (hx:x.1=.agg [.lit (.bool se),.lit (.bool pa),.lit (.int .i64 lo),.lit (.int .i64 hi),.lit (.int .i64 vs),.lit (.bool sq),.lit (.bool jo)]) :
  cs=[.bool se,.bool pa,.int .i64 lo,.int .i64 hi,.int .i64 vs,.bool sq,.bool jo]:=by
 obtain ⟨y0,y1,y2,y3,y4,y5,y6,m,e,hl,h0,h1,h2,h3,h4,h5,h6⟩:=vG Tryz.underlying101 h;rw [tp] at hl;obtain ⟨x0,x1,x2,x3,x4,x5,x6,rfl⟩:∃ x0 x1 x2 x3 x4 x5 x6,cs=[x0,x1,x2,x3,x4,x5,x6]:=by
  match cs,hl with
  | [a,b,c,d,e,f,g],_=>exact ⟨a,b,c,d,e,f,g,rfl⟩
 simp [BL,Et] at h0 h1 h2 h3 h4 h5 h6;obtain ⟨b0,e0,f0⟩:=DataW.trod_bool Tryz.underlying4 h0;obtain ⟨b1,e1,f1⟩:=DataW.trod_bool Tryz.underlying4 h1;obtain ⟨b2,e2,f2,_⟩:=DataW.trod_int Tryz.underlying3 h2;obtain ⟨b3,e3,f3,_⟩:=DataW.trod_int Tryz.underlying3 h3;obtain ⟨b4,e4,f4,_⟩:=DataW.trod_int Tryz.underlying3 h4;obtain ⟨b5,e5,f5⟩:=DataW.trod_bool Tryz.underlying4 h5;obtain ⟨b6,e6,f6⟩:=DataW.trod_bool Tryz.underlying4 h6;rw [e,f0,f1,f2,f3,f4,f5,f6] at hx;simp at hx e0 e1 e2 e3 e4 e5 e6;obtain ⟨rfl,rfl,rfl,rfl,rfl,rfl,rfl⟩:=hx;subst e0 e1 e2 e3 e4 e5 e6
 rfl
namespace clRow
def ku : List (String × DataW Unit) := [("unicode/utf8.acceptRanges", Rows.laid_unicode_utf8_acceptRanges), ("loop.example/s02132/impl.forms", Rows.laid_loop_example_s02132_impl_forms), ("unicode/utf8.first", Rows.laid_unicode_utf8_first)]
theorem et : Tryz.prog.globalNamed "errors.errorType" = some 1 := by kernel_rfl
theorem rt : (Tryz.prog.cutTypes.find? (·.1 == "internal/reflectlite.rtype")).map (·.2) = some 219 := by kernel_rfl
theorem Oo:((List.range 340).filter fun t=>Tryz.prog.rowNamed t [101,114,114,111,114])=[73]:=by kernel_rfl
theorem size:Tryz.prog.types.size=340:=by kernel_rfl
theorem parts {W: World} (h : laidMetH Tryz.prog Rows.fnCloseRow.laid W) : laidMet Tryz.prog ku W ∧ handlesMet Tryz.prog [("errors.errorType", Rows.laid_errors_errorType)] W := h
theorem er (h:laidMetH Tryz.prog Rows.fnCloseRow.laid W):W.cell? ⟨1,0,none⟩=some (.iface 219 (.agg #[.pointer (some ⟨5,73,none⟩)])):=by
 obtain ⟨name,u,ty,e1,e2,e3,e4,e5⟩:=(parts h).2 _ (List.mem_singleton.2 rfl);have en:name=[101,114,114,111,114]:=(Option.some.inj e1).symm;subst en;obtain rfl:=Option.some.inj (rt.symm.trans e2);have hm:ty∈(List.range 340).filter fun t=>Tryz.prog.rowNamed t [101,114,114,111,114]:=List.mem_filter.2 ⟨List.mem_range.2 (by rw [<-size];exact e3),e4⟩;rw [Oo] at hm;obtain rfl:=List.mem_singleton.1 hm;have hh:typeHandle Tryz.prog 73=.pointer (some ⟨5,73,none⟩):=by kernel_rfl
 rw [hh] at e5;simpa using World.var?_cell et e5 0
theorem Bv (h:laidMet Tryz.prog ku W) (k:Nat) (hk:k<14) (se pa sq jo:Bool) (lo hi vs:Int)
  (hd0:∀ ds:List (DataW Unit),Rows.laid_loop_example_s02132_impl_forms=.agg ds->ds[k]?=some (.agg [.lit (.bool se),.lit (.bool pa),.lit (.int .i64 lo),.lit (.int .i64 hi),.lit (.int .i64 vs),.lit (.bool sq),.lit (.bool jo)])) :
  qP W 0 (k*7) se pa lo hi vs sq jo:=by
 have h2 : laidMet Tryz.prog (("loop.example/s02132/impl.forms", Rows.laid_loop_example_s02132_impl_forms) :: [("unicode/utf8.first", Rows.laid_unicode_utf8_first)]) W := laidMet.tail h;obtain ⟨ps,⟨g,t,cs,fuel,p,q,hg,ht,hv,hd,_,_⟩,_,_⟩:=h2;obtain rfl := Option.some.inj ((show Tryz.prog.globalNamed "loop.example/s02132/impl.forms" = some 0 by kernel_rfl).symm.trans hg);obtain rfl:=Option.some.inj ((show (Tryz.prog.globals[0]?).map (·.type)=some 102 by kernel_rfl).symm.trans ht);obtain ⟨xs,m,_,ex,tQ,hl,mF⟩:=DataW.trod_array Tryz.underlying102 hd;have hE:=mF k hk;rw [tp,aE (by omega)] at hE;have e3:=hd0 _ (Prod.mk.inj ex).1;rw [List.getElem?_map,aE (by omega:k<xs.length)] at e3;simp only [Option.map_some,Option.some.injEq] at e3;have CM:=wS hE e3;have bE:∀ j v,[Value.bool se,.bool pa,.int .i64 lo,.int .i64 hi,.int .i64 vs,.bool sq,.bool jo][j]?=some v->j<7->W.cell? ⟨0,k*7+j,none⟩=some v:=fun j v hj hj7=>by rw [World.var?_cell hg hv (k*7+j),<-hj,<-CM,List.getElem?_take,if_pos hj7,List.getElem?_drop];simp
 exact ⟨by simpa using bE 0 _ rfl (by omega),bE 1 _ rfl (by omega),bE 2 _ rfl (by omega),bE 3 _ rfl (by omega),bE 4 _ rfl (by omega),bE 5 _ rfl (by omega),bE 6 _ rfl (by omega)⟩
theorem tab (h:laidMet Tryz.prog ku W):Ya W:=by
 intro k h1 h2;rcases kinds h1 h2 with rfl | rfl | rfl | rfl | rfl | rfl | rfl | rfl | rfl | rfl | rfl | rfl | rfl<;>exact Bv h _ (by omega) _ _ _ _ _ _ _ (fun ds pj=>by
  have e:=DataW.agg.inj pj;rw [<-e]
  rfl)
def Nt (w:World):World:=
 { w with heap:=w.heap.modify 1 fun
   | .cells _ t frozen=>.cells #[.iface 219 (.agg #[.pointer (some ⟨5,73,none⟩)])] t frozen
   | o=>o }
theorem DV (os:Os) (args:Array Value):laidMetH Tryz.prog Rows.fnCloseRow.laid (((Nt (World.holding Tryz.prog os ⟨#[],#[],[]⟩)).layVars Tryz.prog ku).forCall (fun _ _=>0) ⟨#[],args,[]⟩).memory:=by
 refine laidMetH_of_parts ?_ (by kernel_rfl);have e1:(ku.filter fun x=>(ku.map (·.1)).contains x.1)=ku:=List.filter_eq_self.2 fun x hx=>List.contains_iff_mem.2 (List.mem_map.2 ⟨x,hx,rfl⟩);have e2:(ku.filter fun x=>!(ku.map (·.1)).contains x.1)=[]:=List.filter_eq_nil_iff.2 fun x hx=>by rw [List.contains_iff_mem.2 (List.mem_map.2 ⟨x,hx,rfl⟩)];simp
 have h:laidMet Tryz.prog ku _:=laidMet_layVars (w0:=Nt (World.holding Tryz.prog os ⟨#[],#[],[]⟩)) (ku.map (·.1)) [] (by rw [e1]) (by rw [e1];kernel_rfl) (by rw [e1];kernel_rfl) (by rw [e2];exact LaidIn.none);exact (show laidMet Tryz.prog ku _ from h.of_heap (by simp [World.memory,World.forCall,Input.heap]))
theorem FB (p:Option Addr) (c n:Nat) (w:World) (m0:n<=maxLen) (hl:1048576<n) :
  Calls Tryz.prog 3 #[.slice p n c] w fun e w'=>e=.returned (.bool true)/\Below w.heap.size w w':=by
 unfold maxLen at m0;have uw:(1048576:Int)<(n:Int):=by omega
 go_enter Tryz.func3,Tryz.ntmps3;go_wp2;go_ret;exact ⟨rfl,Below.refl _ _⟩
theorem lifted (Bn:∀ code:List Int,bQ code->code.length<=1048576->∃ D O,BD D/\Fo O/\WC code D O) (os:Os) (started:os.Started) (H:Type) (enc:TypeId × Value->H) :
  ReturnsInHanded {} Tryz.checked os 3 .any (fun w args=>(Rows.fnCloseSpec.pre enc Tryz.prog Tryz.f3 Rows.fnCloseRow.domain false w args/\laidMetH Tryz.prog Rows.fnCloseRow.laid w)/\sizedMet enc Tryz.prog Tryz.f3 (OpenSpec.ofChange Rows.fnCloseSpec) false w args)
   (Rows.fnCloseSpec.post enc Tryz.prog Tryz.f3 false true false false):=by
 refine yI (C:=Tryz.checked) (X:=fun w _=>laidMetH Tryz.prog Rows.fnCloseRow.laid w) (fun _ _ _ hh h=>h.of_heap hh) own started (by kernel_rfl) Tryz.func3
  (ChangeSpec.witness_shaped (enc:=enc) (C:=Tryz.checked) (os:=os) (X:=fun w _=>laidMetH Tryz.prog Rows.fnCloseRow.laid w) false ((Nt (World.holding Tryz.prog os ⟨#[],#[],[]⟩)).layVars Tryz.prog ku) #[.slice none 0 0] 8 (World.layVars_os _ _ _)
   (World.shaped_of_ZipB (by kernel_rfl) (by kernel_rfl)) (by kernel_rfl) (by kernel_rfl) (by kernel_rfl)
   (DV os _)) ?_
 intro W base args ds gs before Mz hW hL Zy;have qZ:∀ (j:Nat) t v,Tryz.f3.params[j]?=some t->args[j]?=some v->Value.okWide Tryz.prog W .any base t v:=Mz;have hW':=hW;obtain ⟨p,q,hA0,UL,rfl,Jf,aK⟩:=hW;have hA:DataW.TrodAll enc Tryz.prog W 0 (fun _=>true) true Tryz.f3.params.toList args.toList ds p:=hA0;have hV : DataW.TrodVars enc Tryz.prog W (fun _ => true) ["loop.example/s02132/impl.forms"] gs q := UL;rw [Tryz.params3] at hA qZ;obtain ⟨v0,vs0,d0,ds0,p0,q0,ay1,rfl,rfl,h0,r0⟩:=trodAll_cons hA;obtain ⟨rfl,rfl,rfl⟩:=trodAll_nil r0;obtain rfl:args=#[v0]:=by cases args;simp_all
 obtain ⟨gg,tt,cs,fuel,dg,pg,rfl,hg,ht,aU0,hd,hq⟩:=trodVars_one hV;have k0:=h0;have lt0:∀ x∈p0,x.block<W.heap.size:=by obtain ⟨m,hm⟩:=k0;exact DataW.trod_lt m _ _ _ hm
 obtain ⟨a0,ln0,c0,rfl⟩:=okWide_slice Tryz.underlying22 (qZ 0 22 v0 rfl rfl);obtain ⟨fu0,Us⟩:=h0;obtain ⟨pb0,l0,cb0,Vx,e0,m0,Xx,PX⟩:=Rd.xQ Us;simp [Value.cells] at Vx;obtain ⟨rfl,rfl,rfl⟩:=Vx;clear hA0 Mz;have walk:Calls Tryz.prog 3 #[.slice a0 l0.length c0] W fun e w'=>e=.returned (.bool true)/\Below W.heap.size W w':=by by_cases hl:l0.length<=1048576;{obtain ⟨D,O,hD,hO,hA⟩:=Bn l0 PX hl;exact GF (ae hD) (ae hA) a0 c0 W (ae e0) Xx hl (ae (xW Zy)) (ae (tab (parts hL).1)) (ae (er hL))};{exact FB a0 c0 l0.length W m0 (by omega)}
 refine walk.mono fun r W' ⟨he,X6⟩=>?_;subst he;exact ⟨_,rfl,_,_,_,[],_,_,hW',trodAll_mk1 (shut_bool Tryz.underlying4 _),(trodAll_cons_mk (Below.trod laidOut (by kernel_rfl) (of_decide_eq_true (by kernel_rfl)) k0 X6 lt0) trodAll_mk0),(Below.trodVars laidOut X6 (by kernel_rfl) hV),X6.frame _,fun h=>by cases h⟩
theorem over (Bn:∀ code:List Int,bQ code->code.length<=1048576->∃ D O,BD D/\Fo O/\WC code D O):Rows.fnCloseRow.holds Tryz.pinned (OpenSpec.ofChange Rows.fnCloseSpec):=
 OpenClaim.holds_of_wide 3 Tryz.f3 rfl rfl rfl rfl rfl rfl rfl ⟨rfl,rfl,rfl,rfl,rfl⟩ rfl rfl rfl rfl rfl (by kernel_rfl) Tryz.func3 (by kernel_rfl)
  (of_decide_eq_true (by kernel_rfl)) (by unfold Func.isWrapper;first | (rw [if_pos (by decide +kernel)];kernel_rfl) | (rw [if_neg (by decide +kernel)];exact ⟨rfl,rfl⟩))
  (fun os started H enc _=>lifted Bn os started H enc)
end clRow
theorem JM (cd:List Int) (t:Nat) (hb:bQ cd) (hl:cd.length<=500) (D:SD) (hv:VD D) (he:0<=D.e) (ib:∀ k:Nat,cd.getD t 0 % 22=k->k∈[6]/\¬ (D.ns.length=0\/D.ss.length=0)):∃ D',BD D'/\NJ cd t D D':=by
 have r0:=aV cd hb t;have r1:=aV cd hb (t+1);obtain ⟨x,ex⟩:∃ x,Hid (cd.getD t 0=x):=⟨_,ae rfl⟩;obtain ⟨v,ev⟩:∃ v,Hid (cd.getD (t+1) 0=v):=⟨_,ae rfl⟩;rw [aa ex] at r0;rw [aa ev] at r1;obtain ⟨k,ek,hk⟩:∃ k:Nat,x % 22=k/\k<22:=⟨(x % 22).toNat,by omega,by omega⟩;have cM:=ae (ib k (by rw [aa ex];exact ek));clear ib;obtain ⟨P,bP,lP,dP⟩:=dW cd (t+1+1) hb hl;obtain ⟨n,en⟩:∃ n,Hid (D.ns.length=n):=⟨_,ae rfl⟩;obtain ⟨m,em⟩:∃ m,Hid (D.ss.length=m):=⟨_,ae rfl⟩;have zR:n<=200:=by rw [<-aa en];exact hv.nl
 have Re:m<=50:=by rw [<-aa em];exact hv.sl
 obtain ⟨I,eI,Hu⟩:∃ I:Nat,Hid ((if 0<n then v % n else 0)=(I:Int))/\Hid (0<n->I<n):=by by_cases h:0<n;{have h1:=Int.emod_nonneg v (show (n:Int)≠0 by omega);have h2:=Int.emod_lt_of_pos v (show (0:Int)<n by omega);exact ⟨(v % n).toNat,by show _=_;rw [if_pos h];omega,fun _=>by omega⟩};{exact ⟨0,by show _=_;rw [if_neg h];rfl,fun h'=>absurd h' h⟩}
 obtain ⟨J,eJ,Ht⟩:∃ J:Nat,Hid ((if 0<m then v % m else 0)=(J:Int))/\Hid (0<m->J<m):=by by_cases h:0<m;{have h1:=Int.emod_nonneg v (show (m:Int)≠0 by omega);have h2:=Int.emod_lt_of_pos v (show (0:Int)<m by omega);exact ⟨(v % m).toNat,by show _=_;rw [if_pos h];omega,fun _=>by omega⟩};{exact ⟨0,by show _=_;rw [if_neg h];rfl,fun h'=>absurd h' h⟩}
 obtain ⟨D',mc⟩:∃ D',Hid (aO k v I J P D=D'):=⟨_,ae rfl⟩;refine ⟨D',by rw [<-aa mc];exact jE hv he k r1 I J bP lP,?_⟩;intro g p c w0 w ps cs qs ds Qs h iu hd hS hN;have HP:=ae (ag bP (ag lP dP));have HV:=ae (ag hv he);have Fv:=hd.2.1;obtain ⟨W0,cA,b0,z0,C0⟩:=bg w (.int .u64 D.e) (.int .u64 D.g) (.int .u64 D.x) (.int .i64 D.t) (.slice ps D.ss.length cs) (.slice qs D.ns.length ds);obtain ⟨W1,fP,b1,z1,C1⟩:=bg W0 (.int .u64 0) (.int .u64 0) (.int .u64 0) (.int .i64 0) (.slice none 0 0) (.slice none 0 0);rw [z0] at C1 z1;have bW:=ai b0 b1;have H0:Hid (RA w0 W1 w.heap.size (w.heap.size+1) g p cd c t [.int .u64 D.e,.int .u64 D.g,.int .u64 D.x,.int .i64 D.t,.slice ps m cs,.slice qs n ds]/\de w0.heap.size W1 (.slice ps m cs) D.ss Qs/\jh w0.heap.size W1 (.slice qs n ds) D.ns):=by rw [<-aa en,<-aa em];exact ⟨⟨C0.below b1,C1,h.low bW h.lt,hd.dr (Dr.below bW h.lt),by omega,⟨by omega,by omega⟩,iu⟩,hS.fr (Fr.below (T:=[]) bW) (by decide),aR.fr hN (Fr.below (T:=[]) bW) (by decide)⟩
 obtain ⟨sb,il⟩:=aN w.heap.size;obtain ⟨rb,sV⟩:=aN (w.heap.size+1);rw [sV,il] at H0;have ko:=ae (ag il sV);clear b0 b1 bW z0 z1 C0 C1 hS hN hd h bP lP dP hv he Fv il sV;go_enter func84,ntmps84;go_wp2_with fail;rw [<-cA,<-fP,ko.2,ko.1];rw [aa en,aa em];clear cA fP W0;refine (cY g p cd c t W1 H0.1.fR hb hl).mono ?_;rintro r w1 ⟨rfl,h1,d1⟩;rw [aa ex];have H1:=ae (ag (H0.1.draw h1 d1) (ag (H0.2.1.fr d1.1 (by decide)) (aR.fr H0.2.2 d1.1 (by decide))));clear h1 d1 H0 W1;go_wp2_with fail;refine (cY g p cd c (t+1) w1 H1.1.fR hb hl).mono ?_;rintro r w2 ⟨rfl,h2,d2⟩;rw [aa ev];have H2:=ae (ag (H1.1.draw h2 d2) (ag (H1.2.1.fr d2.1 (by decide)) (aR.fr H1.2.2 d2.1 (by decide))));clear h2 d2 H1 w1 ko;obtain ⟨q0,q1,q2,q3,q4,q5,qf⟩:=H2.1.box.cells
 go_upto_if 17 with fail
 go_cut [7] (fun iv wc=>iv=.int .i64 I/\wc=w2)
 case first =>(
 as_aux_lemma=>
 have e1:=aa eI;by_cases h0:0<n;{
 rw [if_pos h0] at e1;have C8:(0:Int)<(n:Int):=by omega
 have Hx:¬ (n:Int)=0:=by omega
 have E1:=ae e1;clear e1;go_wp2;go_meet
 case rel=>exact ⟨by rw [<-aa E1],rfl⟩}
 {
 rw [if_neg h0] at e1;have n0:n=0:=by omega
 subst n0;have E1:=ae e1;clear e1;go_wp2;go_meet
 case rel=>exact ⟨by rw [<-aa E1],rfl⟩})
 case rest=>
 obtain ⟨rfl,ky⟩:=hcut;rw [ky];clear ky wc
 go_upto_if 26 with fail
 go_cut [8] (fun iv wc=>iv=.int .i64 J/\wc=w2)
 case first =>(
 as_aux_lemma=>
 have e1:=aa eJ;by_cases h0:0<m;{
 rw [if_pos h0] at e1;have C8:(0:Int)<(m:Int):=by omega
 have Hx:¬ (m:Int)=0:=by omega
 have E1:=ae e1;clear e1;go_wp2;go_meet
 case rel=>exact ⟨by rw [<-aa E1],rfl⟩}
 {
 rw [if_neg h0] at e1;have n0:m=0:=by omega
 subst n0;have E1:=ae e1;clear e1;go_wp2;go_meet
 case rel=>exact ⟨by rw [<-aa E1],rfl⟩})
 case rest=>
 obtain ⟨rfl,ky⟩:=hcut;rw [ky];clear ky wc
 go_upto_if 33 with fail
 go_cut [] (fun wc=>Hid (jS w0 wc sb rb g p cd c D'))
 case rest =>(
 as_aux_lemma=>
 obtain ⟨t9,p9,c9,q9,d9,R9,S9⟩:=aa hcut;clear q0 q1 q2 q3 q4 q5 qf H2;obtain ⟨Z,hZ⟩:=ar (aP wc rb (.int .u64 D'.e) (.int .u64 D'.g) (.int .u64 D'.x) (.int .i64 D'.t) (.slice p9 D'.ss.length c9) (.slice q9 D'.ns.length d9));have HZ:=ae (R9.fin hZ);have HS:=ae S9;obtain ⟨q0,q1,q2,q3,q4,q5,qf⟩:=R9.box.cells;obtain ⟨u0,u1,u2,u3,u4,u5,uf⟩:=R9.res.cells;clear R9 S9 hcut;unfold aP at hZ;go_wp2;rw [<-hZ];clear hZ q0 q1 q2 q3 q4 q5 qf u0 u1 u2 u3 u4 u5 uf;obtain ⟨s0,s1,s2,s3,s4,s5,sf⟩:=HZ.1.cells;refine bodyPost_ret (v:=cK D'.e D'.g D'.x D'.t (.slice p9 D'.ss.length c9) (.slice q9 D'.ns.length d9)) (by simp [results,results84,go_sem,s0,s1,s2,s3,s4,s5]) rfl ?_;exact ⟨_,_,_,_,rfl,fun w3 hk=>aa HS w3 (Kx.pre HZ.2.1 hk),HZ.2.2.2⟩)
 case first =>(
 have c9:k<22:=hk;by_cases Hb:k<4;{
 have:k=0\/k=1\/k=2\/k=3:=by omega
 rcases this with rfl | rfl | rfl | rfl;{exact absurd cM.1 (by decide)};{exact absurd cM.1 (by decide)};{exact absurd cM.1 (by decide)};{exact absurd cM.1 (by decide)}};{
 by_cases bq:n=0\/m=0;{
 have dK:D.ns.length=0\/D.ss.length=0:=by rw [aa en,aa em];exact bq
 have c0:k≠0:=by omega
 have c1:k≠1:=by omega
 have c2:k≠2:=by omega
 have c3:k≠3:=by omega
 exact absurd dK cM.2};{
 have dK:¬ (D.ns.length=0\/D.ss.length=0):=by rw [aa en,aa em];exact bq
 have hI:I<n:=aa Hu (by omega);have hJ:J<m:=aa Ht (by omega);have U6:(I:Int)<(n:Int):=by omega
 have U4:(J:Int)<(m:Int):=by omega
 have Fh:((n:Int)==0)=false:=by simp;omega
 have ur:((m:Int)==0)=false:=by simp;omega
 obtain ⟨nd,aK⟩:∃ nd,D.ns[I]?=some nd:=⟨_,aE (by rw [aa en];exact hI)⟩;obtain ⟨s,hs⟩:∃ s,D.ss[J]?=some s:=⟨_,aE (by rw [aa em];exact hJ)⟩;obtain ⟨gn,P0,V0,Ww,U0,rfl,-,-,n0,n1,n2,n3,n4,n5,n6,n7,tP,tV,tH,tU,nf⟩:=aR.at H2.2.2 aK;obtain ⟨gs,Q0,rfl,-,-,hQ,s0,s1,s2,sQ,sf⟩:=de.at H2.2.1 hs;have jM:Hid (w0.heap.size<=gs):=(H2.2.1.row.lt gs rfl).1;have pM:Hid (w0.heap.size<=gn):=(H2.2.2.lt gn rfl).1;have TT:=ae (ag tP (ag tV (ag tH (ag tU (ag hQ sQ)))));have kM:=ae aK;have xv:=ae hs;clear tP tV tH tU hQ sQ;have:k=4\/k=5\/k=6\/k=7\/k=8\/k=9\/k=10\/k=11\/k=12\/k=13\/k=14\/k=15\/k=16\/k=17\/k=18\/k=19\/k=20\/k=21:=by omega
 clear bq c9 hk Hb;rcases this with rfl | rfl | rfl | rfl | rfl | rfl | rfl | rfl | rfl | rfl | rfl | rfl | rfl | rfl | rfl | rfl | rfl | rfl;{exact absurd cM.1 (by decide)};{exact absurd cM.1 (by decide)};{
 as_aux_lemma=>
  have e:=aa mc;rw [show aO 6 v I J P D=(⟨D.e,D.g,D.x,D.t,D.ss.set J (s.1,s.2.1,s.2.2++[(v % 6,[47,97])]),D.ns⟩:SD) by unfold aO;rw [if_neg (by decide),if_neg (by decide),if_neg (by decide),if_neg (by decide),if_neg dK,if_neg (by decide),if_neg (by decide),if_pos rfl];unfold xl;rw [hs]] at e;subst e;obtain ⟨pQ,cQ,rfl,-⟩:=RT.form TT.2.2.2.2.2;have zI:=ae (fun (v:World) (h:de w0.heap.size v (.slice (some ⟨gs,0,none⟩) m cs) D.ss Qs)=>show v.cell? ⟨gs,J*3+2,none⟩=some (.slice pQ s.2.2.length cQ) by obtain ⟨gs',Q',e,-,-,hq,-,-,hc,-,-⟩:=de.at h xv;simp only [Option.some.injEq,Addr.mk.injEq,and_true] at e;subst e;rw [TT.2.2.2.2.1] at hq;cases hq;exact hc)
  have zJ:=ae (fun (v:World) (h:de w0.heap.size v (.slice (some ⟨gs,0,none⟩) m cs) D.ss Qs)=>h.xm J s _ xv TT.2.2.2.2.1);have Me:Hid (s.2.2.length<=8):=(HV.1.s2 s (aF (aa xv))).q.1;go_wp2_with fail;obtain ⟨vA,bM⟩:=ar w2.drew;have bA:Below w2.heap.size w2 vA:=by rw [bM];exact ay.drew
  have HA:=ae (ag (H2.1.below bA) (ag (H2.2.1.fr (Fr.below (T:=[]) bA) (by decide)) (aR.fr H2.2.2 (Fr.below (T:=[]) bA) (by decide))));refine wp_region_noPanic ?_;refine wp_region_held_drew (S:=fun w'=>w'.cell? ⟨sb,4,none⟩=some (.slice (some ⟨gs,0,none⟩) m cs)) (by kernel_rfl) (by rw [<-bM];exact HA.1.box.cells.2.2.2.2.1) (fun hS=>?_);rw [<-bM] at hS ⊢;clear bM bA q0 q1 q2 q3 q4 q5 qf s0 s1 s2 sf n0 n1 n2 n3 n4 n5 n6 n7 nf;refine gj 0 1 2 3 4 5 6 7 hS ?_;refine dQ 9 10 hS ?_;refine ry [8,11] ?_;refine cn (fun KK hK=>?_) (cn (fun KK hK=>?_) AllReadyH.nil);{
 have s2:vA.cell? ⟨gs,J*3+2,none⟩=some (.slice pQ s.2.2.length cQ):=aa zI _ HA.2.1;go_simp;refine bm hK (by exact HA.1.box.cells.2.2.2.2.1) fun hS=>?_;clear hK KK s2;refine aH 11 fun KK hK=>?_;go_simp;obtain ⟨v1,vB,qI,hcv,b1,bB,tB⟩:=rM vA;rw [<-qI];have xw:=ae (ag (HA.1.below b1) (ag (HA.2.1.fr (Fr.below (T:=[]) b1) (by decide)) (aR.fr HA.2.2 (Fr.below (T:=[]) b1) (by decide))));have HB:=ae (ag (HA.1.below bB) (ag (HA.2.1.fr (Fr.below (T:=[]) bB) (by decide)) (aR.fr HA.2.2 (Fr.below (T:=[]) bB) (by decide))));have IQ:=ae tB;have Mg:=ae hcv;refine bm hK (by exact xw.1.box.cells.2.2.2.2.1) fun hS=>?_;clear hK KK qI b1 bB tB hcv;refine aH 12 fun KK hK=>?_;have Fl:=aa Mg;go_simp;refine bm hK (by exact HB.1.box.cells.2.2.2.2.1) fun hS=>?_;clear hK KK Fl;refine tn 13 hS ?_;refine aH 14 fun KK hK=>?_;go_simp;obtain ⟨v2,fM,b2,z2,CY,-⟩:=aj vB #[.int .i64 (v.tmod 6),.slice (some ⟨vA.heap.size,0,none⟩) 2 2] 49;rw [<-fM];have HC:=ae (ag (HB.1.below b2) (ag (HB.2.1.fr (Fr.below (T:=[]) b2) (by decide)) (aR.fr HB.2.2 (Fr.below (T:=[]) b2) (by decide))));have BU:=ae (IQ.fr (Fr.below (T:=[]) b2) (by decide));have qz:=ae CY.1;refine bm hK (by exact HC.1.box.cells.2.2.2.2.1) fun hS=>?_;clear hK KK fM CY b2 z2;obtain ⟨iE,Bf,Al,Aj,Ai⟩:=info_parts Tryz.infoEv;refine aH 15 fun KK hK=>?_;refine cO (by rfl) _ _ 33 (by rfl) w0.heap.size 49 iE _ 2 32 underlying33 Bf Al Aj Ai rfl (by decide) (.slice pQ s.2.2.length cQ) s.2.2 s.2.2.length (ae rfl) (by rfl) (aa zJ _ HC.2.1) vB.heap.size (v % 6,[47,97]) [.int .i64 (v.tmod 6),.slice (some ⟨vA.heap.size,0,none⟩) 2 2] (by rfl) ⟨_,by rw [Int.tmod_eq_emod_of_nonneg r1.1],aa BU⟩ rfl (fun j u hu=>(aa qz) j u hu) (fun u hu=>by simp at hu;rcases hu with rfl | rfl<;>rfl) (fun w' hf=>im.fr hf (by decide)) (by have:=aa Me;omega) (by omega) HC.1.dr.2.1 ?_;intro p' c' w9 qJ cT f9 iR;have iS:=(aa zJ _ HC.2.1).lt;have B9:Below w0.heap.size v2 w9:=⟨cT.os,cT.tape,cT.output,cT.size,fun b hb=>cT.block b (by have:=HC.1.dr.2.1;omega) (fun e=>by have:=(iS b e.symm).1;omega)⟩;have TN:=ae (HC.2.1.rR xv TT.2.2.2.2.1 qJ cT iR);have HD:=ae (ag (HC.1.fr f9 (by decide) B9) (aR.fr HC.2.2 f9 (by decide)));have s2:w9.cell? ⟨gs,J*3+2,none⟩=some (.slice pQ s.2.2.length cQ):=by have h1:=aa zI _ HC.2.1;obtain ⟨cur,hc⟩:=HC.2.1.row.gS gs rfl;exact (ah ((f9.2 _ _ _ _ (by decide) hc).trans hc.symm) _).trans h1
 have As:∀ o,w9.frozen? ⟨gs,o,none⟩=false:=fun o=>by obtain ⟨cur,hc⟩:=HC.2.1.row.gS gs rfl;have:=f9.2 _ _ _ _ (by decide) hc;simp [World.frozen?,this]
 refine bm hK (by exact HD.1.box.cells.2.2.2.2.1) fun hS=>?_;clear hK KK qJ cT iR iS B9;refine dQ 16 17 hS ?_;refine aH 18 fun KK hK=>?_;obtain ⟨Z,hZ⟩:=ar (w9.setCell ⟨gs,J*3+2,none⟩ (.slice p' (s.2.2.length+1) c'));rw [<-hZ] at TN;have fZ:Fr [35] w9 Z:=by obtain ⟨cur,hc⟩:=HC.2.1.row.gS gs rfl;rw [hZ];exact Fr.set (f9.2 _ _ _ _ (by decide) hc) (by simp)
 have HZ:=ae (ag (HD.1.fr fZ (by decide) (by rw [hZ];exact ay.setCell (p:=⟨gs,J*3+2,none⟩) (aa jM) _)) (ag TN.1 (aR.fr HD.2 fZ (by decide))));clear fZ f9;go_simp;rw [<-hZ];refine hK.out _ _ (by exact HZ.1.box.cells.2.2.2.2.1) (fun hS=>?_);clear hK KK s2 As hZ;refine wpAnyH_done (by kernel_rfl) ?_ _;refine aX ?_;clear hS;go_wp2;go_meet
 case rel=>exact jS.sp (D:=(⟨D.e,D.g,D.x,D.t,D.ss.set J (s.1,s.2.1,s.2.2++[(v % 6,[47,97])]),D.ns⟩:SD)) HZ.1 HZ.2.1 HZ.2.2}
  {
 go_simp;obtain ⟨v1,vB,qI,hcv,b1,bB,tB⟩:=rM vA;rw [<-qI];have xw:=ae (ag (HA.1.below b1) (ag (HA.2.1.fr (Fr.below (T:=[]) b1) (by decide)) (aR.fr HA.2.2 (Fr.below (T:=[]) b1) (by decide))));have HB:=ae (ag (HA.1.below bB) (ag (HA.2.1.fr (Fr.below (T:=[]) bB) (by decide)) (aR.fr HA.2.2 (Fr.below (T:=[]) bB) (by decide))));have IQ:=ae tB;have Mg:=ae hcv;refine bm hK (by exact xw.1.box.cells.2.2.2.2.1) fun hS=>?_;clear hK KK qI b1 bB tB hcv;refine ry [8,12] ?_;refine cn (fun KK hK=>?_) (cn (fun KK hK=>?_) AllReadyH.nil);{
 have s2:v1.cell? ⟨gs,J*3+2,none⟩=some (.slice pQ s.2.2.length cQ):=aa zI _ xw.2.1;go_simp;refine bm hK (by exact xw.1.box.cells.2.2.2.2.1) fun hS=>?_;clear hK KK s2;refine aH 12 fun KK hK=>?_;have Fl:=aa Mg;go_simp;refine bm hK (by exact HB.1.box.cells.2.2.2.2.1) fun hS=>?_;clear hK KK Fl;refine tn 13 hS ?_;refine aH 14 fun KK hK=>?_;go_simp;obtain ⟨v2,fM,b2,z2,CY,-⟩:=aj vB #[.int .i64 (v.tmod 6),.slice (some ⟨vA.heap.size,0,none⟩) 2 2] 49;rw [<-fM];have HC:=ae (ag (HB.1.below b2) (ag (HB.2.1.fr (Fr.below (T:=[]) b2) (by decide)) (aR.fr HB.2.2 (Fr.below (T:=[]) b2) (by decide))));have BU:=ae (IQ.fr (Fr.below (T:=[]) b2) (by decide));have qz:=ae CY.1;refine bm hK (by exact HC.1.box.cells.2.2.2.2.1) fun hS=>?_;clear hK KK fM CY b2 z2;obtain ⟨iE,Bf,Al,Aj,Ai⟩:=info_parts Tryz.infoEv;refine aH 15 fun KK hK=>?_;refine cO (by rfl) _ _ 33 (by rfl) w0.heap.size 49 iE _ 2 32 underlying33 Bf Al Aj Ai rfl (by decide) (.slice pQ s.2.2.length cQ) s.2.2 s.2.2.length (ae rfl) (by rfl) (aa zJ _ HC.2.1) vB.heap.size (v % 6,[47,97]) [.int .i64 (v.tmod 6),.slice (some ⟨vA.heap.size,0,none⟩) 2 2] (by rfl) ⟨_,by rw [Int.tmod_eq_emod_of_nonneg r1.1],aa BU⟩ rfl (fun j u hu=>(aa qz) j u hu) (fun u hu=>by simp at hu;rcases hu with rfl | rfl<;>rfl) (fun w' hf=>im.fr hf (by decide)) (by have:=aa Me;omega) (by omega) HC.1.dr.2.1 ?_;intro p' c' w9 qJ cT f9 iR;have iS:=(aa zJ _ HC.2.1).lt;have B9:Below w0.heap.size v2 w9:=⟨cT.os,cT.tape,cT.output,cT.size,fun b hb=>cT.block b (by have:=HC.1.dr.2.1;omega) (fun e=>by have:=(iS b e.symm).1;omega)⟩;have TN:=ae (HC.2.1.rR xv TT.2.2.2.2.1 qJ cT iR);have HD:=ae (ag (HC.1.fr f9 (by decide) B9) (aR.fr HC.2.2 f9 (by decide)));have s2:w9.cell? ⟨gs,J*3+2,none⟩=some (.slice pQ s.2.2.length cQ):=by have h1:=aa zI _ HC.2.1;obtain ⟨cur,hc⟩:=HC.2.1.row.gS gs rfl;exact (ah ((f9.2 _ _ _ _ (by decide) hc).trans hc.symm) _).trans h1
 have As:∀ o,w9.frozen? ⟨gs,o,none⟩=false:=fun o=>by obtain ⟨cur,hc⟩:=HC.2.1.row.gS gs rfl;have:=f9.2 _ _ _ _ (by decide) hc;simp [World.frozen?,this]
 refine bm hK (by exact HD.1.box.cells.2.2.2.2.1) fun hS=>?_;clear hK KK qJ cT iR iS B9;refine dQ 16 17 hS ?_;refine aH 18 fun KK hK=>?_;obtain ⟨Z,hZ⟩:=ar (w9.setCell ⟨gs,J*3+2,none⟩ (.slice p' (s.2.2.length+1) c'));rw [<-hZ] at TN;have fZ:Fr [35] w9 Z:=by obtain ⟨cur,hc⟩:=HC.2.1.row.gS gs rfl;rw [hZ];exact Fr.set (f9.2 _ _ _ _ (by decide) hc) (by simp)
 have HZ:=ae (ag (HD.1.fr fZ (by decide) (by rw [hZ];exact ay.setCell (p:=⟨gs,J*3+2,none⟩) (aa jM) _)) (ag TN.1 (aR.fr HD.2 fZ (by decide))));clear fZ f9;go_simp;rw [<-hZ];refine hK.out _ _ (by exact HZ.1.box.cells.2.2.2.2.1) (fun hS=>?_);clear hK KK s2 As hZ;refine wpAnyH_done (by kernel_rfl) ?_ _;refine aX ?_;clear hS;go_wp2;go_meet
 case rel=>exact jS.sp (D:=(⟨D.e,D.g,D.x,D.t,D.ss.set J (s.1,s.2.1,s.2.2++[(v % 6,[47,97])]),D.ns⟩:SD)) HZ.1 HZ.2.1 HZ.2.2}
 {
 have Fl:=aa Mg;go_simp;refine bm hK (by exact HB.1.box.cells.2.2.2.2.1) fun hS=>?_;clear hK KK Fl;refine tn 13 hS ?_;refine ry [8,14] ?_;refine cn (fun KK hK=>?_) (cn (fun KK hK=>?_) AllReadyH.nil);{
 have s2:vB.cell? ⟨gs,J*3+2,none⟩=some (.slice pQ s.2.2.length cQ):=aa zI _ HB.2.1;go_simp;refine bm hK (by exact HB.1.box.cells.2.2.2.2.1) fun hS=>?_;clear hK KK s2;refine aH 14 fun KK hK=>?_;go_simp;obtain ⟨v2,fM,b2,z2,CY,-⟩:=aj vB #[.int .i64 (v.tmod 6),.slice (some ⟨vA.heap.size,0,none⟩) 2 2] 49;rw [<-fM];have HC:=ae (ag (HB.1.below b2) (ag (HB.2.1.fr (Fr.below (T:=[]) b2) (by decide)) (aR.fr HB.2.2 (Fr.below (T:=[]) b2) (by decide))));have BU:=ae (IQ.fr (Fr.below (T:=[]) b2) (by decide));have qz:=ae CY.1;refine bm hK (by exact HC.1.box.cells.2.2.2.2.1) fun hS=>?_;clear hK KK fM CY b2 z2;obtain ⟨iE,Bf,Al,Aj,Ai⟩:=info_parts Tryz.infoEv;refine aH 15 fun KK hK=>?_;refine cO (by rfl) _ _ 33 (by rfl) w0.heap.size 49 iE _ 2 32 underlying33 Bf Al Aj Ai rfl (by decide) (.slice pQ s.2.2.length cQ) s.2.2 s.2.2.length (ae rfl) (by rfl) (aa zJ _ HC.2.1) vB.heap.size (v % 6,[47,97]) [.int .i64 (v.tmod 6),.slice (some ⟨vA.heap.size,0,none⟩) 2 2] (by rfl) ⟨_,by rw [Int.tmod_eq_emod_of_nonneg r1.1],aa BU⟩ rfl (fun j u hu=>(aa qz) j u hu) (fun u hu=>by simp at hu;rcases hu with rfl | rfl<;>rfl) (fun w' hf=>im.fr hf (by decide)) (by have:=aa Me;omega) (by omega) HC.1.dr.2.1 ?_;intro p' c' w9 qJ cT f9 iR;have iS:=(aa zJ _ HC.2.1).lt;have B9:Below w0.heap.size v2 w9:=⟨cT.os,cT.tape,cT.output,cT.size,fun b hb=>cT.block b (by have:=HC.1.dr.2.1;omega) (fun e=>by have:=(iS b e.symm).1;omega)⟩;have TN:=ae (HC.2.1.rR xv TT.2.2.2.2.1 qJ cT iR);have HD:=ae (ag (HC.1.fr f9 (by decide) B9) (aR.fr HC.2.2 f9 (by decide)));have s2:w9.cell? ⟨gs,J*3+2,none⟩=some (.slice pQ s.2.2.length cQ):=by have h1:=aa zI _ HC.2.1;obtain ⟨cur,hc⟩:=HC.2.1.row.gS gs rfl;exact (ah ((f9.2 _ _ _ _ (by decide) hc).trans hc.symm) _).trans h1
 have As:∀ o,w9.frozen? ⟨gs,o,none⟩=false:=fun o=>by obtain ⟨cur,hc⟩:=HC.2.1.row.gS gs rfl;have:=f9.2 _ _ _ _ (by decide) hc;simp [World.frozen?,this]
 refine bm hK (by exact HD.1.box.cells.2.2.2.2.1) fun hS=>?_;clear hK KK qJ cT iR iS B9;refine dQ 16 17 hS ?_;refine aH 18 fun KK hK=>?_;obtain ⟨Z,hZ⟩:=ar (w9.setCell ⟨gs,J*3+2,none⟩ (.slice p' (s.2.2.length+1) c'));rw [<-hZ] at TN;have fZ:Fr [35] w9 Z:=by obtain ⟨cur,hc⟩:=HC.2.1.row.gS gs rfl;rw [hZ];exact Fr.set (f9.2 _ _ _ _ (by decide) hc) (by simp)
 have HZ:=ae (ag (HD.1.fr fZ (by decide) (by rw [hZ];exact ay.setCell (p:=⟨gs,J*3+2,none⟩) (aa jM) _)) (ag TN.1 (aR.fr HD.2 fZ (by decide))));clear fZ f9;go_simp;rw [<-hZ];refine hK.out _ _ (by exact HZ.1.box.cells.2.2.2.2.1) (fun hS=>?_);clear hK KK s2 As hZ;refine wpAnyH_done (by kernel_rfl) ?_ _;refine aX ?_;clear hS;go_wp2;go_meet
 case rel=>exact jS.sp (D:=(⟨D.e,D.g,D.x,D.t,D.ss.set J (s.1,s.2.1,s.2.2++[(v % 6,[47,97])]),D.ns⟩:SD)) HZ.1 HZ.2.1 HZ.2.2}
 {
 go_simp;obtain ⟨v2,fM,b2,z2,CY,-⟩:=aj vB #[.int .i64 (v.tmod 6),.slice (some ⟨vA.heap.size,0,none⟩) 2 2] 49;rw [<-fM];have HC:=ae (ag (HB.1.below b2) (ag (HB.2.1.fr (Fr.below (T:=[]) b2) (by decide)) (aR.fr HB.2.2 (Fr.below (T:=[]) b2) (by decide))));have BU:=ae (IQ.fr (Fr.below (T:=[]) b2) (by decide));have qz:=ae CY.1;refine bm hK (by exact HC.1.box.cells.2.2.2.2.1) fun hS=>?_;clear hK KK fM CY b2 z2;refine aH 8 fun KK hK=>?_;have s2:v2.cell? ⟨gs,J*3+2,none⟩=some (.slice pQ s.2.2.length cQ):=aa zI _ HC.2.1;go_simp;refine bm hK (by exact HC.1.box.cells.2.2.2.2.1) fun hS=>?_;clear hK KK s2;obtain ⟨iE,Bf,Al,Aj,Ai⟩:=info_parts Tryz.infoEv;refine aH 15 fun KK hK=>?_;refine cO (by rfl) _ _ 33 (by rfl) w0.heap.size 49 iE _ 2 32 underlying33 Bf Al Aj Ai rfl (by decide) (.slice pQ s.2.2.length cQ) s.2.2 s.2.2.length (ae rfl) (by rfl) (aa zJ _ HC.2.1) vB.heap.size (v % 6,[47,97]) [.int .i64 (v.tmod 6),.slice (some ⟨vA.heap.size,0,none⟩) 2 2] (by rfl) ⟨_,by rw [Int.tmod_eq_emod_of_nonneg r1.1],aa BU⟩ rfl (fun j u hu=>(aa qz) j u hu) (fun u hu=>by simp at hu;rcases hu with rfl | rfl<;>rfl) (fun w' hf=>im.fr hf (by decide)) (by have:=aa Me;omega) (by omega) HC.1.dr.2.1 ?_;intro p' c' w9 qJ cT f9 iR;have iS:=(aa zJ _ HC.2.1).lt;have B9:Below w0.heap.size v2 w9:=⟨cT.os,cT.tape,cT.output,cT.size,fun b hb=>cT.block b (by have:=HC.1.dr.2.1;omega) (fun e=>by have:=(iS b e.symm).1;omega)⟩;have TN:=ae (HC.2.1.rR xv TT.2.2.2.2.1 qJ cT iR);have HD:=ae (ag (HC.1.fr f9 (by decide) B9) (aR.fr HC.2.2 f9 (by decide)));have s2:w9.cell? ⟨gs,J*3+2,none⟩=some (.slice pQ s.2.2.length cQ):=by have h1:=aa zI _ HC.2.1;obtain ⟨cur,hc⟩:=HC.2.1.row.gS gs rfl;exact (ah ((f9.2 _ _ _ _ (by decide) hc).trans hc.symm) _).trans h1
 have As:∀ o,w9.frozen? ⟨gs,o,none⟩=false:=fun o=>by obtain ⟨cur,hc⟩:=HC.2.1.row.gS gs rfl;have:=f9.2 _ _ _ _ (by decide) hc;simp [World.frozen?,this]
 refine bm hK (by exact HD.1.box.cells.2.2.2.2.1) fun hS=>?_;clear hK KK qJ cT iR iS B9;refine dQ 16 17 hS ?_;refine aH 18 fun KK hK=>?_;obtain ⟨Z,hZ⟩:=ar (w9.setCell ⟨gs,J*3+2,none⟩ (.slice p' (s.2.2.length+1) c'));rw [<-hZ] at TN;have fZ:Fr [35] w9 Z:=by obtain ⟨cur,hc⟩:=HC.2.1.row.gS gs rfl;rw [hZ];exact Fr.set (f9.2 _ _ _ _ (by decide) hc) (by simp)
 have HZ:=ae (ag (HD.1.fr fZ (by decide) (by rw [hZ];exact ay.setCell (p:=⟨gs,J*3+2,none⟩) (aa jM) _)) (ag TN.1 (aR.fr HD.2 fZ (by decide))));clear fZ f9;go_simp;rw [<-hZ];refine hK.out _ _ (by exact HZ.1.box.cells.2.2.2.2.1) (fun hS=>?_);clear hK KK s2 As hZ;refine wpAnyH_done (by kernel_rfl) ?_ _;refine aX ?_;clear hS;go_wp2;go_meet
 case rel=>exact jS.sp (D:=(⟨D.e,D.g,D.x,D.t,D.ss.set J (s.1,s.2.1,s.2.2++[(v % 6,[47,97])]),D.ns⟩:SD)) HZ.1 HZ.2.1 HZ.2.2}}}}
 {exact absurd cM.1 (by decide)};{exact absurd cM.1 (by decide)};{exact absurd cM.1 (by decide)};{exact absurd cM.1 (by decide)};{exact absurd cM.1 (by decide)};{exact absurd cM.1 (by decide)};{exact absurd cM.1 (by decide)};{exact absurd cM.1 (by decide)};{exact absurd cM.1 (by decide)};{exact absurd cM.1 (by decide)};{exact absurd cM.1 (by decide)};{exact absurd cM.1 (by decide)};{exact absurd cM.1 (by decide)};{exact absurd cM.1 (by decide)};{exact absurd cM.1 (by decide)}}})
theorem ji.new {c:Nat} {l:List Int} (h:Rd w (.slice p l.length c) l):ji (w.alloc (.cells #[.slice p (l.take 500).length c,.int .i64 0] 117)) w.heap.size p (l.take 500) c 0:=by
 obtain ⟨W,hW,b,z,C,T⟩:=aj w #[.slice p (l.take 500).length c,.int .i64 0] 117;rw [<-hW];have h5:=h.Ch;refine ⟨C.1 0 _ rfl,by rw [Nat.zero_min];exact C.1 1 _ rfl,⟨_,T⟩,h5.below b,fun hl=>h5.Ra hl⟩
theorem Gl {b':Nat} (bq:b'≠b) {v0 v1 v2 v3 v4 v5 v6:Value}:(vQ w b v0 v1 v2 v3 v4 v5 v6).heap[b']?=w.heap[b']?:=by
 unfold vQ;have h:∀ (w:World) (j:Nat) (u:Value),(w.setCell ⟨b,j,none⟩ u).heap[b']?=w.heap[b']?:=fun w j u=>dt _ _ _ _ bq;rw [h,h,h,h,h,h,h]
theorem mr.fr {g:Nat} (h:mr g w w') (hg:∃ cur,w.heap[g]?=some (.cells cur 117)):Fr [117] w w':=⟨h.2.1,fun b cur ty m ht hb=>by
 by_cases e:b=g;{subst e;obtain ⟨c2,hc⟩:=hg;rw [hb] at hc;simp only [Option.some.injEq,Obj.cells.injEq] at hc;exact absurd (by simp [hc.2.1]) ht};{exact (h.2.2 b e (cD hb)).trans hb}⟩
theorem uF (pj:∀ (cd:List Int) (t:Nat),bQ cd->cd.length<=500->∃ D,BD D/\DSf 32 cd t D) (code:List Int) (hb:bQ code) (hl:code.length<=1048576):∃ D O,BD D/\Fo O/\WC code D O:=by
 have j7:bQ (code.take 500):=fun z hz=>hb z (List.mem_of_mem_take hz);have Xm:(code.take 500).length<=500:=by simp;omega
 obtain ⟨O,hO,dO⟩:=ti (code.take 500) 0 j7 Xm;obtain ⟨D,hD,dD⟩:=pj (code.take 500) O.t j7 Xm;refine ⟨D,O,hD,hO,?_⟩;intro p c w h hc;obtain ⟨W0,cA,b0,z0,C0⟩:=bg w (.int .u64 0) (.int .u64 0) (.int .u64 0) (.int .i64 0) (.slice none 0 0) (.slice none 0 0);obtain ⟨W1,fP,b1,z1,C1,T1⟩:=aj W0 #[.int .i64 0,.int .u64 0,.slice none 0 0,.int .i64 0,.slice none 0 0,.int .u64 0,.int .u64 0] 29;rw [z0] at C1 T1 z1;have bW:=ai b0 b1;have r1:=ji.new (h.below bW);obtain ⟨g,eg⟩:=aN W1.heap.size;obtain ⟨W2,iY,b2,z2,-,-⟩:=aj W1 #[.slice p (code.take 500).length c,.int .i64 0] 117;rw [<-iY] at r1;have H2:=ae (ag ((C0.below b1).below b2) (ag (C1.below (by omega) b2) (ag ((b2.block _ (by omega)).trans T1) (ag r1 (ai bW b2)))));have hg:g=w.heap.size+1+1:=by omega
 have HG:=ae (ag eg (ag hg iY));clear b0 b1 b2 z0 z1 z2 C0 C1 T1 bW r1 h eg hg iY;go_enter func8,ntmps8;go_wp2_with fail;rw [<-cA,<-fP];clear cA fP;refine (AM p c code W1 hl hc).mono ?_;rintro r w2 ⟨rfl,Zs⟩;rw [<-HG.2.2] at Zs;rw [Zs,HG.1];rw [HG.1] at H2;clear Zs w2;go_wp2_with fail;refine (dO g p c W2 H2.2.2.2.1).mono ?_;rintro r w3 ⟨pp,cp,pq,cv,rfl,tP,tV,h3,d3⟩;obtain ⟨W4,MX,b4,z4,C4,T4⟩:=aj w3 #[.int .i64 O.K,.int .u64 O.S,.slice pp O.P.length cp,.int .i64 O.F,.slice pq O.V.length cv,.int .u64 O.E,.int .u64 O.G] 29;have z3:=d3.2.1.size;have zg:=h3.lt;have zw:w.heap.size+1+1<W2.heap.size:=by have:=H2.2.2.2.1.lt;have:=HG.2.1;omega
 have Rj:=HG.2.1;subst Rj;have H4:=ae (ag ((H2.1.fr d3.1 (by decide)).below b4) (ag ((H2.2.1.bc ((d3.2.2 _ (by omega) (by omega)))).below (by omega) b4) (ag C4 (ag (h3.low b4 h3.lt) (ag (tP.fr (Fr.below (T:=[]) b4) (by decide)) (ag (tV.fr (Fr.below (T:=[]) b4) (by decide)) ((b4.block _ (by omega)).trans ((d3.2.2 _ (by omega) (by omega)).trans H2.2.2.1))))))));have DZ:=ae (ag d3 b4);have km:=ae H2.2.2.2.2;clear tP tV h3 d3 b4 C4 T4 H2 dO;go_wp2_with fail;rw [<-MX];clear MX;obtain ⟨vA,bM⟩:=ar W4.drew;have bA:Below W4.heap.size W4 vA:=by rw [bM];exact ay.drew
 have SA:=ae (fun (v:World) (C:al v w3.heap.size [.int .i64 O.K,.int .u64 O.S,.slice pp O.P.length cp,.int .i64 O.F,.slice pq O.V.length cv,.int .u64 O.E,.int .u64 O.G])=>(ag (C.1 0 _ rfl) (ag (C.1 1 _ rfl) (ag (C.1 2 _ rfl) (ag (C.1 3 _ rfl) (ag (C.1 4 _ rfl) (ag (C.1 5 _ rfl) (C.1 6 _ rfl)))))):v.cell? ⟨w3.heap.size,0,none⟩=some (.int .i64 O.K)/\v.cell? ⟨w3.heap.size,1,none⟩=some (.int .u64 O.S)/\v.cell? ⟨w3.heap.size,2,none⟩=some (.slice pp O.P.length cp)/\v.cell? ⟨w3.heap.size,3,none⟩=some (.int .i64 O.F)/\v.cell? ⟨w3.heap.size,4,none⟩=some (.slice pq O.V.length cv)/\v.cell? ⟨w3.heap.size,5,none⟩=some (.int .u64 O.E)/\v.cell? ⟨w3.heap.size,6,none⟩=some (.int .u64 O.G)));have zA:=bA.size;have HA:=ae (ag (H4.1.below bA) (ag (H4.2.1.below (by omega) bA) (ag (H4.2.2.1.below (by omega) bA) (ag (H4.2.2.2.1.low bA (by omega)) (ag (H4.2.2.2.2.1.fr (Fr.below (T:=[]) bA) (by decide)) (ag (H4.2.2.2.2.2.1.fr (Fr.below (T:=[]) bA) (by decide)) ((bA.block _ (by omega)).trans H4.2.2.2.2.2.2)))))));have Fq:Hid (Below w.heap.size w vA):=km.trans ((DZ.1.2.1.mono (by omega)).trans ((DZ.2.mono (by omega)).trans (bA.mono (by omega))));refine wp_region_noPanic ?_;refine wp_region_held_drew (S:=fun v=>v.cell? ⟨w3.heap.size,0,none⟩=some (.int .i64 O.K)/\v.cell? ⟨w3.heap.size,1,none⟩=some (.int .u64 O.S)/\v.cell? ⟨w3.heap.size,2,none⟩=some (.slice pp O.P.length cp)/\v.cell? ⟨w3.heap.size,3,none⟩=some (.int .i64 O.F)/\v.cell? ⟨w3.heap.size,4,none⟩=some (.slice pq O.V.length cv)/\v.cell? ⟨w3.heap.size,5,none⟩=some (.int .u64 O.E)/\v.cell? ⟨w3.heap.size,6,none⟩=some (.int .u64 O.G)) (by kernel_rfl) (by rw [<-bM];exact aa SA vA HA.2.2.1) (fun hS=>?_);rw [<-bM] at hS ⊢;clear bM bA H4 DZ km;refine dQ 0 2 hS ?_;refine aH 1 fun KK hK=>?_;refine fw (dD (w.heap.size+1+1) p c vA HA.2.2.2.1) ?_;rintro r v1 ⟨ps,cs,qs,ds,rfl,Sx,d5⟩;refine ⟨_,rfl,?_⟩;have z5:=d5.2.1;have f5:=d5.fr HA.2.2.2.1.ty;have H5:=ae (ag (HA.1.bc (d5.2.2 _ (by omega) (by omega))) (ag (HA.2.1.bc (d5.2.2 _ (by omega) (by omega))) (ag (HA.2.2.1.bc (d5.2.2 _ (by omega) (by omega))) (ag (HA.2.2.2.2.1.fr f5 (by decide)) (ag (HA.2.2.2.2.2.1.fr f5 (by decide)) ((d5.2.2 _ (by omega) (by omega)).trans HA.2.2.2.2.2.2))))));have Mj:Hid (Below w.heap.size w v1):=Fq.trans ⟨d5.1.1,d5.1.2.1,d5.1.2.2,d5.2.1,fun b hb=>d5.2.2 b (by omega) (by omega)⟩;have HSX:=ae Sx;refine bm hK (by exact SA v1 H5.2.2.1) fun hS=>?_;clear hK KK Sx d5 f5 HA Fq dD;refine aH 3 fun KK hK=>?_;obtain ⟨Z1,Xy⟩:=ar (aP v1 w.heap.size (.int .u64 D.e) (.int .u64 D.g) (.int .u64 D.x) (.int .i64 D.t) (.slice ps D.ss.length cs) (.slice qs D.ns.length ds));obtain ⟨bg7,mG⟩:=H5.1.2;have b1:=bH v1 w.heap.size (.int .u64 D.e) (.int .u64 D.g) (.int .u64 D.x) (.int .i64 D.t) (.slice ps D.ss.length cs) (.slice qs D.ns.length ds);have f1:=dJ (v0:=.int .u64 D.e) (v1:=.int .u64 D.g) (v2:=.int .u64 D.x) (v3:=.int .i64 D.t) (v4:=.slice ps D.ss.length cs) (v5:=.slice qs D.ns.length ds) mG;have x1:=H5.1.put (.int .u64 D.e) (.int .u64 D.g) (.int .u64 D.x) (.int .i64 D.t) (.slice ps D.ss.length cs) (.slice qs D.ns.length ds);have h1:∀ b,b≠w.heap.size->(aP v1 w.heap.size (.int .u64 D.e) (.int .u64 D.g) (.int .u64 D.x) (.int .i64 D.t) (.slice ps D.ss.length cs) (.slice qs D.ns.length ds)).heap[b]?=v1.heap[b]?:=fun b hb=>gK hb;rw [<-Xy] at b1 f1 x1 h1;have H6:=ae (ag x1 (ag (H5.2.1.bc (h1 _ (by omega))) (ag (H5.2.2.1.bc (h1 _ (by omega))) (ag (H5.2.2.2.1.fr f1 (by decide)) (ag (H5.2.2.2.2.1.fr f1 (by decide)) ((h1 _ (by omega)).trans H5.2.2.2.2.2))))));have HB6:=ae (ag (Mj.trans b1) f1);obtain ⟨u0,u1,u2,u3,u4,u5,uf⟩:=H5.1.cells;unfold aP at Xy;clear b1 f1 x1 h1 mG;go_simp;rw [<-Xy];refine bm hK (by exact SA Z1 H6.2.2.1) fun hS=>?_;clear hK KK u0 u1 u2 u3 u4 u5 uf Xy H5 Mj;refine aH 4 fun KK hK=>?_;obtain ⟨Z2,UI⟩:=ar (vQ Z1 (w.heap.size+1) (.int .i64 O.K) (.int .u64 O.S) (.slice pp O.P.length cp) (.int .i64 O.F) (.slice pq O.V.length cv) (.int .u64 O.E) (.int .u64 O.G));obtain ⟨f2,b2,x2⟩:=xL ⟨_,H6.2.2.2.2.2⟩ H6.2.1 (.int .i64 O.K) (.int .u64 O.S) (.slice pp O.P.length cp) (.int .i64 O.F) (.slice pq O.V.length cv) (.int .u64 O.E) (.int .u64 O.G);rw [<-UI] at f2 b2 x2;have YM:=H6.1.lt;have H7:=ae (ag (H6.1.bc (b2.block _ (by omega))) (ag x2 (ag (H6.2.2.2.1.fr f2 (by decide)) (H6.2.2.2.2.1.fr f2 (by decide)))));have HB7:=ae (ag (HB6.1.trans (b2.mono (by omega))) (show Kx v1 Z2 from (HB6.2.sub (by decide)).trans (f2.sub (by decide))));have HS7:=ae (aa SA Z2 (H6.2.2.1.bc (by rw [UI];exact Gl (by omega))));obtain ⟨u0,u1,u2,u3,u4,u5,u6⟩:=ag (H6.2.1.1 0 _ rfl) (ag (H6.2.1.1 1 _ rfl) (ag (H6.2.1.1 2 _ rfl) (ag (H6.2.1.1 3 _ rfl) (ag (H6.2.1.1 4 _ rfl) (ag (H6.2.1.1 5 _ rfl) (H6.2.1.1 6 _ rfl))))));have uf:=H6.2.1.2;unfold vQ at UI;clear f2 b2 x2;go_simp;rw [<-UI];refine hK.out _ _ (by exact HS7) (fun hS=>?_);clear hK KK u0 u1 u2 u3 u4 u5 u6 uf UI;refine wpAnyH_done (by kernel_rfl) ?_ _;refine aX ?_;clear hS;obtain ⟨q0,q1,q2,q3,q4,q5,qf⟩:=H7.1.cells;have k0:=H7.2.1.1 0 _ rfl;have k1:=H7.2.1.1 1 _ rfl;have k2:=H7.2.1.1 2 _ rfl;have k3:=H7.2.1.1 3 _ rfl;have k4:=H7.2.1.1 4 _ rfl;have k5:=H7.2.1.1 5 _ rfl;have k6:=H7.2.1.1 6 _ rfl;go_wp2;refine bodyPost_ret (v:=.tuple #[cK D.e D.g D.x D.t (.slice ps D.ss.length cs) (.slice qs D.ns.length ds),tJ O.K O.S (.slice pp O.P.length cp) O.F (.slice pq O.V.length cv) O.E O.G]) (by simp [results,results8,go_sem,q0,q1,q2,q3,q4,q5,k0,k1,k2,k3,k4,k5,k6]) rfl ?_;exact ⟨ps,cs,qs,ds,pp,cp,pq,cv,rfl,(aa HSX Z2 HB7.2).1,(aa HSX Z2 HB7.2).2,H7.2.2.1,H7.2.2.2,HB7.1⟩
end Go.Proofs.YtcfcafeciggjeaaGreatDoor
