import Derived.Test.YtmfjiolopcbcmaaGreatDoorProg
import Derived.WalkKit
import Derived.Below
import Derived.Deep.RegionHeld3
import Derived.WalkSpells
import Derived.WalkLawsBesides
import Derived.BigQuiet
import Derived.KernelRfl
import Derived.Test.YtmfjiolopcbcmaaGreatDoorRows
import Derived.ProofKit
import Derived.OpenShut
import Derived.Deep.QuietTactic
import Derived.Deep.Fields23
import Derived.Deep.Strs
namespace Go.Proofs.YtmfjiolopcbcmaaGreatDoor
set_option maxHeartbeats 400000
set_option linter.unusedVariables false
set_option linter.unusedSimpArgs false
open Go.RowKit
theorem ag {a b:Prop} (x:a) (y:b):a/\b:=⟨x,y⟩
theorem ar {B:Nat} {w:World}:Below B w w:=Below.refl B w
theorem ai {W w1 w2:World} (h:Below W.heap.size W w1) (k:Below w1.heap.size w1 w2):Below W.heap.size W w2:=h.trans (k.mono h.size)
theorem ay {n:Nat}:n<=n:=Nat.le_refl n
theorem aH {α:Type} {l:List α} {i:Nat} (h:i<l.length):l[i]?=some l[i]:=List.getElem?_eq_getElem h
theorem aM {α:Type} {i:Nat} {a:α} {l:List α}:l[i]?=some a↔∃ h:i<l.length,l[i]=a:=List.getElem?_eq_some_iff
theorem aL {α:Type} {l:List α} {i:Nat} {a:α} (h:l[i]?=some a):a∈l:=List.mem_of_getElem? h
theorem aX {α:Type} {l:List α} {i j:Nat} (h:i≠j) {a:α}:(l.set i a)[j]?=l[j]?:=List.getElem?_set_ne h
theorem dr (w:World) (a:Addr) (u:Value) (k:Nat) (h:k≠a.block):(w.setCell a u).heap[k]?=w.heap[k]?:=RowKit.Below.heap_setCell w a u k h
theorem bc {Q:Exit->Act->World->Prop} {a:Act} {w:World} (h:Q Exit.normal a w):NoPanic Q Exit.normal a w:=NoPanic.normal h
theorem ax {α:Sort _} (x:α):∃ y,y=x:=⟨x,rfl⟩
theorem aZ {α:Sort _} (x:α):∃ y,x=y:=⟨x,rfl⟩
theorem xa {α:Type} {l:List α} {i:Nat} {a:α}:l.toArray.setIfInBounds i a=(l.set i a).toArray:=List.setIfInBounds_toArray _ _ _
theorem xb {α:Type} {x:α} {xs:List α} {a:α}:(x::xs).set 0 a=a::xs:=List.set_cons_zero
theorem xc {α:Type} {x:α} {xs:List α} {i:Nat} {a:α}:(x::xs).set (i+1) a=x::xs.set i a:=List.set_cons_succ
def Tk (P:Program) (md:Region.Mode) (ops:Array Oper) (Q:Exit->Act->World->Prop) (S:World->Prop) (listed:Array Bool) (i:Nat) (a a':Act):Prop:=∀ fuel w,S w->wpAnyH P md ops Q S fuel (listed.setIfInBounds i true) a' w->wpAnyH P md ops Q S (fuel+1) listed a w
theorem Ec {P:Program} {md:Region.Mode} {ops:Array Oper} {Q:Exit->Act->World->Prop} {S:World->Prop} {i:Nat} {oi:Oper} {v:Value} {listed:Array Bool} {a a':Act} (hi:ops[i]?=some oi:=by (simp only [List.getElem?_toArray,List.getElem?_cons_succ,List.getElem?_cons_zero];rfl))
  (hs:Region.noSelect ops=true:=by kernel_rfl) (hf:Region.free md ops listed i=true:=by kernel_rfl) (hr:(Region.ready md ops listed).contains i=true:=by kernel_rfl)
  (hQ:∀ c a w,Q (.panic c) (a.put oi.dst v) w->Q (.panic c) a w:=by exact fun _ _ _ h=>h) (hg:Region.wanted oi (yielded ops a.tmps)=true:=by rfl)
  (hy:∀ w,S w->(execOp a.eval oi).run P w=.ok (.value v) w:=by (intro w' sS;(try dsimp only at sS);go_simp;try with_reducible rfl)) (ha:a.put oi.dst v=a':=by (simp only [Act.put,xa,xb,xc];rfl)):Tk P md ops Q S listed i a a':=
 fun _ _ hS h=>wpAnyH_take hi hs hf hr hQ (Or.inl ⟨hg,hy⟩) hS (ha▸h)
theorem tkZ {P:Program} {md:Region.Mode} {ops:Array Oper} {Q:Exit->Act->World->Prop} {S:World->Prop} {i:Nat} {oi:Oper} {listed:Array Bool} {a a':Act} (hi:ops[i]?=some oi:=by (simp only [List.getElem?_toArray,List.getElem?_cons_succ,List.getElem?_cons_zero];rfl))
  (hs:Region.noSelect ops=true:=by kernel_rfl) (hf:Region.free md ops listed i=true:=by kernel_rfl) (hr:(Region.ready md ops listed).contains i=true:=by kernel_rfl)
  (hQ:∀ c a w,Q (.panic c) (a.put oi.dst undef) w->Q (.panic c) a w:=by exact fun _ _ _ h=>h) (hg:Region.wanted oi (yielded ops a.tmps)=false:=by rfl) (ha:a.put oi.dst undef=a':=by (simp only [Act.put,xa,xb,xc];rfl)):Tk P md ops Q S listed i a a':=
 fun _ _ hS h=>wpAnyH_take hi hs hf hr hQ (Or.inr ⟨hg,rfl⟩) hS (ha▸h)
theorem tn {P:Program} {md:Region.Mode} {ops:Array Oper} {Q:Exit->Act->World->Prop} {S:World->Prop} (i:Nat) {fuel:Nat} {listed:Array Bool} {a a':Act} {w:World} (hS:S w) (h:wpAnyH P md ops Q S fuel (listed.setIfInBounds i true) a' w) (t:Tk P md ops Q S listed i a a':=by exact Ec):wpAnyH P md ops Q S (fuel+1) listed a w:=t _ _ hS h
theorem sn {P:Program} {md:Region.Mode} {ops:Array Oper} {Q:Exit->Act->World->Prop} {S:World->Prop} (i:Nat) {fuel:Nat} {listed:Array Bool} {a a':Act} {w:World} (hS:S w) (h:wpAnyH P md ops Q S fuel (listed.setIfInBounds i true) a' w) (t:Tk P md ops Q S listed i a a':=by exact tkZ):wpAnyH P md ops Q S (fuel+1) listed a w:=t _ _ hS h
theorem fq {P:Program} {md:Region.Mode} {ops:Array Oper} {Q:Exit->Act->World->Prop} {S:World->Prop} (i0 i1:Nat) {fuel:Nat} {listed:Array Bool} {a0 a1 a2:Act} {w:World} (hS:S w) (h:wpAnyH P md ops Q S fuel ((listed.setIfInBounds i0 true).setIfInBounds i1 true) a2 w) (x0:Tk P md ops Q S listed i0 a0 a1:=by exact Ec) (x1:Tk P md ops Q S (listed.setIfInBounds i0 true) i1 a1 a2:=by exact Ec):wpAnyH P md ops Q S (fuel+2) listed a0 w:=x0 _ _ hS (x1 _ _ hS h)
theorem gD {P:Program} {md:Region.Mode} {ops:Array Oper} {Q:Exit->Act->World->Prop} {S:World->Prop} (i0 i1 i2 i3:Nat) {fuel:Nat} {listed:Array Bool} {a0 a1 a2 a3 a4:Act} {w:World} (hS:S w) (h:wpAnyH P md ops Q S fuel ((((listed.setIfInBounds i0 true).setIfInBounds i1 true).setIfInBounds i2 true).setIfInBounds i3 true) a4 w) (x0:Tk P md ops Q S listed i0 a0 a1:=by exact Ec) (x1:Tk P md ops Q S (listed.setIfInBounds i0 true) i1 a1 a2:=by exact Ec) (x2:Tk P md ops Q S ((listed.setIfInBounds i0 true).setIfInBounds i1 true) i2 a2 a3:=by exact Ec) (x3:Tk P md ops Q S (((listed.setIfInBounds i0 true).setIfInBounds i1 true).setIfInBounds i2 true) i3 a3 a4:=by exact Ec):wpAnyH P md ops Q S (fuel+4) listed a0 w:=x0 _ _ hS (x1 _ _ hS (x2 _ _ hS (x3 _ _ hS h)))
theorem fL {P:Program} {md:Region.Mode} {ops:Array Oper} {Q:Exit->Act->World->Prop} {S:World->Prop} (i0 i1 i2 i3 i4 i5 i6 i7:Nat) {fuel:Nat} {listed:Array Bool} {a0 a1 a2 a3 a4 a5 a6 a7 a8:Act} {w:World} (hS:S w) (h:wpAnyH P md ops Q S fuel ((((((((listed.setIfInBounds i0 true).setIfInBounds i1 true).setIfInBounds i2 true).setIfInBounds i3 true).setIfInBounds i4 true).setIfInBounds i5 true).setIfInBounds i6 true).setIfInBounds i7 true) a8 w) (x0:Tk P md ops Q S listed i0 a0 a1:=by exact Ec) (x1:Tk P md ops Q S (listed.setIfInBounds i0 true) i1 a1 a2:=by exact Ec) (x2:Tk P md ops Q S ((listed.setIfInBounds i0 true).setIfInBounds i1 true) i2 a2 a3:=by exact Ec) (x3:Tk P md ops Q S (((listed.setIfInBounds i0 true).setIfInBounds i1 true).setIfInBounds i2 true) i3 a3 a4:=by exact Ec) (x4:Tk P md ops Q S ((((listed.setIfInBounds i0 true).setIfInBounds i1 true).setIfInBounds i2 true).setIfInBounds i3 true) i4 a4 a5:=by exact Ec) (x5:Tk P md ops Q S (((((listed.setIfInBounds i0 true).setIfInBounds i1 true).setIfInBounds i2 true).setIfInBounds i3 true).setIfInBounds i4 true) i5 a5 a6:=by exact Ec) (x6:Tk P md ops Q S ((((((listed.setIfInBounds i0 true).setIfInBounds i1 true).setIfInBounds i2 true).setIfInBounds i3 true).setIfInBounds i4 true).setIfInBounds i5 true) i6 a6 a7:=by exact Ec) (x7:Tk P md ops Q S (((((((listed.setIfInBounds i0 true).setIfInBounds i1 true).setIfInBounds i2 true).setIfInBounds i3 true).setIfInBounds i4 true).setIfInBounds i5 true).setIfInBounds i6 true) i7 a7 a8:=by exact Ec):wpAnyH P md ops Q S (fuel+8) listed a0 w:=x0 _ _ hS (x1 _ _ hS (x2 _ _ hS (x3 _ _ hS (x4 _ _ hS (x5 _ _ hS (x6 _ _ hS (x7 _ _ hS h)))))))
theorem ry {P:Program} {md:Region.Mode} {ops:Array Oper} {Q:Exit->Act->World->Prop} {S:World->Prop} (rs:List Nat) {fuel:Nat} {listed:Array Bool} {a:Act} {w:World} (h:AllReadyH P md ops Q S fuel listed a w rs) (hr:Region.ready md ops listed=rs:=by kernel_rfl) (bm:rs≠[]:=by simp):wpAnyH P md ops Q S (fuel+1) listed a w:=wpAnyH_ready hr bm h
theorem cn {P:Program} {md:Region.Mode} {ops:Array Oper} {Q:Exit->Act->World->Prop} {S:World->Prop} {fuel:Nat} {listed:Array Bool} {a:Act} {w:World} {i:Nat} {o:Oper} {rs:List Nat}
  (h:∀ K':Act->World->Prop,Shut (∀ a w,S w->(S w->wpAnyH P md ops Q S fuel (listed.setIfInBounds i true) a w)->K' a w)->if Region.wanted o (yielded ops a.tmps)=true then Oper.wp P o a w K' Q else K' (a.put o.dst undef) w)
  (hs:AllReadyH P md ops Q S fuel listed a w rs) (ho:ops[i]?=some o:=by (simp only [List.getElem?_toArray,List.getElem?_cons_succ,List.getElem?_cons_zero];rfl)):AllReadyH P md ops Q S fuel listed a w (i::rs):=AllReadyH.cons ho h hs
theorem fw {P:Program} {md:Region.Mode} {ops:Array Oper} {Q:Exit->Act->World->Prop} {S:World->Prop} (rs:List Nat) {fuel:Nat} {listed:Array Bool} {a:Act} {w:World} (h:AllReadyH P md ops Q S fuel listed a w rs) (hr:Region.ready md ops listed=rs:=by decide +kernel) (bm:rs≠[]:=by simp):wpAnyH P md ops Q S (fuel+1) listed a w:=wpAnyH_ready hr bm h
structure Tag (n:Nat) (p:Prop):Prop where
 out:p
theorem Tag.go (n:Nat) {p:Prop} (h:p):Tag n p:=⟨h⟩
theorem cA {P:Program} {md:Region.Mode} {ops:Array Oper} {Q:Exit->Act->World->Prop} {S:World->Prop} {fuel:Nat} {listed:Array Bool} {a:Act} {w:World} {i:Nat} {o:Oper} {rs:List Nat}
  (h:∀ K':Act->World->Prop,Shut (∀ a w,S w->(S w->wpAnyH P md ops Q S fuel (listed.setIfInBounds i true) a w)->K' a w)->Tag i (if Region.wanted o (yielded ops a.tmps)=true then Oper.wp P o a w K' Q else K' (a.put o.dst undef) w))
  (hs:AllReadyH P md ops Q S fuel listed a w rs) (ho:ops[i]?=some o:=by (simp only [List.getElem?_toArray,List.getElem?_cons_succ,List.getElem?_cons_zero];rfl)):AllReadyH P md ops Q S fuel listed a w (i::rs):=AllReadyH.cons ho (fun K' hK=>(h K' hK).out) hs
theorem bR {P:Program} {md:Region.Mode} {ops:Array Oper} {Q:Exit->Act->World->Prop} {S:World->Prop} (i:Nat) {fuel:Nat} {listed:Array Bool} {a:Act} {w:World} {o:Oper} (h:∀ K':Act->World->Prop,Shut (∀ a w,S w->(S w->wpAnyH P md ops Q S fuel (listed.setIfInBounds i true) a w)->K' a w)->if Region.wanted o (yielded ops a.tmps)=true then Oper.wp P o a w K' Q else K' (a.put o.dst undef) w) (ho:ops[i]?=some o:=by (simp only [List.getElem?_toArray,List.getElem?_cons_succ,List.getElem?_cons_zero];rfl)) (hr:Region.ready md ops listed=[i]:=by kernel_rfl):wpAnyH P md ops Q S (fuel+1) listed a w:=ry [i] (cn h AllReadyH.nil ho) hr
theorem bM {P:Program} {md:Region.Mode} {ops:Array Oper} {Q:Exit->Act->World->Prop} {S:World->Prop} {fuel:Nat} {listed:Array Bool} {K:Act->World->Prop} {a a':Act} {w:World} (hK:Shut (∀ a w,S w->(S w->wpAnyH P md ops Q S fuel listed a w)->K a w)) (hS:S w) (h:S w->wpAnyH P md ops Q S fuel listed a' w) (ha:a=a':=by ((try simp only [Act.put,xa,xb,xc]);rfl)):K a w:=hK.out _ _ hS (ha▸h)
open Go.ChangeShapes Go.WideShapes Go.ChangeAt Go.Deep
theorem ae {p:Prop} (h:p):Hid p:=h
theorem aa {p:Prop} (h:Hid p):p:=h
def di (n:Nat) (left:Int):Int:=if left-n<0 then -1 else left-n
theorem iV (p:Option Addr) (n cap:Nat) (left:Int) (w:World) (hn:n<=maxLen) (h0:0<=left) (h1:left<=1048576) :
  Calls Tryz.prog 20 #[.slice p n cap,.int .i64 left] w fun e w'=>e=.returned (.int .i64 (di n left))/\w'=w:=by
 unfold maxLen at hn;by_cases h:left-n<0;{
 have e:di n left=-1:=by unfold di;rw [if_pos h]
 rw [e];go_enter Tryz.func20,Tryz.ntmps20;go_wp2;go_ret;exact ⟨rfl,rfl⟩};{
 have e:di n left=left-n:=by unfold di;rw [if_neg h]
 rw [e];go_enter Tryz.func20,Tryz.ntmps20;go_wp2;go_ret;exact ⟨rfl,rfl⟩}
theorem iE {n:Nat} {left:Int} (h:(n:Int)<=left):di n left=left-n:=by unfold di;rw [if_neg (by omega)]
theorem dP {n:Nat} {left:Int} (h:left<n):di n left=-1:=by unfold di;rw [if_pos (by omega)]
theorem Below.step {W w1 w2:World} (h:Below W.heap.size W w1) (k:Below w1.heap.size w1 w2):Below W.heap.size W w2:=h.trans (k.mono h.size)
abbrev U (l:List Int):List Value:=l.map (Value.int .u8)
def Rd (w:World) (v:Value) (l:List Int):Prop:=
 ∃ (p:Option Addr) (cap:Nat),v=.slice p l.length cap/\(l=[]\/∃ b o,p=some ⟨b,o,none⟩/\∀ i,i<l.length->w.cell? ⟨b,o+i,none⟩=some (.int .u8 (l.getD i 0)))
abbrev Own (B:Nat) (w:World) (v:Value) (l:List Int):Prop:=w.ownsRow B 5 1 v l.length (U l)
theorem Rd.nil (w:World):Rd w (.slice none 0 0) []:=⟨none,0,rfl,.inl rfl⟩
theorem Own.rd {B:Nat} {w:World} {v:Value} {l:List Int} (h:Own B w v l):Rd w v l:=by
 rcases h.2 with ⟨rfl,h0⟩ | ⟨g,cap,cur,rfl,hb,hg,_,_,_,ht⟩;{have:l=[]:=List.eq_nil_of_length_eq_zero h0;subst this;exact Rd.nil w};{refine ⟨_,_,rfl,.inr ⟨g,0,rfl,fun i hi=>?_⟩⟩;have:=World.ownsRow.cellAt (w:=w) (base:=B) h i (by omega);rw [Nat.zero_add,this];simp [List.getD,aH hi]}
theorem Rd.below {w w':World} {v:Value} {l:List Int} (h:Rd w v l) (hb:Below w.heap.size w w'):Rd w' v l:=by
 obtain ⟨p,cap,rfl,h⟩:=h;refine ⟨p,cap,rfl,?_⟩;rcases h with h | ⟨b,o,rfl,hc⟩;{exact .inl h};{refine .inr ⟨b,o,rfl,fun i hi=>?_⟩;rw [hb.cell (p:=⟨b,o+i,none⟩) (World.block_lt_of_cell? w _ (hc i hi))];exact hc i hi}
theorem Own.below {B:Nat} {w w':World} {v:Value} {l:List Int} (h:Own B w v l) (hb:Below w.heap.size w w'):Own B w' v l:=
 h.kept (row:=none) ⟨hb.os,hb.tape,hb.output,hb.size,fun k hk _=>hb.block k hk⟩ (by cases hv:v.ownBlock<;>simp)
theorem Own.mono {B B':Nat} {w:World} {v:Value} {l:List Int} (h:Own B w v l) (hB:B'<=B):Own B' w v l:=by
 refine ⟨h.1,?_⟩;rcases h.2 with h | ⟨g,cap,cur,rfl,hb,r⟩;{exact .inl h};{exact .inr ⟨g,cap,cur,rfl,by omega,r⟩}
def GN (l:List Int) (k:Nat):List Int:=l.take k++List.replicate (l.length-k) 0
theorem Fu (l:List Int) (k:Nat) (h:k<=l.length):(GN l k).length=l.length:=by simp [GN];omega
theorem Mh (l:List Int):GN l 0=List.replicate l.length 0:=by simp [GN]
theorem Mj (l:List Int):GN l l.length=l:=by simp [GN]
theorem Mi (l:List Int) (k:Nat) (h:k<l.length):(U (GN l k)).set k (.int .u8 (l.getD k 0))=U (GN l (k+1)):=by
 have e1:l.take (k+1)=l.take k++[l.getD k 0]:=by rw [List.take_succ_eq_append_getElem h];simp [List.getD,aH h]
 have e2:List.replicate (l.length-k) (0:Int)=0::List.replicate (l.length-(k+1)) 0:=by rw [show l.length-k=(l.length-(k+1))+1 by omega,List.replicate_succ]
 have e3:(l.take k).length=k:=by simp;omega
 have e4:(GN l k).set k (l.getD k 0)=GN l (k+1):=by unfold GN;rw [e1,e2,List.set_append_right _ _ (by omega),e3,Nat.sub_self,List.set_cons_zero];simp
 rw [<-e4,U,U,List.map_set]
theorem Tryz.infoByte:(Tryz.prog.info? 5).map (fun i=>(i.zero,i.size,i.bytes))=some (some (.int .u8 0),1,1):=by kernel_rfl
theorem fu {w w':World} (h:w.grownBy w' none):Below w.heap.size w w':=⟨h.os,h.tape,h.output,h.size,fun k hk=>h.block k hk (by simp)⟩
theorem Bu (v:Value) (l:List Int) (w:World) (h:Rd w v l) (hl:l.length<=1048576) :
  Calls Tryz.prog 27 #[v] w fun e w'=>∃ p' c',e=.returned (.slice p' l.length c')/\Own w.heap.size w' (.slice p' l.length c') l/\Below w.heap.size w w':=by
 obtain ⟨i,hi,jG,gi,gP⟩:=info_parts Tryz.infoByte;obtain ⟨p,cap,rfl,h⟩:=h;go_enter Tryz.func27,Tryz.ntmps27;go_wp2_with (first | (at_make;refine wpList_make_full _ rfl _ _ 27 rfl w.heap.size 5 i (.int .u8 0) 1 Tryz.underlying27 hi jG gi _ _ _ _ l.length rfl rfl rfl rfl ?b2 ?b3 ?b4 ?_))
 case b2=>rw [gP];omega
 case b3=>unfold maxLen;omega
 case b4=>exact Nat.le_refl _
 intro w1 aS hg;have hb:=fu hg;have RO:(madeCells #[Value.int .u8 0] l.length).toList=U (GN l 0):=by rw [Mh,toList_madeCells_one];simp
 rw [RO] at aS;go_wp2
 go_loopw [4] (fun i wr=>∃ k:Nat,k<=l.length/\i=.int .i64 k/\wr.ownsRow w.heap.size 5 1 (.slice (some ⟨w.heap.size,0,none⟩) l.length l.length) l.length (U (GN l k))/\Below w.heap.size w wr) (fun i _=>l.length-(intOf i).toNat)
 case atStart=>exact ⟨0,Nat.zero_le _,rfl,aS,hb⟩
 case round =>(
 obtain ⟨k,hk,rfl,ho,aE⟩:=hrel;by_cases aU:k<l.length;{
 rcases h with rfl | ⟨b,o,rfl,hc⟩;{simp at aU};{
 have sQ:wr.cell? ⟨b,o+k,none⟩=some (.int .u8 (l.getD k 0)):=(aE.cell (p:=⟨b,o+k,none⟩) (World.block_lt_of_cell? w _ (hc k aU))).trans (hc k aU);have Sc:=ho.frozenAt k;have jA:∃ u,wr.cell? ⟨w.heap.size,k,none⟩=some u:=by rw [ho.cellAt k (by omega)];exact ⟨_,aH (by rw [List.length_map,Fu l k hk];omega)⟩
 obtain ⟨u,hcu⟩:=jA;have cF:=ho.stored k (.int .u8 (l.getD k 0));rw [Mi l k aU] at cF;have HS:Hid (World.ownsRow (wr.setCell ⟨w.heap.size,k,none⟩ (.int .u8 (l.getD k 0))) w.heap.size 5 1 (.slice (some ⟨w.heap.size,0,none⟩) l.length l.length) l.length (U (GN l (k+1)))):=cF.1;go_wp2;go_roundw
 case rel=>exact ⟨k+1,by omega,by go_num,by simpa [aU] using HS.out,aE.setCell ay _⟩
 case measure=>simp [intOf];omega}}
 {
 have:k=l.length:=by omega
 subst this;rw [Mj] at ho;go_wp2;go_ret;exact ⟨_,_,rfl,ho,aE⟩})
theorem yJ (l1 l2:List Int) (k:Nat) (h1:k<l1.length) (h2:k<l2.length) (h:l1.take k=l2.take k) (e:l1[k]?.getD 0=l2[k]?.getD 0):l1.take (k+1)=l2.take (k+1):=by
 rw [List.take_succ_eq_append_getElem h1,List.take_succ_eq_append_getElem h2,h];simp [aH h1,aH h2] at e;rw [e]
theorem below_drewN {B:Nat} {w w':World} (h:Below B w w') (n:Nat):Below B w (w'.drewN n):=⟨h.os,h.tape,h.output,h.size,h.block⟩
theorem Di (v1 v2:Value) (l1 l2:List Int) (w:World) (h1:Rd w v1 l1) (h2:Rd w v2 l2) (Nz:l1.length<=2097152) (AV:l2.length<=2097152) :
  Calls Tryz.prog 35 #[v1,v2] w fun e w'=>e=.returned (.bool (decide (l1=l2)))/\Below w.heap.size w w':=by
 obtain ⟨p1,bK5,rfl,h1⟩:=h1;obtain ⟨p2,bK4,rfl,h2⟩:=h2;by_cases hlen:l1.length=l2.length;{
 have bm:((l1.length:Int) != (l2.length:Int))=false:=by simp;omega
 go_enter Tryz.func35,Tryz.ntmps35;go_wp2
 go_loopw [5] (fun i wr=>∃ k:Nat,k<=l1.length/\i=.int .i64 k/\l1.take k=l2.take k/\Below w.heap.size w wr) (fun i _=>l1.length-(intOf i).toNat)
 case atStart=>exact ⟨0,Nat.zero_le _,rfl,rfl,Below.refl _ _⟩
 case round =>(
 obtain ⟨k,hk,rfl,ht,aE⟩:=hrel;have HT:Hid (l1.take k=l2.take k):=ht;by_cases aU:k<l1.length;{
 rcases h1 with rfl | ⟨b1,o1,rfl,jg⟩;{simp at aU};{
 rcases h2 with rfl | ⟨b2,o2,rfl,jf⟩;{simp at hlen;subst hlen;simp at aU};{
 have tz:k<l2.length:=by omega
 have g1:wr.cell? ⟨b1,o1+k,none⟩=some (.int .u8 (l1.getD k 0)):=(aE.cell (p:=⟨b1,o1+k,none⟩) (World.block_lt_of_cell? w _ (jg k aU))).trans (jg k aU);have g2:wr.cell? ⟨b2,o2+k,none⟩=some (.int .u8 (l2.getD k 0)):=(aE.cell (p:=⟨b2,o2+k,none⟩) (World.block_lt_of_cell? w _ (jf k tz))).trans (jf k tz);have i1:(k:Int)<(l1.length:Int):=by omega
 have i2:(k:Int)<(l2.length:Int):=by omega
 have HL:Hid (l1.length=l2.length):=hlen;by_cases hx:l1[k]=l2[k];{
 have hb:(l1[k] != l2[k])=false:=by simp only [bne_eq_false_iff_eq];exact hx
 have HX:Hid (l1[k]?.getD 0=l2[k]?.getD 0):=by show _=_;simpa [aU,tz] using hx
 go_wp2
 go_quiet (fail)
 go_wp2;go_roundw
 case rel=>exact ⟨k+1,by omega,by go_num,yJ l1 l2 k aU tz HT.out HX.out,below_drewN aE _⟩
 case measure=>simp [intOf];omega}
 {
 have hb:(l1[k] != l2[k])=true:=by simp only [bne_iff_ne];exact hx
 have HF:Hid (decide (l1=l2)=false):=by show _=_;simp only [decide_eq_false_iff_not];intro e;apply hx;simp [e]
 go_wp2
 go_quiet (fail)
 go_wp2;go_ret;exact ⟨by rw [HF.out];rfl,below_drewN aE _⟩}}}};{
 have bH:k=l1.length:=by omega
 have HF:Hid (decide (l1=l2)=true):=by have:=HT.out;rw [bH,List.take_length,hlen,List.take_length] at this;show _=_;simp [this]
 subst bH;go_wp2;go_ret;exact ⟨by rw [HF.out];rfl,aE⟩})}
 {
 have bm:((l1.length:Int) != (l2.length:Int))=true:=by simp;omega
 have pX:decide (l1=l2)=false:=by simp only [decide_eq_false_iff_not];intro e;apply hlen;rw [e]
 rw [pX];go_enter Tryz.func35,Tryz.ntmps35;go_wp2;go_ret;exact ⟨rfl,Below.refl _ _⟩}
theorem Own.lt {B:Nat} {w:World} {v:Value} {l:List Int} (h:Own B w v l):∀ b,v.ownBlock=some b->B<=b/\b<w.heap.size:=World.ownsRow.lt h
theorem qd (w:World) (row:Option Nat):w.grownBy w row:=⟨rfl,rfl,rfl,Nat.le_refl _,fun _ _ _=>rfl⟩
theorem fW {w w1 w2:World} {row:Option Nat} (h:w.grownBy w1 row) (k:w1.grownBy w2 row):w.grownBy w2 row:=
 ⟨k.os.trans h.os,k.tape.trans h.tape,k.output.trans h.output,Nat.le_trans h.size k.size,fun i hi bm=>(k.block i (Nat.lt_of_lt_of_le hi h.size) bm).trans (h.block i hi bm)⟩
structure Kept (vs:List Value) (w w':World):Prop where
 os:w'.os=w.os
 tape:w'.tape=w.tape
 output:w'.output=w.output
 size:w.heap.size<=w'.heap.size
 block:∀ k,k<w.heap.size->(∀ v∈vs,v.ownBlock≠some k)->w'.heap[k]?=w.heap[k]?
theorem Kept.J4 {vs:List Value} {w w':World} {v:Value} (h:w.grownBy w' v.ownBlock) (hv:v∈vs):Kept vs w w':=
 ⟨h.os,h.tape,h.output,h.size,fun k hk bm=>h.block k hk (fun e=>bm v hv e.symm)⟩
theorem Own.Um {B:Nat} {vs:List Value} {w w':World} {v:Value} {l:List Int} (h:Own B w v l) (hk:Kept vs w w') (bm:∀ u∈vs,∀ b,v.ownBlock=some b->u.ownBlock≠some b):Own B w' v l:=by
 refine ⟨h.1,?_⟩;rcases h.2 with hn | ⟨g,cap,cur,rfl,hb,UY,rest⟩;{exact .inl hn};{refine .inr ⟨g,cap,cur,rfl,hb,?_,rest⟩;rw [hk.block g (Array.getElem?_eq_some_iff.1 UY).1 (fun u hu=>bm u hu g rfl)];exact UY}
theorem af {w w':World} {b o:Nat} {v:Value} (h:w.cell? ⟨b,o,none⟩=some v) (hb:Below w.heap.size w w'):w'.cell? ⟨b,o,none⟩=some v:=
 (hb.cell (p:=⟨b,o,none⟩) (World.block_lt_of_cell? w _ h)).trans h
end Go.Proofs.YtmfjiolopcbcmaaGreatDoor
