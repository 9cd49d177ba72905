import Derived.Test.YtcfcafeciggjeaaGreatDoorGC
namespace Go.Proofs.YtcfcafeciggjeaaGreatDoor
set_option linter.unusedVariables false
set_option linter.unusedSimpArgs false
set_option maxRecDepth 100000
open Go.ChangeShapes Go.WideShapes Go.ChangeAt Go.RowKit
variable {B a b c d:Nat} {E:Prop} {K:Act->World->Prop} {P:Program} {R:Ending->World->Prop} {f:FuncId} {l:List Int} {o:Oper} {ops:Array Oper} {p:Option Addr} {u v v0 v1 v2:Value} {w w' w0:World}
def Fs (lo hi:Nat) (v:Value):Prop:=∀ b,v.ownBlock=some b->lo<=b/\b<hi
theorem Own.btw (h:Own B w v l):Fs B w.heap.size v:=h.lt
theorem Own.apart (h:Own B w v l) (hg:w.grownBy w' u.ownBlock) (hu:Fs a b u) (hv:Fs c d v) (hd:b<=c\/d<=a):Own B w' v l:=by
 refine Own.AV (vs:=[u]) h (Kept.xR hg (by simp)) ?_;intro x hx k e1 e2;simp only [List.mem_singleton] at hx;subst hx;have:=hu k e2;have:=hv k e1;omega
theorem Rd.apart (h:Rd w v l) (hg:w.grownBy w' u.ownBlock) (hu:Fs a b u) (hv:Fs c d v) (hd:b<=c\/d<=a):Rd w' v l:=by
 refine Rd.frame h hg ?_;intro k e1 e2;have:=hu k e2;have:=hv k e1;omega
theorem Qw (h:Below B w0 w) (hg:w.grownBy w' u.ownBlock) (hu:Fs a b u) (hB:B<=a) (hz:B<=w.heap.size):Below B w0 w':=
 h.grown hg hz (fun k e=>by have:=hu k e;omega)
theorem Own.QE (h:Own B w v l) (hg:Kept [u] w w') (hu:Fs a b u) (hv:Fs c d v) (hd:b<=c\/d<=a):Own B w' v l:=by
 refine Own.AV (vs:=[u]) h hg ?_;intro x hx k e1 e2;simp only [List.mem_singleton] at hx;subst hx;have:=hu k e2;have:=hv k e1;omega
theorem Rd.QE (h:Rd w v l) (hg:Kept [u] w w') (hu:Fs a b u) (hv:Fs c d v) (hd:b<=c\/d<=a):Rd w' v l:=by
 refine Rd.kept h hg ?_;intro x hx k e1 e2;simp only [List.mem_singleton] at hx;subst hx;have:=hu k e2;have:=hv k e1;omega
theorem Ns (h:Below B w0 w) (hg:Kept [u] w w') (hu:Fs a b u) (hB:B<=a) (hz:B<=w.heap.size):Below B w0 w':=
 h.trans (hg.below hz (fun v hv k e=>by simp only [List.mem_singleton] at hv;subst hv;have:=hu k e;omega))
abbrev R8 (w:World) (b:Nat) (v0 v1:Value):Prop:=w.cell? ⟨b,0,none⟩=some v0/\w.cell? ⟨b,1,none⟩=some v1
theorem R8.below (h:R8 w b v0 v1) (hb:Below w.heap.size w w'):R8 w' b v0 v1:=⟨af h.1 hb,af h.2 hb⟩
theorem R8.kept {lo hi:Nat} (h:R8 w b v0 v1) (hk:Kept [u] w w') (hb:b<w.heap.size) (hu:Fs lo hi u) (hd:b<lo\/hi<=b):R8 w' b v0 v1:=by
 have e:=hk.cellAt hb (fun v hv e=>by simp only [List.mem_singleton] at hv;subst hv;have:=hu _ e;omega);exact ⟨(e 0).trans h.1,(e 1).trans h.2⟩
theorem Own.cap {c n:Nat} (h:Own B w (.slice p n c) l):n<=c:=by
 rcases h.2 with ⟨e,h0⟩ | ⟨g,cap,cur,e,_,_,hc,_⟩;{simp only [Value.slice.injEq] at e;omega};{simp only [Value.slice.injEq] at e;omega}
theorem Own.BM {c n:Nat} (h:Own B w (.slice p n c) l):c<=maxLen:=by
 rcases h.2 with ⟨e,h0⟩ | ⟨g,cap,cur,e,_,_,hc,hm,_⟩;{simp only [Value.slice.injEq] at e;omega};{simp only [Value.slice.injEq] at e;omega}
theorem iL {a:Act} {Q:Exit->Act->World->Prop} (jw:o.guard=none) (f:FuncId) (x1:Operand) (An:Array TypeId)
  (ho:o.op=.call { callee:=.value (.func f),args:=#[x1],argTypes:=An }) (v1:Value) (h1:a.eval x1=v1) (sP:∀ vs,(callFunc f vs).run P w=.ok (.enter f vs) w) (hc:Calls P f #[v1] w R) (hR:∀ e w',R e w'->∃ v,e=.returned v/\K (a.put o.dst v) w') :
  if Region.wanted o (yielded ops a.tmps)=true then Oper.wp P o a w K Q else E:=by
 have hw:Region.wanted o (yielded ops a.tmps)=true:=by simp [Region.wanted,jw]
 rw [if_pos hw];have du:(execOp a.eval o).run P w=.ok (.enter f #[v1]) w:=by subst h1;unfold execOp;simp [go_sem,ho,resolve,invoke,sP]
 show o.upon P a K Q _;rw [du,Oper.upon_enter];refine hc.mono ?_;intro e w' h;obtain ⟨v,rfl,hk⟩:=hR e w' h;exact hk
theorem jT {a:Act} {Q:Exit->Act->World->Prop} (jw:o.guard=none) (f:FuncId) (x1 x2:Operand) (An:Array TypeId)
  (ho:o.op=.call { callee:=.value (.func f),args:=#[x1,x2],argTypes:=An }) (v1 v2:Value) (h1:a.eval x1=v1) (h2:a.eval x2=v2) (sP:∀ vs,(callFunc f vs).run P w=.ok (.enter f vs) w) (hc:Calls P f #[v1,v2] w R) (hR:∀ e w',R e w'->∃ v,e=.returned v/\K (a.put o.dst v) w') :
  if Region.wanted o (yielded ops a.tmps)=true then Oper.wp P o a w K Q else E:=by
 have hw:Region.wanted o (yielded ops a.tmps)=true:=by simp [Region.wanted,jw]
 rw [if_pos hw];have du:(execOp a.eval o).run P w=.ok (.enter f #[v1,v2]) w:=by subst h1 h2;unfold execOp;simp [go_sem,ho,resolve,invoke,sP]
 show o.upon P a K Q _;rw [du,Oper.upon_enter];refine hc.mono ?_;intro e w' h;obtain ⟨v,rfl,hk⟩:=hR e w' h;exact hk
theorem fw {ops:Array Oper} {a:Act} {Q:Exit->Act->World->Prop} {E:Prop} {An:Array TypeId} {x1:Operand} (hc:Calls P f #[v1] w R) (hR:∀ e w',R e w'->∃ v,e=.returned v/\K (a.put o.dst v) w') (jw:o.guard=none:=by rfl)
  (ho:o.op=.call { callee:=.value (.func f),args:=#[x1],argTypes:=An }:=by rfl) (h1:a.eval x1=v1:=by rfl) (sP:∀ vs,(callFunc f vs).run P w=.ok (.enter f vs) w:=by (intro _;kernel_rfl)) :
  if Region.wanted o (yielded ops a.tmps)=true then Oper.wp P o a w K Q else E:=iL jw f x1 An ho v1 h1 sP hc hR
theorem ld {ops:Array Oper} {a:Act} {Q:Exit->Act->World->Prop} {E:Prop} {An:Array TypeId} {x1 x2:Operand} (hc:Calls P f #[v1,v2] w R) (hR:∀ e w',R e w'->∃ v,e=.returned v/\K (a.put o.dst v) w') (jw:o.guard=none:=by rfl)
  (ho:o.op=.call { callee:=.value (.func f),args:=#[x1,x2],argTypes:=An }:=by rfl) (h1:a.eval x1=v1:=by rfl) (h2:a.eval x2=v2:=by rfl) (sP:∀ vs,(callFunc f vs).run P w=.ok (.enter f vs) w:=by (intro _;kernel_rfl)) :
  if Region.wanted o (yielded ops a.tmps)=true then Oper.wp P o a w K Q else E:=jT jw f x1 x2 An ho v1 v2 h1 h2 sP hc hR
abbrev SQ (k s:Int) (P:Value) (f:Int) (V:Value) (e g:Int):Value:=.agg #[.int .i64 k,.int .u64 s,P,.int .i64 f,V,.int .u64 e,.int .u64 g]
abbrev Mm (w:World) (b:Nat) (v0 v1 v2 v3 v4 v5 v6:Value):Prop:=w.cell? ⟨b,0,none⟩=some v0/\w.cell? ⟨b,1,none⟩=some v1/\w.cell? ⟨b,2,none⟩=some v2/\w.cell? ⟨b,3,none⟩=some v3/\w.cell? ⟨b,4,none⟩=some v4/\w.cell? ⟨b,5,none⟩=some v5/\w.cell? ⟨b,6,none⟩=some v6
theorem Mm.below {v3 v4 v5 v6:Value} (h:Mm w b v0 v1 v2 v3 v4 v5 v6) (hb:Below w.heap.size w w'):Mm w' b v0 v1 v2 v3 v4 v5 v6:=
 ⟨af h.1 hb,af h.2.1 hb,af h.2.2.1 hb,af h.2.2.2.1 hb,af h.2.2.2.2.1 hb,af h.2.2.2.2.2.1 hb,af h.2.2.2.2.2.2 hb⟩
end Go.Proofs.YtcfcafeciggjeaaGreatDoor
