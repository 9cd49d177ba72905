import Derived.Test.YtcfcafeciggjeaaGreatDoorGC
namespace Go.Proofs.YtcfcafeciggjeaaGreatDoor
set_option linter.all false
set_option maxRecDepth 100000
open Go.ChangeShapes Go.WideShapes Go.ChangeAt Go.RowKit
variable {B b:Nat} {E:Prop} {K:Act->World->Prop} {P:Program} {R:Ending->World->Prop} {a:Act} {f:FuncId} {l:List Int} {o:Oper} {ops:Array Oper} {p:Option Addr} {v1 v2:Value}
def Btw (lo hi:Nat) (v:Value):Prop:=∀ b,v.ownBlock=some b->lo<=b/\b<hi
theorem Own.btw {w:World} {v:Value} (h:Own B w v l):Btw B w.heap.size v:=h.lt
abbrev At2 (w:World) (b:Nat) (v0 v1:Value):Prop:=w.cell? ⟨b,0,none⟩=some v0/\w.cell? ⟨b,1,none⟩=some v1
theorem Own.cap {w:World} {c n:Nat} (h:Own B w (.S p n c) l):n<=c:=by
 rcases h.2 with ⟨e,h0⟩ | ⟨g,cap,cur,e,_,_,hc,_⟩;{simp only [Value.slice.injEq] at e;omega};{simp only [Value.slice.injEq] at e;omega}
theorem Own.BJ {w:World} {c n:Nat} (h:Own B w (.S p n c) l):c<=maxLen:=by
 rcases h.2 with ⟨e,h0⟩ | ⟨g,cap,cur,e,_,_,hc,hm,_⟩;{simp only [Value.slice.injEq] at e;omega};{simp only [Value.slice.injEq] at e;omega}
theorem gG {w:World} {Q:Exit->Act->World->Prop} (jK:o.guard=none) (f:FuncId) (x1:Operand) (Cq:Array TypeId)
  (ho:o.op=.call { callee:=.value (.func f),args:=#[x1],argTypes:=Cq }) (v1:Value) (h1:a.eval x1=v1) (ve:∀ vs,(callFunc f vs).run P w=.ok (.enter f vs) w) (hc:Calls P f #[v1] w R) (hR:∀ e w',R e w'->∃ v,e=.returned v/\K (a.put o.dst v) w') :
  if Region.wanted o (yielded ops a.tmps)=true then Oper.wp P o a w K Q else E:=by
 have hw:Region.wanted o (yielded ops a.tmps)=true:=by simp [Region.wanted,jK]
 rw [if_pos hw];have cK:(execOp a.eval o).run P w=.ok (.enter f #[v1]) w:=by subst h1;unfold execOp;simp [go_sem,ho,resolve,invoke,ve]
 show o.upon P a K Q _;rw [cK,Oper.upon_enter];refine hc.mono ?_;intro e w' h;obtain ⟨v,rfl,hk⟩:=hR e w' h;exact hk
theorem ky {w:World} {Q:Exit->Act->World->Prop} (jK:o.guard=none) (f:FuncId) (x1 x2:Operand) (Cq:Array TypeId)
  (ho:o.op=.call { callee:=.value (.func f),args:=#[x1,x2],argTypes:=Cq }) (v1 v2:Value) (h1:a.eval x1=v1) (h2:a.eval x2=v2) (ve:∀ vs,(callFunc f vs).run P w=.ok (.enter f vs) w) (hc:Calls P f #[v1,v2] w R) (hR:∀ e w',R e w'->∃ v,e=.returned v/\K (a.put o.dst v) w') :
  if Region.wanted o (yielded ops a.tmps)=true then Oper.wp P o a w K Q else E:=by
 have hw:Region.wanted o (yielded ops a.tmps)=true:=by simp [Region.wanted,jK]
 rw [if_pos hw];have cK:(execOp a.eval o).run P w=.ok (.enter f #[v1,v2]) w:=by subst h1 h2;unfold execOp;simp [go_sem,ho,resolve,invoke,ve]
 show o.upon P a K Q _;rw [cK,Oper.upon_enter];refine hc.mono ?_;intro e w' h;obtain ⟨v,rfl,hk⟩:=hR e w' h;exact hk
theorem ia {w:World} {ops:Array Oper} {Q:Exit->Act->World->Prop} {E:Prop} {Cq:Array TypeId} {x1:Operand} (hc:Calls P f #[v1] w R) (hR:∀ e w',R e w'->∃ v,e=.returned v/\K (a.put o.dst v) w') (jK:o.guard=none:=by rfl)
  (ho:o.op=.call { callee:=.value (.func f),args:=#[x1],argTypes:=Cq }:=by rfl) (h1:a.eval x1=v1:=by rfl) (ve:∀ vs,(callFunc f vs).run P w=.ok (.enter f vs) w:=by (intro _;kernel_rfl)) :
  if Region.wanted o (yielded ops a.tmps)=true then Oper.wp P o a w K Q else E:=gG jK f x1 Cq ho v1 h1 ve hc hR
theorem rz {w:World} {ops:Array Oper} {Q:Exit->Act->World->Prop} {E:Prop} {Cq:Array TypeId} {x1 x2:Operand} (hc:Calls P f #[v1,v2] w R) (hR:∀ e w',R e w'->∃ v,e=.returned v/\K (a.put o.dst v) w') (jK:o.guard=none:=by rfl)
  (ho:o.op=.call { callee:=.value (.func f),args:=#[x1,x2],argTypes:=Cq }:=by rfl) (h1:a.eval x1=v1:=by rfl) (h2:a.eval x2=v2:=by rfl) (ve:∀ vs,(callFunc f vs).run P w=.ok (.enter f vs) w:=by (intro _;kernel_rfl)) :
  if Region.wanted o (yielded ops a.tmps)=true then Oper.wp P o a w K Q else E:=ky jK f x1 x2 Cq ho v1 v2 h1 h2 ve hc hR
abbrev X5 (k s:Int) (P:Value) (f:Int) (V:Value) (e g:Int):Value:=.agg #[.I k,.U s,P,.I f,V,.U e,.U g]
abbrev sc (w:World) (b:Nat) (v0 v1 v2 v3 v4 v5 v6:Value):Prop:=w.cell? ⟨b,0,none⟩=some v0/\w.cell? ⟨b,1,none⟩=some v1/\w.cell? ⟨b,2,none⟩=some v2/\w.cell? ⟨b,3,none⟩=some v3/\w.cell? ⟨b,4,none⟩=some v4/\w.cell? ⟨b,5,none⟩=some v5/\w.cell? ⟨b,6,none⟩=some v6
theorem sc.below {w w':World} {v0 v3 v4 v5 v6:Value} (h:sc w b v0 v1 v2 v3 v4 v5 v6) (hb:Bw w w'):sc w' b v0 v1 v2 v3 v4 v5 v6:=
 ⟨af h.1 hb,af h.2.1 hb,af h.2.2.1 hb,af h.2.2.2.1 hb,af h.2.2.2.2.1 hb,af h.2.2.2.2.2.1 hb,af h.2.2.2.2.2.2 hb⟩
theorem dJ {w w':World} (h:∀ o,w.frozen? ⟨b,o,none⟩=false) (hl:b<w.heap.size) (hb:Bw w w'):∀ o,w'.frozen? ⟨b,o,none⟩=false:=fun o=>(hb.frozen (p:=⟨b,o,none⟩) hl).trans (h o)
end Go.Proofs.YtcfcafeciggjeaaGreatDoor
