import Derived.Test.YtmfjiolopcbcmaaGreatDoorK14
namespace Go.Proofs.YtmfjiolopcbcmaaGreatDoor
set_option linter.unusedVariables false
set_option linter.unusedSimpArgs false
set_option maxRecDepth 100000
open Go.ChangeShapes Go.WideShapes Go.ChangeAt Go.RowKit Go.Proofs.Tryz
variable {B:Nat} {l:List Int} {v:Value} {w:World}
abbrev ga (B:Nat) (w:World) (v:Value) (l:List Int):Prop:=w.ownsRow B 22 1 v l.length (l.map (Value.int .u64))
theorem ga.form (h:ga B w v l):∃ p c,v=.slice p l.length c:=by
 rcases h.2 with ⟨rfl,h0⟩ | ⟨g,cap,cur,rfl,_⟩;{exact ⟨none,0,by rw [h0]⟩};{exact ⟨_,_,rfl⟩}
theorem dU {ops:Array Oper} {rest:List Oper} {o:Oper} {a:Act} {Q:Exit->Act->World->Prop} (kM:o.guard=none) (s x:Operand)
  (ho:o.op=.call { callee:=.builtin .append,args:=#[s,x],argTypes:=#[86,86] })
  (B:Nat) (v:Value) (l lm:List Int) (y:Int) (VE:Hid (lm=l++[y])) (g:Nat) (hs:a.eval s=v) (hx:a.eval x=.slice (some ⟨g,0,none⟩) 1 1) (aS:ga B w v l) (hc:w.cell? ⟨g,0,none⟩=some (.int .u64 y))
  (hl:l.length<4194304) (hB:B<=w.heap.size)
  (h:∀ p' c' w',ga B w' (.slice p' lm.length c') lm->w.grownBy w' v.ownBlock->wpList prog ops Q rest (a.put o.dst (.slice p' lm.length c')) w'):wpList prog ops Q (o::rest) a w:=by
 obtain ⟨i,hi,jG,gi,gP⟩:=info_parts Tryz.infoU64;refine dO kM s x 86 ho B 22 i (.int .u64 0) 1 8 underlying86 hi jG gi gP rfl (by decide) v _ _ hs aS g 1 1 [.int .u64 y] hx rfl (fun j u hu=>?_) (fun u hu=>by simp at hu;subst hu;rfl) (by unfold maxLen;omega) (by omega) hB ?_;{
 cases j with
 | zero=>simp at hu;subst hu;exact hc
 | succ j=>simp at hu}
 {
 intro v' w' h1 h2 _;have e:=aa VE;subst e;have iC:ga B w' v' (l++[y]):=by unfold ga;rw [List.length_append,List.map_append];exact h1
 obtain ⟨p',c',rfl⟩:=iC.form;exact h p' c' w' iC h2}
theorem ga.below {w':World} (h:ga B w v l) (hb:Below w.heap.size w w'):ga B w' v l:=
 World.ownsRow.kept (row:=none) h (lY hb) (by by_cases e:v.ownBlock=none<;>simp [e])
end Go.Proofs.YtmfjiolopcbcmaaGreatDoor
