import Derived.Test.YtcfcafeciggjeaaGreatDoorK11
namespace Go.Proofs.YtcfcafeciggjeaaGreatDoor
set_option linter.unusedVariables false
set_option linter.unusedSimpArgs false
set_option maxRecDepth 100000
open Go.ChangeShapes Go.WideShapes Go.ChangeAt Go.RowKit
variable {B:Nat} {w w':World}
def Ab (B:Nat) (w:World) (Q:World->Prop):Prop:=∀ w':World,(∀ k,B<=k->k<w.heap.size->w'.heap[k]?=w.heap[k]?)->Q w'
theorem Ab.step {Q:World->Prop} (h:Ab B w Q) (hs:w.heap.size<=w'.heap.size) (hk:∀ k,B<=k->k<w.heap.size->w'.heap[k]?=w.heap[k]?):Ab B w' Q:=
 fun u hu=>h u (fun k h1 h2=>(hu k h1 (Nat.lt_of_lt_of_le h2 hs)).trans (hk k h1 h2))
theorem Ab.below {Q:World->Prop} (h:Ab B w Q) (hb:Below w.heap.size w w'):Ab B w' Q:=h.step hb.size (fun k _ h2=>hb.block k h2)
theorem Ab.mono {B':Nat} {Q:World->Prop} (h:Ab B' w Q) (hB:B<=B'):Ab B w Q:=fun u hu=>h u (fun k h1 h2=>hu k (Nat.le_trans hB h1) h2)
theorem Ab.set {Q:World->Prop} (h:Ab B w Q) {a:Addr} (ha:a.block<B) (v:Value):Ab B (w.setCell a v) Q:=
 h.step (by simp) (fun k h1 _=>dt _ _ _ _ (by omega))
theorem Ab.and {Q R:World->Prop} (h:Ab B w Q) (k:Ab B w R):Ab B w (fun u=>Q u/\R u):=fun u hu=>⟨h u hu,k u hu⟩
theorem Own.ab {p:Option Addr} {n c:Nat} {l:List Int} (h:Own B w (.slice p n c) l):Ab B w (fun u=>Rd u (.slice p n c) l/\fV (.slice p n c)):=by
 refine fun u hu=>⟨?_,p,n,c,rfl,h.cap,h.BM⟩;obtain ⟨p',c',e,hd⟩:=h.rd;refine ⟨p',c',e,?_⟩;rcases hd with h0 | ⟨b,o,hp,hc⟩;{exact .inl h0};{refine .inr ⟨b,o,hp,fun i hi=>?_⟩;simp only [Value.slice.injEq] at e;have hb:B<=b/\b<w.heap.size:=h.lt b (by rw [e.1,hp];rfl);exact (ah (hu b hb.1 hb.2) _).trans (hc i hi)}
theorem Tryz.infoU64:(Tryz.prog.info? 23).map (fun i=>(i.zero,i.size,i.bytes))=some (some (.int .u64 0),1,8):=by kernel_rfl
theorem Tryz.infoEv:(Tryz.prog.info? 49).map (fun i=>(i.zero,i.size,i.bytes))=some (some (.agg #[.int .i64 0,.slice none 0 0]),2,32):=by kernel_rfl
theorem Tryz.infoSes:(Tryz.prog.info? 35).map (fun i=>(i.zero,i.size,i.bytes))=some (some (.agg #[.int .u64 0,.int .i64 0,.slice none 0 0]),3,40):=by kernel_rfl
theorem Tryz.infoNod:(Tryz.prog.info? 38).map (fun i=>(i.zero,i.size,i.bytes))=some (some (.agg #[.slice none 0 0,.slice none 0 0,.int .u64 0,.int .i64 0,.slice none 0 0,.int .u64 0,.int .u64 0,.slice none 0 0]),8,128):=by kernel_rfl
theorem Bu (h:Below w.heap.size w w'):w.grownBy w' none:=⟨h.os,h.tape,h.output,h.size,fun i hi _=>h.block i hi⟩
def Nf (BZ:Nat) (w:World) (v:Value):Prop:=∀ b,v.ownBlock=some b->BZ<=b/\∀ o,w.frozen? ⟨b,o,none⟩=false
theorem Nf.row {BZ:Nat} {u wr:World} {G n c m:Nat} {e:TypeId} {sz:Nat} {L:List Value} (ho:wr.ownsRow G e sz (.slice (some ⟨G,0,none⟩) n c) m L) (hB:BZ<=G) (hu:u.heap[G]?=wr.heap[G]?):Nf BZ u (.slice (some ⟨G,0,none⟩) n c):=fun b hb=>by
 simp only [Value.ownBlock,Option.some.injEq] at hb;subst hb;refine ⟨hB,fun o=>?_⟩;rw [World.frozen?_of_block (w:=wr) (a:=⟨G,o,none⟩) hu];rcases ho.2 with ⟨e,_⟩ | ⟨g,cap,cur,e,hg,Xs,_⟩;{simp at e};{simp only [Value.slice.injEq,Option.some.injEq,Addr.mk.injEq] at e;obtain ⟨⟨rfl,-⟩,-⟩:=e;simp [World.frozen?,Xs]}
end Go.Proofs.YtcfcafeciggjeaaGreatDoor
