import Derived.Test.YtcfcafeciggjeaaGreatDoorK10
namespace Go.Proofs.YtcfcafeciggjeaaGreatDoor
set_option linter.all false
set_option maxRecDepth 100000
open Go.ChangeShapes Go.WideShapes Go.ChangeAt Go.RowKit
def Ab (B:Nat) (w:World) (Q:World->Prop):Prop:=∀ w':World,(∀ k,B<=k->k<w.heap.size->w'.heap[k]?=w.heap[k]?)->Q w'
theorem Own.ab {B:Nat} {w:World} {p:Option Addr} {n c:Nat} {l:List Int} (h:Own B w (.S p n c) l):Ab B w (fun u=>Rd u (.S p n c) l/\iH (.S p n c)):=by
 refine fun u hu=>⟨?_,p,n,c,rfl,h.cap,h.BJ⟩;obtain ⟨p',c',e,hd⟩:=h.rd;refine ⟨p',c',e,?_⟩;rcases hd with h0 | ⟨b,o,hp,hc⟩;{exact .inl h0};{refine .inr ⟨b,o,hp,fun i hi=>?_⟩;simp only [Value.slice.injEq] at e;have hb:B<=b/\b<w.heap.size:=h.lt b (by rw [e.1,hp];rfl);exact (ai (hu b hb.1 hb.2) _).trans (hc i hi)}
theorem Tryz.infoU64:(Tryz.prog.info? 23).map (fun i=>(i.zero,i.size,i.bytes))=some (some (.U 0),1,8):=by kernel_rfl
theorem Tryz.infoEv:(Tryz.prog.info? 49).map (fun i=>(i.zero,i.size,i.bytes))=some (some (.agg #[.I 0,.S none 0 0]),2,32):=by kernel_rfl
theorem Tryz.infoSes:(Tryz.prog.info? 35).map (fun i=>(i.zero,i.size,i.bytes))=some (some (.agg #[.U 0,.I 0,.S none 0 0]),3,40):=by kernel_rfl
theorem Tryz.infoNod:(Tryz.prog.info? 38).map (fun i=>(i.zero,i.size,i.bytes))=some (some (.agg #[.S none 0 0,.S none 0 0,.U 0,.I 0,.S none 0 0,.U 0,.U 0,.S none 0 0]),8,128):=by kernel_rfl
theorem Gd {w w':World} (h:Bw w w'):w.grownBy w' none:=⟨h.os,h.tape,h.output,h.size,fun i hi _=>h.block i hi⟩

end Go.Proofs.YtcfcafeciggjeaaGreatDoor
