import Derived.Test.YtcfcafeciggjeaaGreatDoorK13
namespace Go.Proofs.YtcfcafeciggjeaaGreatDoor
set_option linter.all false
set_option maxRecDepth 100000
open Go.ChangeShapes Go.WideShapes Go.ChangeAt Go.RowKit
theorem Tryz.infoU64:(Tryz.prog.info? 23).map (fun i=>(i.zero,i.size,i.bytes))=some (some (.U 0),1,8):=by kernel_rfl
theorem Tryz.infoEv:(Tryz.prog.info? 49).map (fun i=>(i.zero,i.size,i.bytes))=some (some (.agg #[.I 0,.S none 0 0]),2,32):=by kernel_rfl
theorem Tryz.infoSes:(Tryz.prog.info? 35).map (fun i=>(i.zero,i.size,i.bytes))=some (some (.agg #[.U 0,.I 0,.S none 0 0]),3,40):=by kernel_rfl
theorem Tryz.infoNod:(Tryz.prog.info? 38).map (fun i=>(i.zero,i.size,i.bytes))=some (some (.agg #[.S none 0 0,.S none 0 0,.U 0,.I 0,.S none 0 0,.U 0,.U 0,.S none 0 0]),8,128):=by kernel_rfl
theorem Gd {w w':World} (h:Bw w w'):w.grownBy w' none:=⟨h.os,h.tape,h.output,h.size,fun i hi _=>h.block i hi⟩
end Go.Proofs.YtcfcafeciggjeaaGreatDoor
