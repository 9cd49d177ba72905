import Derived.Test.YtjjnidignljppaaGreatDoorK8
namespace Go.Proofs.YtjjnidignljppaaGreatDoor
set_option linter.all false
set_option maxRecDepth 100000
set_option linter.unusedVariables false
open Go.ChangeShapes Go.WideShapes Go.ChangeAt Go.RowKit
def Tryz.infoU64:(Tryz.prog.info? 28).map (fun i=>(i.zero,i.size,i.bytes))=some (some (.U 0),1,8):=by kernel_rfl
def Tryz.infoEv:(Tryz.prog.info? 165).map (fun i=>(i.zero,i.size,i.bytes))=some (some (.agg #[.I 0,.S none 0 0]),2,32):=by kernel_rfl
def Tryz.infoSes:(Tryz.prog.info? 86).map (fun i=>(i.zero,i.size,i.bytes))=some (some (.agg #[.U 0,.I 0,.S none 0 0]),3,40):=by kernel_rfl
def Tryz.infoNod:(Tryz.prog.info? 93).map (fun i=>(i.zero,i.size,i.bytes))=some (some (.agg #[.S none 0 0,.S none 0 0,.U 0,.I 0,.S none 0 0,.U 0,.U 0,.S none 0 0]),8,128):=by kernel_rfl
def St{w w':World}(h:Bw w w'):w.grownBy w' none:=⟨h.os,h.tape,h.output,h.size,fun i hi _=>h.block i hi⟩
structure SD where
 e:Int
 g:Int
 x:Int
 t:Int
 ss:List aR
 ns:List aB
def qE(ids:LI)(id:Int):LI:=ids.filter fun x=>!(x==id)
def vR:LI->Int->LI
 |[],id=>[id]
 |x::r,id=>if id<=x then id::qE (x::r) id else x::vR r id
def Ek(q:List Ev)(ev:Ev):List Ev:=if q.length<7 then q++[ev]else if q.length=7 then q++[(4,[])]else q
def FM(ss:List aR)(id:Int)(ev:Ev):List aR:=ss.map fun s=>if s.1=id then(s.1,s.2.1,Ek s.2.2 ev)else s
def rr(ss:List aR)(ids:LI)(ev:Ev):List aR:=ids.foldl (fun ss id=>FM ss id ev) ss
def dR(D:SD)(k:Nat)(kind:Int):SD:=match D.ns[k]? with
 |none=>D
 |some nd=>{D with ss:=rr D.ss nd.watchers (kind,nd.path),ns:=D.ns.set k {nd with watchers:=[]}}
def Qa(D:SD)(k:Nat):SD:={D with ns:=D.ns.eraseIdx k}
def dN(D:SD)(k:Nat)(id:Int):SD:=match D.ns[k]? with
 |none=>D
 |some nd=>if nd.holders.contains id then(if qE nd.holders id=[]then dR {D with ns:=D.ns.set k {nd with holders:=[],mode:=0,aJ:=0,gen:=0}} k 3 else{D with ns:=D.ns.set k {nd with holders:=qE nd.holders id}})else D
end Go.Proofs.YtjjnidignljppaaGreatDoor
