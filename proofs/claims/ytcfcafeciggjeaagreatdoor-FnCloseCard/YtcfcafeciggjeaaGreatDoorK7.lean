import Derived.Test.YtcfcafeciggjeaaGreatDoorK5
import Derived.Test.YtcfcafeciggjeaaGreatDoorK4
import Derived.Lib.EndianBits
import Derived.Laws.Closers25b
import Derived.Laws.BytesString
namespace Go.Proofs.YtcfcafeciggjeaaGreatDoor
set_option maxHeartbeats 400000
set_option linter.unusedVariables false
set_option linter.unusedSimpArgs false
set_option maxRecDepth 100000
open Go.ChangeShapes Go.WideShapes Go.ChangeAt Go.RowKit
variable {l m:List Int} {w:World}
def viF:Nat->Nat->List Int
 | 0,n=>[(n:Int)]
 | f+1,n=>if n<128 then [(n:Int)] else ((n % 128+128:Nat):Int)::viF f (n / 128)
def vi (n:Nat):List Int:=viF 9 n
def VQ (k:Nat) (v x:Int):Int:=bits .or .u64 v (IntKind.u64.wrap (x % 128*2 ^ (7*k)))
def rvF:Nat->Nat->Int->List Int->Option (Int × List Int)
 | 0,_,_,_=>none
 | _+1,_,_,[]=>none
 | f+1,k,a,c::t=>if c<128 then some (VQ k a c,t) else rvF f (k+1) (VQ k a c) t
def rv (m:List Int):Option (Int × List Int):=rvF 10 0 0 m

open Go.Proofs.Tryz
def aY (l:List Int):ByteArray:=l.foldl (fun r n=>r.push (UInt8.ofNat n.toNat)) ByteArray.empty
theorem vw (l:List Int) (s:ByteArray):(l.foldl (fun r n=>r.push (UInt8.ofNat n.toNat)) s).data.toList=s.data.toList++l.map (fun n=>UInt8.ofNat n.toNat):=by
 induction l generalizing s with
 | nil=>simp
 | cons b l ih=>rw [List.foldl_cons,ih];simp [ByteArray.push]
theorem map_inj (hl:bQ l) (hm:bQ m) (h:l.map (fun n=>UInt8.ofNat n.toNat)=m.map (fun n=>UInt8.ofNat n.toNat)):l=m:=by
 induction l generalizing m with
 | nil=>cases m with
  | nil=>rfl
  | cons b m=>simp at h
 | cons a l ih=>cases m with
  | nil=>simp at h
  | cons b m=>
   simp only [List.map_cons,List.cons.injEq] at h;obtain ⟨a0,a1⟩:=hl a (by simp);obtain ⟨b0,b1⟩:=hm b (by simp);have e:=congrArg UInt8.toNat h.1;simp at e;have e2:a=b:=by omega
   rw [e2,ih (fun z hz=>hl z (by simp [hz])) (fun z hz=>hm z (by simp [hz])) h.2]
theorem dE (l:List Int):(aY l).toList=l.map (fun n=>UInt8.ofNat n.toNat):=by
 rw [ByteArray.toList_eq,aY,vw];rfl
theorem xg (hl:bQ l) (hm:bQ m):((aY l).toList==(aY m).toList)=decide (l=m):=by
 rw [dE,dE];by_cases h:l=m;{simp [h]};{simp only [h,decide_false,beq_eq_false_iff_ne];exact fun e=>h (map_inj hl hm e)}
theorem eG {p:Option Addr} {c n:Nat} (en:l.length=n) (h:Rd w (.slice p n c) l) :
  (convert 22 9 (.slice p n c)).run prog w=.ok (.string (aY l)) w:=by
 subst en;rw [run_convert_bytes_string w 22 9 5 p l.length c underlying22 underlying5 underlying9];cases p with
 | none=>
  have e:=h.lr;subst e;simp [Conv.bytesToString,aY,Sem.run_pure]
 | some a=>
  obtain ⟨n1,n2,n3⟩:=h.news;have hl:=run_loadCells_list (P:=prog) w a (U l) (fun j v hj=>n2 j v hj);simp only [List.length_map] at hl;exact run_bytesToString w a l.length c l hl
theorem Rd.cut {b o n c:Nat} (h:Rd w (.slice (some ⟨b,o,none⟩) n c) l) (i j:Nat) (hi:i<=j) (hj:j<=l.length) (q:Option Addr) (hq:j=i\/q=some ⟨b,o+i,none⟩) (d:Nat) (m:List Int) (em:m=(l.take j).drop i):Rd w (.slice q (j-i) d) m:=by
 have hm:m.length=j-i:=by rw [em];simp;omega
 refine ⟨q,d,by rw [hm],?_⟩;rcases hq with rfl | rfl;{left;exact List.eq_nil_of_length_eq_zero (by omega)}
 {
 obtain ⟨p',c',e,h⟩:=h;simp only [Value.slice.injEq] at e;obtain ⟨e1,-,-⟩:=e;rcases h with rfl | ⟨b',o',e2,hc⟩;{left;exact List.eq_nil_of_length_eq_zero (by simp at hj;omega)}
 {
 right
 rw [e2] at e1;simp only [Option.some.injEq,Addr.mk.injEq] at e1;obtain ⟨rfl,rfl,-⟩:=e1;refine ⟨b,o+i,rfl,fun k hk=>?_⟩;have:=hc (i+k) (by omega);rw [Nat.add_assoc,this,em];simp [List.getD,List.getElem?_take,show i+k<j by omega]}}
theorem jX (p q:Option Addr) (c d n k:Nat) (l m:List Int) (el:Hid (l.length=n)) (em:Hid (m.length=k)) (w:World) (h1:Rd w (.slice p n c) l) (h2:Rd w (.slice q k d) m) (b1:bQ l) (b2:bQ m) :
  Calls prog 55 #[.slice p n c,.slice q k d] w fun e w'=>e=.returned (.bool (decide (l=m)))/\Below w.heap.size w w':=by
 have e1:=eG el h1;have e2:=eG em h2;have HE:=ae (xg b1 b2);clear h1 h2 b1 b2;go_enter func55,ntmps55;go_wp2;go_ret;exact ⟨by rw [aa HE];rfl,Below.refl _ _⟩
theorem dY (p:Option Addr) (c n:Nat) (l:List Int) (en:Hid (l.length=n)) (w:World) (h:Rd w (.slice p n c) l) (hl:n<=2097152) :
  Calls prog 126 #[.slice p n c] w fun e w'=>∃ p' c',e=.returned (.slice p' n c')/\Own w.heap.size w' (.slice p' n c') l/\Below w.heap.size w w':=by
 have e:=aa en;subst e;exact AO p c l w h hl
def rt (m:List Int):Option (List Int × List Int):=
 match rv m with
 | none=>none
 | some x=>if (x.2.length:Int)<x.1 then none else some (x.2.take x.1.toNat,x.2.drop x.1.toNat)
end Go.Proofs.YtcfcafeciggjeaaGreatDoor
