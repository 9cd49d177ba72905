import Derived.Test.YtpbppdeleijhkaaGreatDoorJ3
import Derived.Test.YtpbppdeleijhkaaGreatDoorVM0
import Derived.Lib.BytesEntry
import Derived.Laws.Externs
namespace Go.Proofs.YtpbppdeleijhkaaGreatDoor
open Go.ChangeShapes Go.WideShapes Go.ChangeAt Go.RowKit
set_option linter.unusedVariables false
set_option linter.unusedSimpArgs false
set_option maxRecDepth 100000

/-- what cmp.Compare answers -/
def cmpI (x y : Int) : Int := if x < y then -1 else if y < x then 1 else 0
theorem isNaN_any (x : Int) (w : World) : Calls Tryz.prog 180 #[.int .u64 x] w fun e w' => e = .returned (.bool false) ∧ w' = w := by
  go_enter Tryz.func180, Tryz.ntmps180
  go_wp2
  go_ret
  refine ⟨?_, rfl⟩
  simp

set_option maxHeartbeats 800000 in
theorem compareU_any (x y : Int) (w : World) : Calls Tryz.prog 153 #[.int .u64 x, .int .u64 y] w fun e w' => e = .returned (.int .i64 (cmpI x y)) ∧ w' = w := by
  obtain ⟨C, eC⟩ : ∃ C, cmpI x y = C := ⟨_, rfl⟩
  rw [eC]
  have EC := hide eC
  clear eC
  go_enter Tryz.func153, Tryz.ntmps153
  go_wp2_with fail
  refine (isNaN_any x w).mono ?_
  rintro e w1 ⟨rfl, rfl⟩
  go_wp2_with fail
  refine (isNaN_any y _).mono ?_
  rintro e w2 ⟨rfl, rfl⟩
  by_cases h1 : x < y
  · have e1 : C = -1 := by rw [← unhide EC]; rw [cmpI, if_pos h1]
    subst e1
    go_wp2
    go_ret
    exact ⟨rfl, rfl⟩
  · by_cases h2 : y < x
    · have e1 : C = 1 := by rw [← unhide EC]; rw [cmpI, if_neg h1, if_pos h2]
      subst e1
      go_wp2
      go_ret
      exact ⟨rfl, rfl⟩
    · have e1 : C = 0 := by rw [← unhide EC]; rw [cmpI, if_neg h1, if_neg h2]
      subst e1
      go_wp2
      go_ret
      exact ⟨rfl, rfl⟩

theorem run_bytesOf {w : World} {p : Option Addr} {c : Nat} {l : List Int} (h : Rd w (.slice p l.length c) l) : (Extern.Bytes.bytesOf (.slice p l.length c)).run Tryz.prog w = .ok ⟨(Lib.bytesOf l).toArray⟩ w := by
  cases p with
  | none =>
    have e := h.none_nil
    subst e
    simp only [Extern.Bytes.bytesOf, Sem.run_pure]
    rfl
  | some a =>
    obtain ⟨n1, n2, n3⟩ := h.news
    have := Lib.run_loadBytesX (P := Tryz.prog) w l a .empty (fun j x hj => n2 j _ (by rw [List.getElem?_map, hj]; rfl))
    simp only [Extern.Bytes.bytesOf]
    rw [this]
    congr 1
    apply ByteArray.ext
    simp
theorem run_cmpB {w : World} {p q : Option Addr} {c d : Nat} {l m : List Int} (h : Rd w (.slice p l.length c) l) (k : Rd w (.slice q m.length d) m) :
    (Extern.BytealgCompare.compare #[.slice p l.length c, .slice q m.length d]).run Tryz.prog w = .ok (.int .i64 (Lib.compareBytes (Lib.bytesOf l) (Lib.bytesOf m))) w := by
  change Sem.run Tryz.prog (do pure (goInt (Extern.BytealgCompare.cmp (← Extern.Bytes.bytesOf (.slice p l.length c)) (← Extern.Bytes.bytesOf (.slice q m.length d))))) w = _
  simp only [Sem.run_bind, run_bytesOf h, run_bytesOf k, Sem.run_pure, Result.andThen]
  rw [Lib.cmp_eq]
  rfl
/-- what bytes.Compare answers -/
def cmpB (l m : List Int) : Int := Lib.compareBytes (Lib.bytesOf l) (Lib.bytesOf m)
theorem cmp_less : ∀ (a b : List UInt8), (0 ≤ Lib.compareBytes a b) = (Op.bytesLess b a = true ∨ b = a)
  | [], [] => by simp [Lib.compareBytes]
  | [], _ :: _ => by simp [Lib.compareBytes, Op.bytesLess]
  | _ :: _, [] => by simp [Lib.compareBytes, Op.bytesLess]
  | x :: a, y :: b => by
    have ih := cmp_less a b
    rw [Lib.compareBytes, Op.bytesLess]
    by_cases h1 : x < y
    · have h2 : ¬ y < x := fun h => UInt8.lt_irrefl _ (UInt8.lt_trans h1 h)
      have h3 : ¬ y = x := fun h => by subst h; exact UInt8.lt_irrefl _ h1
      simp [h1, h2, h3]
    · by_cases h2 : y < x
      · simp [h1, h2]
      · have h3 : y = x := UInt8.le_antisymm (UInt8.not_lt.1 h1) (UInt8.not_lt.1 h2)
        subst h3
        simp only [h1, if_false, ih]
        simp
theorem cmpB_le (l m : List Int) : decide (0 ≤ cmpB l m) = leB m l := by
  rw [leB, bstr_list, bstr_list, Bool.eq_iff_iff, decide_eq_true_iff, cmpB, cmp_less]
  simp only [Bool.or_eq_true, beq_iff_eq]
  exact Iff.rfl

set_option maxHeartbeats 800000 in
theorem compareB_any (p q : Option Addr) (c d n k : Nat) (l m : List Int) (el : Hid (l.length = n)) (em : Hid (m.length = k)) (w : World) (h1 : Rd w (.slice p n c) l) (h2 : Rd w (.slice q k d) m) :
    Calls Tryz.prog 157 #[.slice p n c, .slice q k d] w fun e w' => e = .returned (.int .i64 (cmpB l m)) ∧ w' = w := by
  have e1 := unhide el
  have e2 := unhide em
  subst e1 e2
  go_enter Tryz.func157, Tryz.ntmps157
  go_wp2
  rw [run_callFunc_extern Tryz.func184 (by kernel_rfl) (by kernel_rfl) (by kernel_rfl) (e := Extern.BytealgCompare.compare) (by kernel_rfl), run_cmpB h1 h2]
  simp only [Result.andThen]
  rw [Oper.upon_value]
  go_wp2
  go_ret
  exact ⟨rfl, rfl⟩

theorem step_callv2 {P : Program} {w : World} {ops : Array Oper} {o : Oper} {a : Act} {K : Act → World → Prop} {Q : Exit → Act → World → Prop} {E : Prop} {R : Ending → World → Prop} (hgd : o.guard = none) (f : FuncId) (x0 x1 x2 : Operand) (tys : Array TypeId)
    (ho : o.op = .call { callee := .value x0, args := #[x1, x2], argTypes := tys }) (v1 v2 : Value) (h0 : a.eval x0 = .func (.func f) #[] #[]) (h1 : a.eval x1 = v1) (h2 : a.eval x2 = v2) (hcf : ∀ vs, (callFunc f vs).run P w = .ok (.enter f vs) w) (hc : Calls P f #[v1, v2] w R) (hR : ∀ e w', R e w' → ∃ v, e = .returned v ∧ K (a.put o.dst v) w') :
    if Region.wanted o (yielded ops a.tmps) = true then Oper.wp P o a w K Q else E := by
  have hw : Region.wanted o (yielded ops a.tmps) = true := by simp [Region.wanted, hgd]
  rw [if_pos hw]
  have hrun : (execOp a.eval o).run P w = .ok (.enter f #[v1, v2]) w := by
    subst h1 h2
    unfold execOp
    simp [ho, resolve, invoke, hcf, h0, Deferred.ofValue, Sem.run_bind, Sem.run_pure, Result.andThen]
  show o.upon P a K Q _
  rw [hrun, Oper.upon_enter]
  refine hc.mono ?_
  intro e w' h
  obtain ⟨v, rfl, hk⟩ := hR e w' h
  exact hk
end Go.Proofs.YtpbppdeleijhkaaGreatDoor
