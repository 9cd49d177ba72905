import Derived.Test.YtnbgnhhnpmmloaaGreatDoorProg
import Derived.Ground.SlbSplitProg
import Derived.Shelf.Bytes.SlSplit
import Derived.KernelRfl
import Derived.Test.YtnbgnhhnpmmloaaGreatDoorK0
import Derived.Test.YtnbgnhhnpmmloaaGreatDoorK1
namespace Go.Proofs
open Go.Shelf Go.Lib
def Tryz.layS7_ren : Ren :=
  { f := fun x => match x with | 7 => 178 | 11 => 195 | 14 => 203 | 15 => 204 | 16 => 205 | 17 => 226 | 19 => 227 | 20 => 228 | 21 => 229 | 22 => 41 | 23 => 230 | 24 => 231 | 25 => 232 | 26 => 242 | 29 => 243 | 30 => 244 | 31 => 245 | n => n,
    t := fun x => match x with | 22 => 22 | 23 => 126 | 3 => 3 | 4 => 4 | 0 => 0 | 34 => 245 | 21 => 21 | 5 => 5 | 45 => 105 | 9 => 9 | 58 => 258 | 38 => 144 | 28 => 263 | 62 => 266 | 61 => 265 | n => n,
    g := fun x => match x with | 2 => 1 | 3 => 2 | 4 => 3 | n => n }
theorem Tryz.layS7 : SlLaysP.n7 Tryz.prog Tryz.layS7_ren :=
  { mixed := Eq.refl true
    f7 := Eq.trans Tryz.func178 (congrArg some (Eq.refl (SlBodyP.n7 Tryz.layS7_ren)))
    f11 := Eq.trans Tryz.func195 (congrArg some (Eq.refl (SlBodyP.n11 Tryz.layS7_ren)))
    f15 := Eq.trans Tryz.func204 (congrArg some (Eq.refl (SlBodyP.n15 Tryz.layS7_ren)))
    f16 := Eq.trans Tryz.func205 (congrArg some (Eq.refl (SlBodyP.n16 Tryz.layS7_ren)))
    f20 := Eq.trans Tryz.func228 (congrArg some (Eq.refl (SlBodyP.n20 Tryz.layS7_ren)))
    f21 := Eq.trans Tryz.func229 (congrArg some (Eq.refl (SlBodyP.n21 Tryz.layS7_ren)))
    f22 := Eq.trans Tryz.func41 (congrArg some (Eq.refl (SlBodyP.n22 Tryz.layS7_ren)))
    f23 := Eq.trans Tryz.func230 (congrArg some (Eq.refl (SlBodyP.n23 Tryz.layS7_ren)))
    f24 := Eq.trans Tryz.func231 (congrArg some (Eq.refl (SlBodyP.n24 Tryz.layS7_ren)))
    f25 := Eq.trans Tryz.func232 (congrArg some (Eq.refl (SlBodyP.n25 Tryz.layS7_ren)))
    f30 := Eq.trans Tryz.func244 (congrArg some (Eq.refl (SlBodyP.n30 Tryz.layS7_ren)))
    f31 := Eq.trans Tryz.func245 (congrArg some (Eq.refl (SlBodyP.n31 Tryz.layS7_ren)))
    t0 := Tryz.underlying0
    a0 := Tryz.isAgg0
    z0 := Tryz.sizeOf0
    v0 := Tryz.zeroValue0
    t3 := Tryz.underlying3
    a3 := Tryz.isAgg3
    z3 := Tryz.sizeOf3
    v3 := Tryz.zeroValue3
    t4 := Tryz.underlying4
    a4 := Tryz.isAgg4
    z4 := Tryz.sizeOf4
    v4 := Tryz.zeroValue4
    t5 := Tryz.underlying5
    a5 := Tryz.isAgg5
    z5 := Tryz.sizeOf5
    v5 := Tryz.zeroValue5
    t9 := Tryz.underlying9
    a9 := Tryz.isAgg9
    z9 := Tryz.sizeOf9
    v9 := Tryz.zeroValue9
    t22 := Tryz.underlying22
    a22 := Tryz.isAgg22
    z22 := Tryz.sizeOf22
    v22 := Tryz.zeroValue22
    t23 := Tryz.underlying126
    a23 := Tryz.isAgg126
    z23 := Tryz.sizeOf126
    v23 := Tryz.zeroValue126
    t38 := Tryz.underlying144
    a38 := Tryz.isAgg144
    z38 := Tryz.sizeOf144
    v38 := Tryz.zeroValue144
    t45 := Tryz.underlying105
    a45 := Tryz.isAgg105
    z45 := Tryz.sizeOf105
    v45 := Tryz.zeroValue105
    t58 := Tryz.underlying258
    a58 := Tryz.isAgg258
    z58 := Tryz.sizeOf258
    v58 := Tryz.zeroValue258
    g2 := by kernel_rfl
    i22 := by kernel_rfl }
end Go.Proofs
namespace Go.Proofs.YtnbgnhhnpmmloaaGreatDoor
open Go.ChangeShapes Go.WideShapes Go.ChangeAt Go.RowKit
set_option linter.unusedVariables false
set_option linter.unusedSimpArgs false
def Btw (lo hi : Nat) (v : Value) : Prop := ∀ b, v.ownBlock = some b → lo ≤ b ∧ b < hi
theorem Own.apart {B a b c d : Nat} {w w' : World} {u v : Value} {l : List Int} (h : Own B w v l) (hg : w.grownBy w' u.ownBlock) (hu : Btw a b u) (hv : Btw c d v) (hd : b ≤ c ∨ d ≤ a) : Own B w' v l := by
 refine Own.keptBy (vs := [u]) h (Kept.of_grown hg (by simp)) ?_
 intro x hx k e1 e2
 simp only [List.mem_singleton] at hx
 subst hx
 have := hu k e2
 have := hv k e1
 omega
theorem Rd.apart {a b c d : Nat} {w w' : World} {u v : Value} {l : List Int} (h : Rd w v l) (hg : w.grownBy w' u.ownBlock) (hu : Btw a b u) (hv : Btw c d v) (hd : b ≤ c ∨ d ≤ a) : Rd w' v l := by
 refine Rd.frame h hg ?_
 intro k e1 e2
 have := hu k e2
 have := hv k e1
 omega
abbrev At2 (w : World) (b : Nat) (v0 v1 : Value) : Prop := w.cell? ⟨b, 0, none⟩ = some v0 ∧ w.cell? ⟨b, 1, none⟩ = some v1
theorem At2.below {w w' : World} {b : Nat} {v0 v1 : Value} (h : At2 w b v0 v1) (hb : Below w.heap.size w w') : At2 w' b v0 v1 := ⟨cell_below h.1 hb, cell_below h.2 hb⟩
theorem At2.kept {u : Value} {w w' : World} {b lo hi : Nat} {v0 v1 : Value} (h : At2 w b v0 v1) (hk : Kept [u] w w') (hb : b < w.heap.size) (hu : Btw lo hi u) (hd : b < lo ∨ hi ≤ b) : At2 w' b v0 v1 := by
 have e := hk.cellAt hb (fun v hv e => by simp only [List.mem_singleton] at hv; subst hv; have := hu _ e; omega)
 exact ⟨(e 0).trans h.1, (e 1).trans h.2⟩
theorem Own.cap {B : Nat} {w : World} {p : Option Addr} {c n : Nat} {l : List Int} (h : Own B w (.slice p n c) l) : n ≤ c := by
 rcases h.2 with ⟨e, h0⟩ | ⟨g, cap, cur, e, _, _, hc, _⟩
 ·simp only [Value.slice.injEq] at e; omega
 ·simp only [Value.slice.injEq] at e; omega
theorem Own.capMax {B : Nat} {w : World} {p : Option Addr} {c n : Nat} {l : List Int} (h : Own B w (.slice p n c) l) : c ≤ maxLen := by
 rcases h.2 with ⟨e, h0⟩ | ⟨g, cap, cur, e, _, _, hc, hm, _⟩
 ·simp only [Value.slice.injEq] at e; omega
 ·simp only [Value.slice.injEq] at e; omega
theorem markByteS_n (B : Nat) (p : Option Addr) (c n : Nat) (l : List Int) (en : Hid (l.length = n)) (k : Int) (w : World) (h : Own B w (.slice p n c) l) (hl : n ≤ 2097152) (k0 : 0 ≤ k) (k1 : k ≤ 100000000) :
  Calls Tryz.prog 11 #[.slice p n c, .int .i64 k] w fun e w' => e = .returned (.int .i64 (k + n)) ∧ Own B w' (.slice p n c) (marks k n) ∧ w.grownBy w' (Value.ownBlock (.slice p n c)) := by
 have e := uh en
 subst e
 exact markByteS_any B p c l k w h hl k0 k1
theorem toByteS_n (p : Option Addr) (c n : Nat) (l : List Int) (en : Hid (l.length = n)) (w : World) (h : Rd w (.slice p n c) l) (hl : n ≤ 1048576) :
  Calls Tryz.prog 7 #[.slice p n c] w fun e w' => ∃ p' c', e = .returned (.slice p' n c') ∧ Own w.heap.size w' (.slice p' n c') l ∧ Below w.heap.size w w' := by
 have e := uh en
 subst e
 exact toByteS_any _ l w h hl
theorem eqByteS_n (p q : Option Addr) (c d n : Nat) (l : List Int) (en : Hid (l.length = n)) (w : World) (h1 : Rd w (.slice p n c) l) (h2 : Rd w (.slice q n d) l) (hl : n ≤ 2097152) :
  Calls Tryz.prog 10 #[.slice p n c, .slice q n d] w fun e w' => e = .returned (.bool true) ∧ Below w.heap.size w w' := by
 have e := uh en
 subst e
 refine (eqByteS_any _ _ l l w h1 h2 hl hl).mono ?_
 rintro e w' ⟨rfl, hb⟩
 exact ⟨by simp, hb⟩
theorem step_call1 {P : Program} {w : World} {ops : Array Oper} {o : Oper} {a : Act} {K : Act → World → Prop} {Q : Exit → Act → World → Prop} {E : Prop} {R : Ending → World → Prop} (hgd : o.guard = none) (f : FuncId) (x1 : Operand) (tys : Array TypeId)
  (ho : o.op = .call { callee := .value (.func f), args := #[x1], argTypes := tys }) (v1 : Value) (h1 : a.eval x1 = v1) (hcf : ∀ vs, (callFunc f vs).run P w = .ok (.enter f vs) w) (hc : Calls P f #[v1] w R) (hR : ∀ e w', R e w' → ∃ v, e = .returned v ∧ K (a.put o.dst v) w') :
  if Region.wanted o (yielded ops a.tmps) = true then Oper.wp P o a w K Q else E := by
 have hw : Region.wanted o (yielded ops a.tmps) = true := by simp [Region.wanted, hgd]
 rw [if_pos hw]
 have hrun : (execOp a.eval o).run P w = .ok (.enter f #[v1]) w := by
  subst h1
  unfold execOp
  simp [go_sem, ho, resolve, invoke, hcf]
 show o.upon P a K Q _
 rw [hrun, Oper.upon_enter]
 refine hc.mono ?_
 intro e w' h
 obtain ⟨v, rfl, hk⟩ := hR e w' h
 exact hk
theorem step_call2 {P : Program} {w : World} {ops : Array Oper} {o : Oper} {a : Act} {K : Act → World → Prop} {Q : Exit → Act → World → Prop} {E : Prop} {R : Ending → World → Prop} (hgd : o.guard = none) (f : FuncId) (x1 x2 : Operand) (tys : Array TypeId)
  (ho : o.op = .call { callee := .value (.func f), args := #[x1, x2], argTypes := tys }) (v1 v2 : Value) (h1 : a.eval x1 = v1) (h2 : a.eval x2 = v2) (hcf : ∀ vs, (callFunc f vs).run P w = .ok (.enter f vs) w) (hc : Calls P f #[v1, v2] w R) (hR : ∀ e w', R e w' → ∃ v, e = .returned v ∧ K (a.put o.dst v) w') :
  if Region.wanted o (yielded ops a.tmps) = true then Oper.wp P o a w K Q else E := by
 have hw : Region.wanted o (yielded ops a.tmps) = true := by simp [Region.wanted, hgd]
 rw [if_pos hw]
 have hrun : (execOp a.eval o).run P w = .ok (.enter f #[v1, v2]) w := by
  subst h1 h2
  unfold execOp
  simp [go_sem, ho, resolve, invoke, hcf]
 show o.upon P a K Q _
 rw [hrun, Oper.upon_enter]
 refine hc.mono ?_
 intro e w' h
 obtain ⟨v, rfl, hk⟩ := hR e w' h
 exact hk
end Go.Proofs.YtnbgnhhnpmmloaaGreatDoor
namespace Go.Proofs.YtnbgnhhnpmmloaaGreatDoor
open Go.ChangeShapes Go.WideShapes Go.ChangeAt Go.RowKit
set_option linter.unusedVariables false
set_option linter.unusedSimpArgs false
set_option maxRecDepth 100000
theorem Rd.at {w : World} {p : Option Addr} {n c : Nat} {l : List Int} (h : Rd w (.slice p n c) l) (hl : 0 < l.length) : ∃ b o, p = some ⟨b, o, none⟩ ∧ n = l.length ∧ ∀ i, i < l.length → w.cell? ⟨b, o + i, none⟩ = some (.int .u8 (l.getD i 0)) := by
 obtain ⟨p', c', e, h⟩ := h
 simp only [Value.slice.injEq] at e
 obtain ⟨rfl, rfl, -⟩ := e
 rcases h with rfl | ⟨b, o, e2, hc⟩
 ·simp at hl
 ·exact ⟨b, o, e2, rfl, hc⟩
theorem nm_cases (c : Int) : (97 ≤ c ∧ c ≤ 122 ∧ nmB c = true) ∨ (122 < c ∧ nmB c = false) ∨ (48 ≤ c ∧ c ≤ 57 ∧ nmB c = true) ∨ (c = 95 ∧ nmB c = true) ∨ (57 < c ∧ c < 97 ∧ ¬ c = 95 ∧ nmB c = false) ∨ (c = 45 ∧ nmB c = true) ∨ (c < 48 ∧ ¬ c = 45 ∧ nmB c = false) := by
 unfold nmB
 by_cases h1 : 97 ≤ c <;> by_cases h2 : c ≤ 122 <;> by_cases h3 : 48 ≤ c <;> by_cases h4 : c ≤ 57 <;> by_cases h5 : c = 45 <;> by_cases h6 : c = 95 <;> simp [h1, h2, h3, h4, h5, h6] <;> omega
set_option maxHeartbeats 800000 in
theorem l3nameByte_any (c : Int) (w : World) :
  Calls Tryz.prog 177 #[.int .u8 c] w fun e w' => e = .returned (.bool (nmB c)) ∧ w' = w := by
 rcases nm_cases c with ⟨h1, h2, hb⟩ | ⟨h2, hb⟩ | ⟨h3, h4, hb⟩ | ⟨rfl, hb⟩ | ⟨h4, h1, h6, hb⟩ | ⟨rfl, hb⟩ | ⟨h3, h5, hb⟩
 ·rw [hb]
  go_enter Tryz.func177, Tryz.ntmps177
  go_wp2
  go_ret
  exact ⟨rfl, rfl⟩
 ·rw [hb]
  have h1 : (97 : Int) ≤ c := by omega
  have h3 : (48 : Int) ≤ c := by omega
  have h2' : ¬ c ≤ 122 := by omega
  have h4 : ¬ c ≤ 57 := by omega
  have h5 : ¬ c = 45 := by omega
  have h6 : ¬ c = 95 := by omega
  go_enter Tryz.func177, Tryz.ntmps177
  go_wp2
  go_ret
  exact ⟨by simp [h5, h6], rfl⟩
 ·rw [hb]
  have h1 : ¬ (97 : Int) ≤ c := by omega
  go_enter Tryz.func177, Tryz.ntmps177
  go_wp2
  go_ret
  exact ⟨rfl, rfl⟩
 ·rw [hb]
  go_enter Tryz.func177, Tryz.ntmps177
  go_wp2
  go_ret
  exact ⟨rfl, rfl⟩
 ·rw [hb]
  have h1 : ¬ (97 : Int) ≤ c := by omega
  have h3 : (48 : Int) ≤ c := by omega
  have h4 : ¬ c ≤ 57 := by omega
  have h5 : ¬ c = 45 := by omega
  go_enter Tryz.func177, Tryz.ntmps177
  go_wp2
  go_ret
  exact ⟨by simp [h5, h6], rfl⟩
 ·rw [hb]
  go_enter Tryz.func177, Tryz.ntmps177
  go_wp2
  go_ret
  exact ⟨rfl, rfl⟩
 ·rw [hb]
  have h1 : ¬ (97 : Int) ≤ c := by omega
  have h3' : ¬ (48 : Int) ≤ c := by omega
  have h6 : ¬ c = 95 := by omega
  go_enter Tryz.func177, Tryz.ntmps177
  go_wp2
  go_ret
  exact ⟨by simp [h5, h6], rfl⟩
theorem Tryz.infoSl : (Tryz.prog.info? 22).map (fun i => (i.zero, i.size, i.bytes)) = some (some (.slice none 0 0), 1, 24) := by kernel_rfl
def OwnV (B : Nat) (w : World) (v : Value) (n : Nat) (vs : List Value) : Prop := w.ownsRow B 22 1 v n vs
theorem OwnV.nil (B : Nat) (w : World) : OwnV B w (.slice none 0 0) 0 [] := World.ownsRow_nil _ _ _ _
theorem OwnV.form {B : Nat} {w : World} {v : Value} {n : Nat} {vs : List Value} (h : OwnV B w v n vs) : ∃ p c, v = .slice p n c := by
 rcases h.2 with ⟨rfl, h0⟩ | ⟨g, cap, cur, rfl, _⟩
 ·exact ⟨none, 0, by rw [h0]⟩
 ·exact ⟨_, _, rfl⟩
theorem OwnV.below {B : Nat} {w w' : World} {v : Value} {n : Nat} {vs : List Value} (h : OwnV B w v n vs) (hb : Below w.heap.size w w') : OwnV B w' v n vs :=
 World.ownsRow.kept h (row := none) ⟨hb.os, hb.tape, hb.output, hb.size, fun k hk _ => hb.block k hk⟩ (by cases hv : v.ownBlock <;> simp)
theorem wpList_appendV {w : World} {ops : Array Oper} {rest : List Oper} {o : Oper} {a : Act} {Q : Exit → Act → World → Prop} (hgd : o.guard = none) (s x : Operand)
  (ho : o.op = .call { callee := .builtin .append, args := #[s, x], argTypes := #[126, 126] })
  (B : Nat) (v : Value) (n : Nat) (vs : List Value) (g : Nat) (hs : a.eval s = v) (hx : a.eval x = .slice (some ⟨g, 0, none⟩) 1 1) (h : OwnV B w v n vs) (pu : Option Addr) (nu cu : Nat) (hc : w.cell? ⟨g, 0, none⟩ = some (.slice pu nu cu))
  (hl : n ≤ 2097152) (hB : B ≤ w.heap.size)
  (hK : ∀ p' c' w', OwnV B w' (.slice p' (n + 1) c') (n + 1) (vs ++ [.slice pu nu cu]) → w.grownBy w' v.ownBlock → wpList Tryz.prog ops Q rest (a.put o.dst (.slice p' (n + 1) c')) w') : wpList Tryz.prog ops Q (o :: rest) a w := by
 obtain ⟨i, hi, hz0, hz1, hz2⟩ := info_parts Tryz.infoSl
 refine wpList_append_own w hgd s x 126 ho B 22 i _ 1 24 Tryz.underlying126 hi hz0 hz1 hz2 rfl (by decide) v _ _ hs h ⟨g, 0, none⟩ 1 1 [.slice pu nu cu] hx rfl ?_ ?_ (by unfold maxLen; omega) (by omega) hB ?_
 ·intro j u hu
  have e : j = 0 := by
   have := (List.getElem?_eq_some_iff.1 hu).1
   simpa using this
  subst e
  simp at hu
  subst hu
  exact hc
 ·intro u hu
  simp at hu
  subst hu
  rfl
 ·intro v' w' h1 h2 _
  have h3 : OwnV B w' v' (n + 1) (vs ++ [.slice pu nu cu]) := h1
  obtain ⟨p', c', rfl⟩ := h3.form
  exact hK p' c' w' h3 h2
theorem drop_cons {l : List Int} {a : Nat} (h : a < l.length) : l.drop a = l.getD a 0 :: l.drop (a + 1) := by
 rw [List.drop_eq_getElem_cons h]
 simp [List.getD, h]
theorem st_read {l : List Int} {a j k : Nat} {b : Bool} (h0 : st k (l.drop a) = b) (ha : a < l.length) (h47 : l.getD a 0 = 47) (hnm : ∀ x ∈ (l.drop (a + 1)).take j, nmB x = true) (hj : a + 1 + j ≤ l.length) (hend : a + 1 + j = l.length ∨ l.getD (a + 1 + j) 0 = 47) :
  b = (nmOK ((l.drop (a + 1)).take j) && st (k + 1) (l.drop (a + 1 + j))) := by
 rw [← h0, drop_cons ha, h47]
 have e : l.drop (a + 1) = (l.drop (a + 1)).take j ++ l.drop (a + 1 + j) := by
  have e := (List.take_append_drop j (l.drop (a + 1))).symm
  rw [List.drop_drop] at e
  exact e
 by_cases hl : a + 1 + j = l.length
 ·have e0 : l.drop (a + 1 + j) = [] := List.drop_eq_nil_of_le (by omega)
  rw [e0, List.append_nil] at e
  rw [e0]
  conv => lhs; rw [e]
  exact st_end hnm
 ·rcases hend with h | h
  ·exact absurd h hl
  ·have e1 := drop_cons (l := l) (a := a + 1 + j) (by omega)
   rw [h] at e1
   rw [e1] at e ⊢
   conv => lhs; rw [e]
   exact st_next hnm
theorem st_wrong {l : List Int} {a j k : Nat} {b : Bool} (h0 : st k (l.drop a) = b) (ha : a < l.length) (h47 : l.getD a 0 = 47) (hnm : ∀ x ∈ (l.drop (a + 1)).take j, nmB x = true) (hj : a + 1 + j < l.length) (hn : ¬ l.getD (a + 1 + j) 0 = 47) (hb : nmB (l.getD (a + 1 + j) 0) = false) : b = false := by
 rw [← h0, drop_cons ha, h47]
 have e : l.drop (a + 1) = (l.drop (a + 1)).take j ++ l.drop (a + 1 + j) := by
  have e := (List.take_append_drop j (l.drop (a + 1))).symm
  rw [List.drop_drop] at e
  exact e
 rw [drop_cons hj] at e
 rw [e]
 exact st_bad hnm hn hb
set_option maxHeartbeats 4000000 in
theorem l3names_any (p : Option Addr) (c n : Nat) (l : List Int) (en : Hid (l.length = n)) (w : World) (h : Rd w (.slice p n c) l) (hb : Byt l) (hl : n ≤ 1048576) (B : Bool) (eB : Hid (vp l = B)) :
  Calls Tryz.prog 150 #[.slice p n c] w fun e w' => (∃ v, e = .returned (.tuple #[v, .bool B])) ∧ Below w.heap.size w w' := by
 have HR := hide h
 have HB := hide hb
 clear h hb
 go_enter Tryz.func150, Tryz.ntmps150
 go_wp2
 go_loopw [4, 5] (fun ov i wr => ∃ (a k : Nat) (pv : Option Addr) (cv : Nat) (vs : List Value), a ≤ n ∧ i = .int .i64 a ∧ ov = .slice pv k cv ∧ k ≤ a ∧ Hid (st k (l.drop a) = B) ∧ OwnV w.heap.size wr (.slice pv k cv) k vs ∧ Below w.heap.size w wr) (fun _ i _ => n - (intOf i).toNat)
 case atStart => exact ⟨0, 0, none, 0, [], Nat.zero_le _, rfl, rfl, Nat.le_refl _, (by show _ = _; exact uh eB), OwnV.nil _ _, Below.refl _ _⟩
 case round =>
  obtain ⟨a, k, pv, cv, vs, ha, rfl, rfl, hka, hst, ho, hbr⟩ := hrel
  have hzr := hbr.size
  by_cases hlt : a < n
  ·have hlt' : (a : Int) < (n : Int) := by omega
   obtain ⟨b, o, rfl, -, hc⟩ := (uh HR).at (by rw [uh en]; omega)
   have hcell : ∀ (i : Nat) (w' : World), i < n → Below w.heap.size w w' → w'.cell? ⟨b, o + i, none⟩ = some (.int .u8 (l.getD i 0)) := fun i w' hi hb' => (hb'.cell (p := ⟨b, o + i, none⟩) (World.block_lt_of_cell? w _ (hc i (by rw [uh en]; exact hi)))).trans (hc i (by rw [uh en]; exact hi))
   have HC := hide hcell
   have hca := hcell a wr hlt hbr
   clear hc hcell
   obtain ⟨x, ex⟩ : ∃ x, l.getD a 0 = x := ⟨_, rfl⟩
   rw [ex] at hca
   have EX := hide ex
   clear ex
   by_cases h47 : x = 47
   ·subst h47
    go_wp2_with fail
    go_loopw [5, 6] (fun i nv w2 => ∃ (t j : Nat) (pn : Option Addr) (cn : Nat) (nm : List Int), Hid (t = a + 1 + j) ∧ t ≤ n ∧ a < t ∧ j < t ∧ i = .int .i64 t ∧ nv = .slice pn j cn ∧ Hid (nm = (l.drop (a + 1)).take j) ∧ Hid (nm.length = j) ∧ Hid (∀ y ∈ nm, nmB y = true) ∧ Own wr.heap.size w2 (.slice pn j cn) nm ∧ Below wr.heap.size wr w2) (fun i _ _ => n - (intOf i).toNat)
    case atStart => exact ⟨a + 1, 0, none, 0, [], rfl, by omega, by omega, by omega, by go_num, rfl, rfl, rfl, (by intro y hy; simp at hy), World.ownsRow_nil _ _ _ _, Below.refl _ _⟩
    case round =>
     obtain ⟨t, j, pn, cn, nm, ht, htn, hat, hjt, rfl, rfl, enm, elj, hnm, hon, hb2⟩ := hrel
     have hz2 := hb2.size
     have bb2 := Below.step hbr hb2
     have ho2 := ho.below hb2
     have hend : (t = n ∨ l.getD t 0 = 47) → B = (nmOK nm && st (k + 1) (l.drop t)) := fun he => by
      have := st_read (j := j) (uh hst) (by rw [uh en]; exact hlt) (uh EX) (by rw [← uh enm]; exact uh hnm) (by rw [uh en, ← uh ht]; exact htn) (by rw [uh en, ← uh ht]; exact he)
      rw [← uh enm, ← uh ht] at this
      exact this
     have hok : (1 ≤ j ∧ j ≤ 16 → nmOK nm = true) ∧ (¬ (1 ≤ j ∧ j ≤ 16) → nmOK nm = false) := by
      have ha : nm.all nmB = true := List.all_eq_true.2 (uh hnm)
      rw [nmOK, uh elj, ha]
      constructor
      ·rintro ⟨h1, h2⟩; simp [h1, h2]
      ·intro h; simp; omega
     have HE := hide hend
     have HK := hide hok
     clear hend hok
     by_cases hin : t < n
     ·have hin' : (t : Int) < (n : Int) := by omega
      have hct := uh HC t wr hin bb2
      obtain ⟨z, ez⟩ : ∃ z, l.getD t 0 = z := ⟨_, rfl⟩
      rw [ez] at hct
      have EZ := hide ez
      clear ez
      by_cases hz47 : z = 47
      ·subst hz47
       have he := uh HE (.inr (uh EZ))
       by_cases hj1 : 1 ≤ j
       ·have hj1' : ¬ (j : Int) < 1 := by omega
        by_cases hj16 : j ≤ 16
        ·have hj16' : ¬ (16 : Int) < (j : Int) := by omega
         rw [(uh HK).1 ⟨hj1, hj16⟩, Bool.true_and] at he
         have HE2 := hide he.symm
         clear he hca
         go_wp2_with (at_builtin; refine wpList_appendV rfl _ _ rfl w.heap.size (.slice pv k cv) k vs wr.heap.size rfl rfl (ho2.below ((Below.refl _ _).alloc (Nat.le_refl _) _)) pn j cn (by simp) (by omega) (by simp; omega) ?_)
         intro p' c' w3 ho3 hg3
         have b3 : Below w.heap.size w w3 := (bb2.alloc bb2.size _).grown hg3 (by simp; omega) (fun k hk => (World.ownsRow.lt ho2 k hk).1)
         clear hg3
         go_wp2
         go_roundw
         case rel => exact ⟨t, k + 1, p', c', _, htn, by go_num, rfl, by omega, HE2, ho3, b3⟩
         case measure => simp [intOf]; omega
        ·have hj16' : (16 : Int) < (j : Int) := by omega
         rw [(uh HK).2 (by omega), Bool.false_and] at he
         subst he
         go_wp2
         go_ret2
         exact ⟨⟨_, rfl⟩, bb2⟩
       ·have hj1' : (j : Int) < 1 := by omega
        rw [(uh HK).2 (by omega), Bool.false_and] at he
        subst he
        go_wp2
        go_ret2
        exact ⟨⟨_, rfl⟩, bb2⟩
      ·have hz' : (z == 47) = false := by simp [hz47]
       have hz'' : (z != 47) = true := by simp [hz47]
       go_wp2_with fail
       refine (l3nameByte_any z _).mono ?_
       rintro e w3 ⟨rfl, rfl⟩
       by_cases hzb : nmB z = true
       ·rw [hzb]
        have enm2 : Hid (nm ++ [z] = (l.drop (a + 1)).take (j + 1)) := by
         show _ = _
         have e1 : (l.drop (a + 1))[j]? = some z := by
          rw [List.getElem?_drop, ← uh ht, ← uh EZ]
          simp [List.getD, uh en, hin]
         rw [List.take_add_one, e1, uh enm]
         rfl
        have elj2 : Hid ((nm ++ [z]).length = j + 1) := by show _ = _; rw [List.length_append, uh elj]; rfl
        have hnm2 : Hid (∀ y ∈ nm ++ [z], nmB y = true) := by
         intro y hy
         rcases List.mem_append.1 hy with h | h
         ·exact uh hnm y h
         ·simp at h; rw [h]; exact hzb
        have ht2 : Hid (t + 1 = a + 1 + (j + 1)) := by show _ = _; have := uh ht; omega
        obtain ⟨nm2, enm0⟩ : ∃ nm2, nm2 = nm ++ [z] := ⟨_, rfl⟩
        rw [← enm0] at enm2 elj2 hnm2
        have elm := hide enm0
        clear enm0 ho2
        go_wp2_with (at_builtin; refine wpList_append_byte rfl _ _ rfl _ (.slice pn j cn) nm nm2 z elm w3.heap.size rfl rfl (Own.below hon ((Below.refl _ _).alloc (Nat.le_refl _) _)) (by simp) (by rw [uh elj]; omega) (by simp; omega) ?_)
        intro p' c' w4 ho4 hg4
        have b4 := (hb2.alloc hb2.size _).grown hg4 (by simp; omega) (fun k hk => (hon.lt k hk).1)
        rw [uh elj2] at ho4 ⊢
        clear hg4
        go_wp2
        go_roundw
        case rel => exact ⟨t + 1, j + 1, p', c', nm2, ht2, by omega, by omega, by omega, by go_num, rfl, enm2, elj2, hnm2, ho4, b4⟩
        case measure => simp [intOf]; omega
       ·have hzf : nmB z = false := by simpa using hzb
        rw [hzf]
        have eF : B = false := by
         have e := uh ht
         exact st_wrong (j := j) (uh hst) (by rw [uh en]; exact hlt) (uh EX) (by rw [← uh enm]; exact uh hnm) (by rw [uh en, ← e]; exact hin) (by rw [← e, uh EZ]; exact hz47) (by rw [← e, uh EZ]; exact hzf)
        subst eF
        go_wp2
        go_ret2
        exact ⟨⟨_, rfl⟩, bb2⟩
     ·have hin' : ¬ (t : Int) < (n : Int) := by omega
      have he := uh HE (.inl (by omega))
      by_cases hj1 : 1 ≤ j
      ·have hj1' : ¬ (j : Int) < 1 := by omega
       by_cases hj16 : j ≤ 16
       ·have hj16' : ¬ (16 : Int) < (j : Int) := by omega
        rw [(uh HK).1 ⟨hj1, hj16⟩, Bool.true_and] at he
        have HE2 := hide he.symm
        clear he hca
        go_wp2_with (at_builtin; refine wpList_appendV rfl _ _ rfl w.heap.size (.slice pv k cv) k vs wr.heap.size rfl rfl (ho2.below ((Below.refl _ _).alloc (Nat.le_refl _) _)) pn j cn (by simp) (by omega) (by simp; omega) ?_)
        intro p' c' w3 ho3 hg3
        have b3 : Below w.heap.size w w3 := (bb2.alloc bb2.size _).grown hg3 (by simp; omega) (fun k hk => (World.ownsRow.lt ho2 k hk).1)
        clear hg3
        go_wp2
        go_roundw
        case rel => exact ⟨t, k + 1, p', c', _, htn, by go_num, rfl, by omega, HE2, ho3, b3⟩
        case measure => simp [intOf]; omega
       ·have hj16' : (16 : Int) < (j : Int) := by omega
        rw [(uh HK).2 (by omega), Bool.false_and] at he
        subst he
        go_wp2
        go_ret2
        exact ⟨⟨_, rfl⟩, bb2⟩
      ·have hj1' : (j : Int) < 1 := by omega
       rw [(uh HK).2 (by omega), Bool.false_and] at he
       subst he
       go_wp2
       go_ret2
       exact ⟨⟨_, rfl⟩, bb2⟩
   ·have hx : (x == 47) = false := by simp [h47]
    have hx' : (x != 47) = true := by simp [h47]
    have eF : B = false := by
     rw [← uh hst, drop_cons (by rw [uh en]; exact hlt), uh EX]
     exact st_first h47
    subst eF
    go_wp2
    go_ret2
    exact ⟨⟨_, rfl⟩, hbr⟩
  ·have e : a = n := by omega
   have hlt' : ¬ (a : Int) < (n : Int) := by omega
   have eB2 := uh hst
   rw [List.drop_eq_nil_of_le (by rw [uh en]; omega), st] at eB2
   by_cases h1 : 1 ≤ k
   ·by_cases h8 : k ≤ 8
    ·have h1' : (1 : Int) ≤ (k : Int) := by omega
     have h8' : (k : Int) ≤ 8 := by omega
     have eT : B = true := by rw [← eB2]; simp [h1, h8]
     subst eT
     go_wp2
     go_ret2
     exact ⟨⟨_, rfl⟩, hbr⟩
    ·have h1' : (1 : Int) ≤ (k : Int) := by omega
     have h8' : ¬ (k : Int) ≤ 8 := by omega
     have eT : B = false := by rw [← eB2]; simp [h8]
     subst eT
     go_wp2
     go_ret2
     exact ⟨⟨_, rfl⟩, hbr⟩
   ·have h1' : ¬ (1 : Int) ≤ (k : Int) := by omega
    have eT : B = false := by rw [← eB2]; simp [h1]
    subst eT
    go_wp2
    go_ret2
    exact ⟨⟨_, rfl⟩, hbr⟩
set_option maxHeartbeats 4000000 in
theorem validName_any (p : Option Addr) (c n : Nat) (l : List Int) (en : Hid (l.length = n)) (w : World) (h : Rd w (.slice p n c) l) (hl : n ≤ 2097152) (B : Bool) (eB : Hid (nmOK l = B)) :
  Calls Tryz.prog 179 #[.slice p n c] w fun e w' => e = .returned (.bool B) ∧ Below w.heap.size w w' := by
 have HR := hide h
 clear h
 by_cases h1 : 1 ≤ n
 ·by_cases h16 : n ≤ 16
  ·have h1' : ¬ (n : Int) < 1 := by omega
   have h16' : ¬ (16 : Int) < (n : Int) := by omega
   obtain ⟨b, o, rfl, -, hc⟩ := (uh HR).at (by rw [uh en]; omega)
   go_enter Tryz.func179, Tryz.ntmps179
   have hcell : ∀ (i : Nat) (w' : World), i < n → Below w.heap.size w w' → w'.cell? ⟨b, o + i, none⟩ = some (.int .u8 (l.getD i 0)) := fun i w' hi hb' => (hb'.cell (p := ⟨b, o + i, none⟩) (World.block_lt_of_cell? w _ (hc i (by rw [uh en]; exact hi)))).trans (hc i (by rw [uh en]; exact hi))
   have HC := hide hcell
   clear hc hcell
   go_wp2
   go_loopw [17] (fun i wr => ∃ k : Nat, k ≤ n ∧ i = .int .i64 k ∧ Hid (∀ j, j < k → nmB (l.getD j 0) = true) ∧ Below w.heap.size w wr) (fun i _ => n - (intOf i).toNat)
   case atStart => exact ⟨0, Nat.zero_le _, rfl, (fun j hj => by omega), Below.refl _ _⟩
   case round =>
    obtain ⟨k, hk, rfl, hok, hbr⟩ := hrel
    by_cases hlt : k < n
    ·have hlt' : (k : Int) < (n : Int) := by omega
     have hcx := uh HC k wr hlt hbr
     obtain ⟨z, ez⟩ : ∃ z, l.getD k 0 = z := ⟨_, rfl⟩
     rw [ez] at hcx
     have EZ := hide ez
     clear ez
     have hnext : nmB z = true → Hid (∀ j, j < k + 1 → nmB (l.getD j 0) = true) := fun hz j hj => by
      by_cases e : j = k
      ·rw [e, uh EZ]; exact hz
      ·exact uh hok j (by omega)
     have hstop : nmB z = false → B = false := fun hz => by
      rw [← uh eB, nmOK]
      have : l.all nmB = false := by
       rw [List.all_eq_false]
       refine ⟨z, ?_, by simp [hz]⟩
       rw [← uh EZ]
       have hk' : k < l.length := by rw [uh en]; exact hlt
       rw [show l.getD k 0 = l[k] by simp [List.getD, hk']]
       exact List.getElem_mem hk'
      rw [this]
      simp
     rcases nm_cases z with ⟨g1, g2, gb⟩ | ⟨g2, gb⟩ | ⟨g3, g4, gb⟩ | ⟨rfl, gb⟩ | ⟨g4, g1, g6, gb⟩ | ⟨rfl, gb⟩ | ⟨g3, g5, gb⟩
     ·have HN := hnext gb
      clear hnext hstop
      have g3 : (48 : Int) ≤ z := by omega
      have g4 : ¬ z ≤ 57 := by omega
      go_wp2
      go_roundw
      case rel => exact ⟨k + 1, by omega, by go_num, HN, hbr⟩
      case measure => simp [intOf]; omega
     ·have eF := hstop gb
      subst eF
      clear hnext hstop
      have g1 : (97 : Int) ≤ z := by omega
      have g2' : ¬ z ≤ 122 := by omega
      have g3 : (48 : Int) ≤ z := by omega
      have g4 : ¬ z ≤ 57 := by omega
      have g5 : (z != 45) = true := by simp; omega
      have g6 : (z != 95) = true := by simp; omega
      go_wp2
      go_ret
      exact ⟨rfl, hbr⟩
     ·have HN := hnext gb
      clear hnext hstop
      have g1 : ¬ (97 : Int) ≤ z := by omega
      go_wp2
      go_roundw
      case rel => exact ⟨k + 1, by omega, by go_num, HN, hbr⟩
      case measure => simp [intOf]; omega
     ·have HN := hnext gb
      clear hnext hstop
      go_wp2
      go_roundw
      case rel => exact ⟨k + 1, by omega, by go_num, HN, hbr⟩
      case measure => simp [intOf]; omega
     ·have eF := hstop gb
      subst eF
      clear hnext hstop
      have g1' : ¬ (97 : Int) ≤ z := by omega
      have g3 : (48 : Int) ≤ z := by omega
      have g4' : ¬ z ≤ 57 := by omega
      have g5 : (z != 45) = true := by simp; omega
      have g6' : (z != 95) = true := by simp [g6]
      go_wp2
      go_ret
      exact ⟨rfl, hbr⟩
     ·have HN := hnext gb
      clear hnext hstop
      go_wp2
      go_roundw
      case rel => exact ⟨k + 1, by omega, by go_num, HN, hbr⟩
      case measure => simp [intOf]; omega
     ·have eF := hstop gb
      subst eF
      clear hnext hstop
      have g1 : ¬ (97 : Int) ≤ z := by omega
      have g3' : ¬ (48 : Int) ≤ z := by omega
      have g5' : (z != 45) = true := by simp [g5]
      have g6 : (z != 95) = true := by simp; omega
      go_wp2
      go_ret
      exact ⟨rfl, hbr⟩
    ·have hlt' : ¬ (k : Int) < (n : Int) := by omega
     have e : k = n := by omega
     have eT : B = true := by
      rw [← uh eB, nmOK, uh en]
      have : l.all nmB = true := by
       rw [List.all_eq_true]
       intro x hx
       obtain ⟨i, hi, rfl⟩ := List.getElem_of_mem hx
       have := uh hok i (by rw [uh en] at hi; omega)
       rwa [show l.getD i 0 = l[i] by simp [List.getD, hi]] at this
      simp [h1, h16, this]
     subst eT
     go_wp2
     go_ret
     exact ⟨rfl, hbr⟩
  ·have h1' : ¬ (n : Int) < 1 := by omega
   have h16' : (16 : Int) < (n : Int) := by omega
   have eF : B = false := by rw [← uh eB, nmOK, uh en]; simp [h16]
   subst eF
   go_enter Tryz.func179, Tryz.ntmps179
   go_wp2
   go_ret
   exact ⟨rfl, Below.refl _ _⟩
 ·have h1' : (n : Int) < 1 := by omega
  have eF : B = false := by rw [← uh eB, nmOK, uh en]; simp [h1]
  subst eF
  go_enter Tryz.func179, Tryz.ntmps179
  go_wp2
  go_ret
  exact ⟨rfl, Below.refl _ _⟩
theorem split_any (b o n c : Nat) (t : List Int) (en : t.length = n) (g : Nat) (w : World) (hc : ∀ i, i < n → w.cell? ⟨b, o + i, none⟩ = some (.int .u8 (t.getD i 0))) (hg : w.cell? ⟨g, 0, none⟩ = some (.int .u8 47)) (hB : Byt t) (hn : n ≤ c) (hc63 : c ≤ maxLen) (hl : n ≤ 2097152) (hm : ∃ m, w.cell? ⟨1, 0, none⟩ = some (.int .i64 m)) (K : Nat) (eK : (cutG 47 t).length = K) :
  Calls Tryz.prog 178 #[.slice (some ⟨b, o, none⟩) n c, .slice (some ⟨g, 0, none⟩) 1 1] w fun e w' => e = .returned (.slice (some ⟨w.heap.size, 0, none⟩) K K) ∧ (∀ j nm, (cutG 47 t)[j]? = some nm → ∃ p' c', w'.cell? ⟨w.heap.size, j, none⟩ = some (.slice p' nm.length c') ∧ Rd w' (.slice p' nm.length c') nm) ∧ Below w.heap.size w w' := by
 obtain ⟨m, hm⟩ := hm
 have hadd : ∀ (g o i : Nat), (⟨g, o, none⟩ : Addr).add i = ⟨g, o + i, none⟩ := fun g o i => by
  unfold Addr.add
  split
  ·next h => subst h; rfl
  ·rfl
 obtain ⟨e1, e2⟩ := split_ints hB
 refine (Any.bytes_Split Tryz.layS7 ⟨b, o, none⟩ ⟨g, 0, none⟩ n c 1 1 t [47] m w en rfl hB (by intro y hy; simp at hy; subst hy; decide) (fun i hi => by rw [hadd]; exact hc i hi) (fun i hi => by
  obtain rfl : i = 0 := by omega
  exact hg) hn (by omega) (by decide) (by unfold maxLen at hc63; omega) (by decide) hm).mono ?_
 rintro e w' ⟨rfl, q, rfl⟩
 have hbel : Below w.heap.size w ((w.alloc (.cells (Lib.splitV (Lib.bytesOf [47]) 0 (Lib.count (Lib.bytesOf t) (Lib.bytesOf [47])) ⟨b, o, none⟩ c (Lib.bytesOf t)).toArray (Tryz.layS7_ren.t 22))).drewN q) := ⟨rfl, rfl, rfl, by simp, fun k hk => Below.heap_alloc _ _ k hk⟩
 rw [e2, eK]
 refine ⟨rfl, fun j nm hj => ?_, hbel⟩
 have hjl : j < (Lib.splitV (Lib.bytesOf [47]) 0 (Lib.count (Lib.bytesOf t) (Lib.bytesOf [47])) ⟨b, o, none⟩ c (Lib.bytesOf t)).length := by
  rw [Lib.splitV_length, e1, List.length_map]
  exact (List.getElem?_eq_some_iff.1 hj).1
 obtain ⟨a', off, len, cp, ev, h1, h2, h3, h4⟩ := Lib.splitV_spec (Lib.bytesOf [47]) 0 (by decide) (Nat.zero_le _) _ ⟨b, o, none⟩ c (Lib.bytesOf t) (by rw [Lib.bytesOf_length, en]; exact hn) j _ (List.getElem?_eq_getElem hjl)
 rw [e1, List.getElem?_map, hj] at h3
 rw [Lib.bytesOf_length] at h2
 have enm : nm = (t.drop off).take len := by
  refine bytesOf_inj (cut_byt hB nm (List.mem_of_getElem? hj)) (fun z hz => hB z (List.mem_of_mem_drop (List.mem_of_mem_take hz))) ?_
  rw [Lib.bytesOf_take, Lib.bytesOf_drop]
  simpa using h3
 have elen : nm.length = len := by rw [enm, List.length_take, List.length_drop]; omega
 refine ⟨some a', cp, ?_, ?_⟩
 ·rw [World.cell?_drewN, World.cell?_alloc_new, List.getElem?_toArray, List.getElem?_eq_getElem hjl, ev, elen]
 ·refine ⟨some a', cp, rfl, ?_⟩
  by_cases h0 : len = 0
  ·left
   exact List.length_eq_zero_iff.1 (by rw [elen]; exact h0)
  ·right
   have ea := h4 0 (by omega)
   rw [hadd, Nat.add_zero] at ea
   refine ⟨b, o + off, ?_, fun i hi => ?_⟩
   ·have : a'.add 0 = a' := rfl
    rw [← this, ea]
   ·rw [elen] at hi
    have hcc : ((w.alloc (.cells (Lib.splitV (Lib.bytesOf [47]) 0 (Lib.count (Lib.bytesOf t) (Lib.bytesOf [47])) ⟨b, o, none⟩ c (Lib.bytesOf t)).toArray (Tryz.layS7_ren.t 22))).drewN q).cell? ⟨b, o + (off + i), none⟩ = some (.int .u8 (t.getD (off + i) 0)) :=
     (hbel.cell (p := ⟨b, o + (off + i), none⟩) (World.block_lt_of_cell? w _ (hc (off + i) (by omega)))).trans (hc (off + i) (by omega))
    rw [Nat.add_assoc, hcc, enm]
    have : ((t.drop off).take len).getD i 0 = t.getD (off + i) 0 := by
     simp [List.getD, List.getElem?_take, hi, List.getElem?_drop]
    rw [this]
end Go.Proofs.YtnbgnhhnpmmloaaGreatDoor
