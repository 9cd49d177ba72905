import Derived.Test.YtnbgnhhnpmmloaaGreatDoorK5
import Derived.Maps.RangeWalk
import Derived.Maps.Ext
import Derived.Test.YtnbgnhhnpmmloaaGreatDoorVS8
import Derived.Lib.BytesEntry
import Derived.Laws.Externs
namespace Go.Proofs.YtnbgnhhnpmmloaaGreatDoor
open Go.ChangeShapes Go.WideShapes Go.ChangeAt Go.RowKit
open Go.Maps (Keyed IsMap)
set_option linter.unusedVariables false
set_option linter.unusedSimpArgs false
set_option maxRecDepth 100000
def ptrElem : Value → Option (DataW Unit × List MemPlace)
 | .pointer (some ⟨b, 0, none⟩) => some (.lit (.int .i64 b), [])
 | .pointer none => some (.nil, [])
 | _ => none
theorem ptrElem_inv {v : Value} {b : Nat} {ps : List MemPlace} (h : ptrElem v = some (.lit (.int .i64 b), ps)) : v = .pointer (some ⟨b, 0, none⟩) := by
 unfold ptrElem at h
 split at h
 ·simp only [Option.some.injEq, Prod.mk.injEq, DataW.lit.injEq, Lit.int.injEq, true_and, Int.natCast_inj] at h
  rw [h.1]
 ·simp at h
 ·simp at h
theorem ptrElem_nil {v : Value} {ps : List MemPlace} (h : ptrElem v = some (.nil, ps)) : v = .pointer none := by
 unfold ptrElem at h
 split at h
 ·simp at h
 ·rfl
 ·simp at h
structure MapTo (D : DataW Unit) (l : List (Lit × Nat)) : Prop where
 hs : ∀ k, Maps.has D k = true ↔ ∃ p ∈ l, p.1 = k
 at' : ∀ p ∈ l, ∀ z, D.atKey p.1 z = .lit (.int .i64 p.2)
theorem MapTo.nil : MapTo (.map []) [] := ⟨fun k => by simp [Maps.has], fun p hp => by simp at hp⟩
theorem MapTo.put {D : DataW Unit} {l : List (Lit × Nat)} (h : MapTo D l) (hD : IsMap D) {k : Lit} (hk : WideAt.IsKeyLit k) (hn : ∀ p ∈ l, p.1 ≠ k) (g : Nat) : MapTo (D.put k (.lit (.int .i64 g))) (l ++ [(k, g)]) := by
 refine ⟨fun k' => ?_, fun p hp z => ?_⟩
 ·by_cases e : k' = k
  ·subst e
   simp [Maps.has_put_same hD hk]
  ·rw [Maps.has_put_other e, h.hs k']
   constructor
   ·rintro ⟨p, hp, rfl⟩
    exact ⟨p, by simp [hp], rfl⟩
   ·rintro ⟨p, hp, rfl⟩
    rcases List.mem_append.1 hp with hp | hp
    ·exact ⟨p, hp, rfl⟩
    ·simp at hp
     subst hp
     exact absurd rfl e
 ·rcases List.mem_append.1 hp with hp | hp
  ·rw [Maps.atKey_put_other (hn p hp)]
   exact h.at' p hp z
  ·simp at hp
   subst hp
   exact Maps.atKey_put_same hD hk _ _
def SetTo (D : DataW Unit) (s : List Int) : Prop := ∀ k, Maps.has D k = true ↔ ∃ i ∈ s, k = .int .u64 i
theorem SetTo.nil : SetTo (.map []) [] := fun k => by simp [Maps.has]
theorem SetTo.put {D : DataW Unit} {s : List Int} (h : SetTo D s) (hD : IsMap D) (i : Int) (d : DataW Unit) : SetTo (D.put (.int .u64 i) d) (s ++ [i]) := by
 intro k'
 by_cases e : k' = .int .u64 i
 ·subst e
  rw [Maps.has_put_same hD (by trivial)]
  simp
 ·rw [Maps.has_put_other e, h k']
  constructor
  ·rintro ⟨j, hj, rfl⟩
   exact ⟨j, by simp [hj], rfl⟩
  ·rintro ⟨j, hj, rfl⟩
   rcases List.mem_append.1 hj with hj | hj
   ·exact ⟨j, hj, rfl⟩
   ·simp at hj
    subst hj
    exact absurd rfl e
theorem SetTo.size0 {D : DataW Unit} {s : List Int} (h : SetTo D s) (hD : IsMap D) (hk : ∀ es, D = .map es → ∀ p ∈ es, WideAt.IsKeyLit p.1) : Maps.size D = 0 ↔ s = [] := by
 obtain ⟨es, rfl⟩ := hD
 constructor
 ·intro h0
  have e0 : es = [] := List.length_eq_zero_iff.1 h0
  subst e0
  cases s with
  | nil => rfl
  | cons i s =>
   have := (h (.int .u64 i)).2 ⟨i, by simp, rfl⟩
   simp [Maps.has] at this
 ·rintro rfl
  cases es with
  | nil => rfl
  | cons p es =>
   have := (h p.1).1 (by rw [Maps.has_eq]; simp [WideAt.sameKey_self (hk _ rfl p (by simp))])
   simp at this
section
variable {P : Program} (w : World) {ops : Array Oper} {rest : List Oper} {o : Oper} {a : Act} {Q : Exit → Act → World → Prop}
theorem wpList_next_ptr {α : Type} (hg : o.guard = none) (it : Operand) (hop : o.op = Op.next it false) (k : TypeId) (K : Keyed P k) (mkK : α → Value) (invK : ∀ key kl, keyOf P k key = some kl → ∃ x, key = mkK x)
  (b r n : Nat) (D : DataW Unit) (l : List (Lit × Nat)) (hM : MapTo D l) (left : Lit → Bool) (cnt : Nat)
  (hit : a.eval it = .pointer (some ⟨r, 0, none⟩)) (h : w.ranges P k ptrElem b r n D left cnt)
  (hDone : cnt = 0 → (∀ kl, left kl = false) → wpList P ops Q rest (a.put o.dst (.tuple #[.bool false])) w)
  (hMore : ∀ (x : α) (p : Lit × Nat) (w' : World) (cnt' : Nat), keyOf P k (mkK x) = some p.1 → p ∈ l → left p.1 = true → w'.ranges P k ptrElem b r n D (fun z => left z && !z.sameKey p.1) cnt' → cnt' < cnt →
   w.grownBy w' (some r) → w'.heap.size = w.heap.size → (Instr.entry (.pointer (some ⟨r, 0, none⟩))).run P w' = .ok (.tuple #[mkK x, .pointer (some ⟨p.2, 0, none⟩)]) w' → wpList P ops Q rest (a.put o.dst (.tuple #[.bool true, mkK x, .pointer (some ⟨p.2, 0, none⟩)])) w') :
  wpList P ops Q (o :: rest) a w := by
 refine wpList_plain hg fun K' hK' => ?_
 unfold Oper.wp
 rcases h.next K o.type with ⟨h0, hl, hrun⟩ | ⟨key, v, kl, y, w', cnt', hkey, hlk, hv, hat, hrun, hrg, hlt, hgr, hsz, hen⟩
 ·simp [execOp, hop, hit, hrun, Result.andThen]
  exact hK' _ _ (hDone h0 hl)
 ·obtain ⟨x, rfl⟩ := invK key kl hkey
  obtain ⟨p, hp, rfl⟩ := (hM.hs kl).1 (Maps.has_true_of_atKey hat)
  have e1 : y.1 = .lit (.int .i64 p.2) := by rw [← hat .nil]; exact hM.at' p hp _
  obtain ⟨y1, y2⟩ := y
  simp only at e1
  subst e1
  obtain rfl := ptrElem_inv hv
  simp [execOp, hop, hit, hrun, Result.andThen]
  exact hK' _ _ (hMore x p w' cnt' hkey hp hlk hrg hlt hgr hsz hen)
theorem wpList_next_set (hg : o.guard = none) (it : Operand) (hop : o.op = Op.next it false) (k : TypeId) (K : Keyed P k) (hk : P.underlying k = some (.int .u64))
  (b r n : Nat) (D : DataW Unit) (s : List Int) (hM : SetTo D s) (left : Lit → Bool) (cnt : Nat)
  (hit : a.eval it = .pointer (some ⟨r, 0, none⟩)) (h : w.ranges P k unitElem b r n D left cnt)
  (hDone : cnt = 0 → (∀ kl, left kl = false) → wpList P ops Q rest (a.put o.dst (.tuple #[.bool false])) w)
  (hMore : ∀ (x : Int) (w' : World) (cnt' : Nat), (Lit.int .u64 x).wf = true → x ∈ s → left (.int .u64 x) = true → w'.ranges P k unitElem b r n D (fun z => left z && !z.sameKey (.int .u64 x)) cnt' → cnt' < cnt →
   w.grownBy w' (some r) → w'.heap.size = w.heap.size → (Instr.entry (.pointer (some ⟨r, 0, none⟩))).run P w' = .ok (.tuple #[.int .u64 x, .agg #[]]) w' → wpList P ops Q rest (a.put o.dst (.tuple #[.bool true, .int .u64 x, .agg #[]])) w') :
  wpList P ops Q (o :: rest) a w := by
 refine wpList_plain hg fun K' hK' => ?_
 unfold Oper.wp
 rcases h.next K o.type with ⟨h0, hl, hrun⟩ | ⟨key, v, kl, y, w', cnt', hkey, hlk, hv, hat, hrun, hrg, hlt, hgr, hsz, hen⟩
 ·simp [execOp, hop, hit, hrun, Result.andThen]
  exact hK' _ _ (hDone h0 hl)
 ·obtain ⟨x, rfl, rfl, hwx⟩ := Maps.keyOf_int_inv hk hkey
  obtain ⟨i, hi, ei⟩ := (hM _).1 (Maps.has_true_of_atKey hat)
  simp only [Lit.int.injEq, true_and] at ei
  subst ei
  obtain ⟨rfl, _⟩ := unitElem_inv hv
  simp [execOp, hop, hit, hrun, Result.andThen]
  exact hK' _ _ (hMore x w' cnt' hwx hi hlk hrg hlt hgr hsz hen)
end
def litS (l : List Int) : Lit := .string (l.map fun n => UInt8.ofNat n.toNat)
theorem litS_inj {l m : List Int} (hl : Byt l) (hm : Byt m) (h : litS l = litS m) : l = m := by
 simp only [litS, Lit.string.injEq] at h
 exact map_inj hl hm h
theorem bstr_litS (l : List Int) : Lit.string (bstr l).data.toList = litS l := by rw [← ByteArray.toList_eq, bstr_list]; rfl
theorem litS_val {s : ByteArray} {l : List Int} (h : Lit.string s.data.toList = litS l) : s = bstr l := by
 rw [← bstr_litS] at h
 simp only [Lit.string.injEq] at h
 cases s with | mk d => cases hb : bstr l with | mk d' => (rw [hb] at h; simp only at h; congr; exact Array.toList_inj.1 h)
end Go.Proofs.YtnbgnhhnpmmloaaGreatDoor
namespace Go.Proofs.YtnbgnhhnpmmloaaGreatDoor
open Go.ChangeShapes Go.WideShapes Go.ChangeAt Go.RowKit
set_option linter.unusedVariables false
set_option linter.unusedSimpArgs false
set_option maxRecDepth 100000
def stOK (e g x t : Int) (ss : List Ses) (ns : List Nod) : Bool :=
 decide (e ≤ 4611686018427387904 ∧ g ≤ 4611686018427387904 ∧ x ≤ 4611686018427387904 ∧ 0 ≤ t ∧ t ≤ 1000000 ∧ ss.length ≤ 50 ∧ ns.length ≤ 200) && ((List.range ss.length).all (sesAt x ss) && (List.range ns.length).all (nodOK e g ss ns))
set_option maxHeartbeats 1600000 in
theorem specVS (e g x t : Int) (p q : Option Addr) (c n d m : Nat) (ss : List Ses) (ns : List Nod) (en : Hid (ss.length = n)) (em : Hid (ns.length = m)) (w : World) (h : RdS w (.slice p n c) ss) (hN : RdN w (.slice q m d) ns) (hn : n ≤ 1048576) (hm : m ≤ 1048576)
  (hbs : Hid (∀ s ∈ ss, s.2.2.length ≤ 1048576 ∧ ∀ e ∈ s.2.2, Byt e.2 ∧ e.2.length ≤ 1048576))
  (hby : Hid (∀ nd ∈ ns, Byt nd.path ∧ nd.path.length ≤ 1048576 ∧ nd.value.length ≤ 1048576 ∧ nd.holders.length ≤ 1048576 ∧ nd.watchers.length ≤ 1048576)) (B : Bool) (eB : Hid (stOK e g x t ss ns = B)) :
  Calls Tryz.prog 26 #[stV e g x t (.slice p n c) (.slice q m d)] w fun r w' => r = .returned (.bool B) ∧ Below w.heap.size w w' := by
 have HR := hide fun (w' : World) (hb : Below w.heap.size w w') => And.intro (h.below hb) (hN.below hb)
 have b1 : Below w.heap.size w (w.alloc (.cells #[.int .u64 e, .int .u64 g, .int .u64 x, .int .i64 t, .slice p n c, .slice q m d] 27)) := (Below.refl _ _).alloc (Nat.le_refl _) _
 have hB : B = (decide (e ≤ 4611686018427387904 ∧ g ≤ 4611686018427387904 ∧ x ≤ 4611686018427387904 ∧ 0 ≤ t ∧ t ≤ 1000000 ∧ n ≤ 50 ∧ m ≤ 200) && ((List.range n).all (sesAt x ss) && (List.range m).all (nodOK e g ss ns))) := by
  rw [← uh eB, stOK, uh en, uh em]
 have HB := hide hB
 clear h hN hB eB
 by_cases h0 : 4611686018427387904 < e
 ·have eF : B = false := by
   rw [uh HB, Bool.and_eq_false_iff]
   exact .inl (decide_eq_false (fun hh => by omega))
  subst eF
  clear HB
  go_enter Tryz.func26, Tryz.ntmps26
  go_wp2
  go_ret
  exact ⟨rfl, b1⟩
 ·have q0 : e ≤ 4611686018427387904 := by omega
  by_cases h1 : 4611686018427387904 < g
  ·have eF : B = false := by
    rw [uh HB, Bool.and_eq_false_iff]
    exact .inl (decide_eq_false (fun hh => by omega))
   subst eF
   clear HB
   go_enter Tryz.func26, Tryz.ntmps26
   go_wp2
   go_ret
   exact ⟨rfl, b1⟩
  ·have q1 : g ≤ 4611686018427387904 := by omega
   by_cases h2 : 4611686018427387904 < x
   ·have eF : B = false := by
     rw [uh HB, Bool.and_eq_false_iff]
     exact .inl (decide_eq_false (fun hh => by omega))
    subst eF
    clear HB
    go_enter Tryz.func26, Tryz.ntmps26
    go_wp2
    go_ret
    exact ⟨rfl, b1⟩
   ·have q2 : x ≤ 4611686018427387904 := by omega
    by_cases h3 : t < 0
    ·have eF : B = false := by
      rw [uh HB, Bool.and_eq_false_iff]
      exact .inl (decide_eq_false (fun hh => by omega))
     subst eF
     clear HB
     go_enter Tryz.func26, Tryz.ntmps26
     go_wp2
     go_ret
     exact ⟨rfl, b1⟩
    ·have q3 : 0 ≤ t := by omega
     by_cases h4 : 1000000 < t
     ·have eF : B = false := by
       rw [uh HB, Bool.and_eq_false_iff]
       exact .inl (decide_eq_false (fun hh => by omega))
      subst eF
      clear HB
      go_enter Tryz.func26, Tryz.ntmps26
      go_wp2
      go_ret
      exact ⟨rfl, b1⟩
     ·have q4 : t ≤ 1000000 := by omega
      by_cases h5 : (50 : Int) < (n : Int)
      ·have eF : B = false := by
        rw [uh HB, Bool.and_eq_false_iff]
        exact .inl (decide_eq_false (fun hh => by omega))
       subst eF
       clear HB
       go_enter Tryz.func26, Tryz.ntmps26
       go_wp2
       go_ret
       exact ⟨rfl, b1⟩
      ·have q5 : n ≤ 50 := by omega
       by_cases h6 : (200 : Int) < (m : Int)
       ·have eF : B = false := by
         rw [uh HB, Bool.and_eq_false_iff]
         exact .inl (decide_eq_false (fun hh => by omega))
        subst eF
        clear HB
        go_enter Tryz.func26, Tryz.ntmps26
        go_wp2
        go_ret
        exact ⟨rfl, b1⟩
       ·have q6 : m ≤ 200 := by omega
        have HB2 : Hid (B = ((List.range n).all (sesAt x ss) && (List.range m).all (nodOK e g ss ns))) := by
         show _ = _
         rw [uh HB, decide_eq_true ⟨q0, q1, q2, q3, q4, q5, q6⟩, Bool.true_and]
        clear HB
        go_enter Tryz.func26, Tryz.ntmps26
        go_wp2_with fail
        obtain ⟨W, hW⟩ : ∃ W, W = (w.alloc (.cells #[.int .u64 e, .int .u64 g, .int .u64 x, .int .i64 t, .slice p n c, .slice q m d] 27)) := ⟨_, rfl⟩
        have hc6 : St6 W w.heap.size e g x t (.slice p n c) (.slice q m d) := by rw [hW]; simp [St6]
        rw [← hW] at b1 ⊢
        clear hW
        have BW := hide b1
        have HC6 := hide hc6
        clear b1 hc6
        clear h0 h1 h2 h3 h4 h5 h6 q0 q1 q2 q3 q4 q5 q6
        go_loopw [3] (fun iv wr => ∃ k : Nat, k ≤ n ∧ iv = .int .i64 k ∧ Hid ((List.range k).all (sesAt x ss) = true) ∧ Below W.heap.size W wr) (fun iv _ => n - (intOf iv).toNat)
        case atStart => exact ⟨0, Nat.zero_le _, rfl, (by show _ = _; rfl), Below.refl _ _⟩
        case round =>
         obtain ⟨k, hk, rfl, hok, hbr⟩ := hrel
         have BB := Below.step (uh BW) hbr
         obtain ⟨i0, i1, i2, i3, i4, i5⟩ := (uh HC6).below hbr
         by_cases hlt : k < n
         ·have hlt' : (k : Int) < (n : Int) := by omega
          obtain ⟨T, eT⟩ : ∃ T, sesAt x ss k = T := ⟨_, rfl⟩
          have ET := hide eT
          go_wp2_with fail
          refine (l3sessionOK_any e g x t p c n k _ ss en _ (uh HR _ BB).1 hn hlt hbs T ET).mono ?_
          rintro r w2 ⟨rfl, hb2⟩
          clear i0 i1 i2 i3 i4 i5
          cases T with
          | false =>
           have eF : B = false := by rw [uh HB2, range_all_no hlt eT]; rfl
           subst eF
           have b2 := Below.step BB hb2
           clear HB2 eT hb2
           go_wp2
           go_ret
           exact ⟨rfl, b2⟩
          | true =>
           have HOK := hide (range_all_step (uh hok) eT)
           have b2 := Below.step hbr hb2
           clear eT hb2 BB
           go_wp2
           go_roundw
           case rel => exact ⟨k + 1, by omega, by go_num, HOK, b2⟩
           case measure => simp [intOf]; omega
         ·have hlt' : ¬ (k : Int) < (n : Int) := by omega
          have ekn : k = n := by omega
          have HB3 : Hid (B = (List.range m).all (nodOK e g ss ns)) := by
           show _ = _
           rw [uh HB2, show (List.range n).all (sesAt x ss) = true from ekn ▸ uh hok, Bool.true_and]
          have HC7 := hide ((uh HC6).below hbr)
          clear HB2 ekn hok
          go_wp2_with fail
          clear i0 i1 i2 i3 i4 i5
          obtain ⟨Y, eY⟩ : ∃ Y, Y = wr := ⟨_, rfl⟩
          subst eY
          have BY := hide BB
          clear BB hbr hlt hlt' hk
          go_loopw [4] (fun iv wr => ∃ k : Nat, k ≤ m ∧ iv = .int .i64 k ∧ Hid ((List.range k).all (nodOK e g ss ns) = true) ∧ Below Y.heap.size Y wr) (fun iv _ => m - (intOf iv).toNat)
          case atStart => exact ⟨0, Nat.zero_le _, rfl, (by show _ = _; rfl), Below.refl _ _⟩
          case round =>
           obtain ⟨j, hk, rfl, hok, hbr⟩ := hrel
           have BB := Below.step (uh BY) hbr
           obtain ⟨i0, i1, i2, i3, i4, i5⟩ := (uh HC7).below hbr
           by_cases hlt : j < m
           ·have hlt' : (j : Int) < (m : Int) := by omega
            obtain ⟨T, eT⟩ : ∃ T, nodOK e g ss ns j = T := ⟨_, rfl⟩
            have ET := hide eT
            go_wp2_with fail
            refine (l3nodeOK_any e g x t p q c n d m j ss ns en em _ (uh HR _ BB).1 (uh HR _ BB).2 hn hm hlt hby T ET).mono ?_
            rintro r w2 ⟨rfl, hb2⟩
            clear i0 i1 i2 i3 i4 i5
            cases T with
            | false =>
             have eF : B = false := by rw [uh HB3]; exact range_all_no hlt eT
             subst eF
             have b2 := Below.step BB hb2
             clear HB3 eT hb2
             go_wp2
             go_ret
             exact ⟨rfl, b2⟩
            | true =>
             have HOK := hide (range_all_step (uh hok) eT)
             have b2 := Below.step hbr hb2
             clear eT hb2 BB
             go_wp2
             go_roundw
             case rel => exact ⟨j + 1, by omega, by go_num, HOK, b2⟩
             case measure => simp [intOf]; omega
           ·have hlt' : ¬ (j : Int) < (m : Int) := by omega
            have ekm : j = m := by omega
            have eT : B = true := by rw [uh HB3, ← ekm]; exact uh hok
            subst eT
            clear HB3 ekm hok
            go_wp2
            go_ret
            exact ⟨rfl, BB⟩
def cmpI (x y : Int) : Int := if x < y then -1 else if y < x then 1 else 0
theorem isNaN_any (x : Int) (w : World) : Calls Tryz.prog 157 #[.int .u64 x] w fun e w' => e = .returned (.bool false) ∧ w' = w := by
 go_enter Tryz.func157, Tryz.ntmps157
 go_wp2
 go_ret
 refine ⟨?_, rfl⟩
 simp
set_option maxHeartbeats 800000 in
theorem compareU_any (x y : Int) (w : World) : Calls Tryz.prog 130 #[.int .u64 x, .int .u64 y] w fun e w' => e = .returned (.int .i64 (cmpI x y)) ∧ w' = w := by
 obtain ⟨C, eC⟩ : ∃ C, cmpI x y = C := ⟨_, rfl⟩
 rw [eC]
 have EC := hide eC
 clear eC
 go_enter Tryz.func130, Tryz.ntmps130
 go_wp2_with fail
 refine (isNaN_any x w).mono ?_
 rintro e w1 ⟨rfl, rfl⟩
 go_wp2_with fail
 refine (isNaN_any y _).mono ?_
 rintro e w2 ⟨rfl, rfl⟩
 by_cases h1 : x < y
 ·have e1 : C = -1 := by rw [← uh EC]; rw [cmpI, if_pos h1]
  subst e1
  go_wp2
  go_ret
  exact ⟨rfl, rfl⟩
 ·by_cases h2 : y < x
  ·have e1 : C = 1 := by rw [← uh EC]; rw [cmpI, if_neg h1, if_pos h2]
   subst e1
   go_wp2
   go_ret
   exact ⟨rfl, rfl⟩
  ·have e1 : C = 0 := by rw [← uh EC]; rw [cmpI, if_neg h1, if_neg h2]
   subst e1
   go_wp2
   go_ret
   exact ⟨rfl, rfl⟩
theorem run_bytesOf {w : World} {p : Option Addr} {c : Nat} {l : List Int} (h : Rd w (.slice p l.length c) l) : (Extern.Bytes.bytesOf (.slice p l.length c)).run Tryz.prog w = .ok ⟨(Lib.bytesOf l).toArray⟩ w := by
 cases p with
 | none =>
  have e := h.none_nil
  subst e
  simp only [Extern.Bytes.bytesOf, Sem.run_pure]
  rfl
 | some a =>
  obtain ⟨n1, n2, n3⟩ := h.news
  have := Lib.run_loadBytesX (P := Tryz.prog) w l a .empty (fun j x hj => n2 j _ (by rw [List.getElem?_map, hj]; rfl))
  simp only [Extern.Bytes.bytesOf]
  rw [this]
  congr 1
  apply ByteArray.ext
  simp
theorem run_cmpB {w : World} {p q : Option Addr} {c d : Nat} {l m : List Int} (h : Rd w (.slice p l.length c) l) (k : Rd w (.slice q m.length d) m) :
  (Extern.BytealgCompare.compare #[.slice p l.length c, .slice q m.length d]).run Tryz.prog w = .ok (.int .i64 (Lib.compareBytes (Lib.bytesOf l) (Lib.bytesOf m))) w := by
 change Sem.run Tryz.prog (do pure (goInt (Extern.BytealgCompare.cmp (← Extern.Bytes.bytesOf (.slice p l.length c)) (← Extern.Bytes.bytesOf (.slice q m.length d))))) w = _
 simp only [Sem.run_bind, run_bytesOf h, run_bytesOf k, Sem.run_pure, Result.andThen]
 rw [Lib.cmp_eq]
 rfl
def cmpB (l m : List Int) : Int := Lib.compareBytes (Lib.bytesOf l) (Lib.bytesOf m)
theorem cmp_less : ∀ (a b : List UInt8), (0 ≤ Lib.compareBytes a b) = (Op.bytesLess b a = true ∨ b = a)
 | [], [] => by simp [Lib.compareBytes]
 | [], _ :: _ => by simp [Lib.compareBytes, Op.bytesLess]
 | _ :: _, [] => by simp [Lib.compareBytes, Op.bytesLess]
 | x :: a, y :: b => by
  have ih := cmp_less a b
  rw [Lib.compareBytes, Op.bytesLess]
  by_cases h1 : x < y
  ·have h2 : ¬ y < x := fun h => UInt8.lt_irrefl _ (UInt8.lt_trans h1 h)
   have h3 : ¬ y = x := fun h => by subst h; exact UInt8.lt_irrefl _ h1
   simp [h1, h2, h3]
  ·by_cases h2 : y < x
   ·simp [h1, h2]
   ·have h3 : y = x := UInt8.le_antisymm (UInt8.not_lt.1 h1) (UInt8.not_lt.1 h2)
    subst h3
    simp only [h1, if_false, ih]
    simp
theorem cmpB_le (l m : List Int) : decide (0 ≤ cmpB l m) = leB m l := by
 rw [leB, bstr_list, bstr_list, Bool.eq_iff_iff, decide_eq_true_iff, cmpB, cmp_less]
 simp only [Bool.or_eq_true, beq_iff_eq]
 exact Iff.rfl
set_option maxHeartbeats 800000 in
theorem compareB_any (p q : Option Addr) (c d n k : Nat) (l m : List Int) (el : Hid (l.length = n)) (em : Hid (m.length = k)) (w : World) (h1 : Rd w (.slice p n c) l) (h2 : Rd w (.slice q k d) m) :
  Calls Tryz.prog 134 #[.slice p n c, .slice q k d] w fun e w' => e = .returned (.int .i64 (cmpB l m)) ∧ w' = w := by
 have e1 := uh el
 have e2 := uh em
 subst e1 e2
 go_enter Tryz.func134, Tryz.ntmps134
 go_wp2
 rw [run_callFunc_extern Tryz.func161 (by kernel_rfl) (by kernel_rfl) (by kernel_rfl) (e := Extern.BytealgCompare.compare) (by kernel_rfl), run_cmpB h1 h2]
 simp only [Result.andThen]
 rw [Oper.upon_value]
 go_wp2
 go_ret
 exact ⟨rfl, rfl⟩
theorem step_callv2 {P : Program} {w : World} {ops : Array Oper} {o : Oper} {a : Act} {K : Act → World → Prop} {Q : Exit → Act → World → Prop} {E : Prop} {R : Ending → World → Prop} (hgd : o.guard = none) (f : FuncId) (x0 x1 x2 : Operand) (tys : Array TypeId)
  (ho : o.op = .call { callee := .value x0, args := #[x1, x2], argTypes := tys }) (v1 v2 : Value) (h0 : a.eval x0 = .func (.func f) #[] #[]) (h1 : a.eval x1 = v1) (h2 : a.eval x2 = v2) (hcf : ∀ vs, (callFunc f vs).run P w = .ok (.enter f vs) w) (hc : Calls P f #[v1, v2] w R) (hR : ∀ e w', R e w' → ∃ v, e = .returned v ∧ K (a.put o.dst v) w') :
  if Region.wanted o (yielded ops a.tmps) = true then Oper.wp P o a w K Q else E := by
 have hw : Region.wanted o (yielded ops a.tmps) = true := by simp [Region.wanted, hgd]
 rw [if_pos hw]
 have hrun : (execOp a.eval o).run P w = .ok (.enter f #[v1, v2]) w := by
  subst h1 h2
  unfold execOp
  simp [ho, resolve, invoke, hcf, h0, Deferred.ofValue, Sem.run_bind, Sem.run_pure, Result.andThen]
 show o.upon P a K Q _
 rw [hrun, Oper.upon_enter]
 refine hc.mono ?_
 intro e w' h
 obtain ⟨v, rfl, hk⟩ := hR e w' h
 exact hk
end Go.Proofs.YtnbgnhhnpmmloaaGreatDoor
