import Derived.Test.YtnbgnhhnpmmloaaGreatDoorVC1
namespace Go.Proofs.YtnbgnhhnpmmloaaGreatDoor
open Go.ChangeShapes Go.WideShapes Go.ChangeAt Go.RowKit
set_option linter.unusedVariables false
set_option linter.unusedSimpArgs false
set_option maxRecDepth 100000
def RdEc (w : World) (v : Value) (es : List Ev) : Prop :=
 ∃ (p : Option Addr) (c : Nat), v = .slice p es.length c ∧ (es = [] ∨ ∃ b o, p = some ⟨b, o, none⟩ ∧ ∀ i e, es[i]? = some e → w.cell? ⟨b, o + i * 2, none⟩ = some (.int .i64 e.1) ∧ ∃ u, w.cell? ⟨b, o + i * 2 + 1, none⟩ = some u ∧ Rd w u e.2 ∧ CapOK u)
theorem RdEc.rd {w : World} {v : Value} {es : List Ev} (h : RdEc w v es) : RdE w v es := by
 obtain ⟨p, c, rfl, h⟩ := h
 refine ⟨p, c, rfl, ?_⟩
 rcases h with h | ⟨b, o, rfl, h⟩
 ·exact .inl h
 ·refine .inr ⟨b, o, rfl, fun i e he => ?_⟩
  obtain ⟨h1, u, h2, h3, _⟩ := h i e he
  exact ⟨h1, u, h2, h3⟩
theorem RdEc.below {w w' : World} {v : Value} {es : List Ev} (h : RdEc w v es) (hb : Below w.heap.size w w') : RdEc w' v es := by
 obtain ⟨p, c, rfl, h⟩ := h
 refine ⟨p, c, rfl, ?_⟩
 rcases h with h | ⟨b, o, rfl, h⟩
 ·exact .inl h
 ·refine .inr ⟨b, o, rfl, fun i e he => ?_⟩
  obtain ⟨h1, u, h2, h3, h4⟩ := h i e he
  exact ⟨cell_below h1 hb, u, cell_below h2 hb, h3.below hb, h4⟩
def RdSc (w : World) (v : Value) (ss : List Ses) : Prop :=
 ∃ (p : Option Addr) (c : Nat), v = .slice p ss.length c ∧ (ss = [] ∨ ∃ b o, p = some ⟨b, o, none⟩ ∧ ∀ i s, ss[i]? = some s → w.cell? ⟨b, o + i * 3, none⟩ = some (.int .u64 s.1) ∧ w.cell? ⟨b, o + i * 3 + 1, none⟩ = some (.int .i64 s.2.1) ∧ ∃ u, w.cell? ⟨b, o + i * 3 + 2, none⟩ = some u ∧ RdEc w u s.2.2)
theorem RdSc.rd {w : World} {v : Value} {ss : List Ses} (h : RdSc w v ss) : RdS w v ss := by
 obtain ⟨p, c, rfl, h⟩ := h
 refine ⟨p, c, rfl, ?_⟩
 rcases h with h | ⟨b, o, rfl, h⟩
 ·exact .inl h
 ·refine .inr ⟨b, o, rfl, fun i e he => ?_⟩
  obtain ⟨h1, h2, u, h3, h4⟩ := h i e he
  exact ⟨h1, h2, u, h3, h4.rd⟩
theorem RdSc.below {w w' : World} {v : Value} {ss : List Ses} (h : RdSc w v ss) (hb : Below w.heap.size w w') : RdSc w' v ss := by
 obtain ⟨p, c, rfl, h⟩ := h
 refine ⟨p, c, rfl, ?_⟩
 rcases h with h | ⟨b, o, rfl, h⟩
 ·exact .inl h
 ·refine .inr ⟨b, o, rfl, fun i e he => ?_⟩
  obtain ⟨h1, h2, u, h3, h4⟩ := h i e he
  exact ⟨cell_below h1 hb, cell_below h2 hb, u, cell_below h3 hb, h4.below hb⟩
def ML (w : World) : Prop := ∃ m, w.cell? ⟨1, 0, none⟩ = some (.int .i64 m)
theorem ML.below {w w' : World} (h : ML w) (hb : Below w.heap.size w w') : ML w' := by
 obtain ⟨m, h⟩ := h
 exact ⟨m, cell_below h hb⟩
theorem CapOK.of {p : Option Addr} {n c : Nat} (h : CapOK (.slice p n c)) : n ≤ c ∧ c ≤ maxLen := by
 obtain ⟨p', n', c', e, h1, h2⟩ := h
 simp only [Value.slice.injEq] at e
 obtain ⟨rfl, rfl, rfl⟩ := e
 exact ⟨h1, h2⟩
set_option maxHeartbeats 1600000 in
theorem validAt_any (K : Int) (pp : Option Addr) (pc m i : Nat) (P : List Int) (em : Hid (P.length = m)) (w : World) (hR : Rd w (.slice pp m pc) P) (hB : Hid (Byt P)) (hm : m ≤ 1048576) (hcap : CapOK (.slice pp m pc)) (hML : ML w) (B : Bool) (eB : Hid (evAt i (K, P) = B)) :
  Calls Tryz.prog 156 #[.agg #[.int .i64 K, .slice pp m pc], .int .i64 i] w fun r w' => r = .returned (.bool B) ∧ Below w.heap.size w w' := by
 obtain ⟨hc1, hc2⟩ := hcap.of
 have b1 : Below w.heap.size w (w.alloc (.cells #[.int .i64 K, .slice pp m pc] 147)) := (Below.refl _ _).alloc (Nat.le_refl _) _
 have HR := hide (hR.below b1)
 have HM := hide (hML.below b1)
 clear hR hML hcap
 by_cases h7 : i = 7
 ·subst h7
  by_cases h4 : K = 4
  ·subst h4
   by_cases hm0 : m = 0
   ·subst hm0
    have eT : B = true := by rw [← uh eB, evAt, if_pos rfl]; simp [uh em]
    subst eT
    go_enter Tryz.func156, Tryz.ntmps156
    go_wp2
    go_ret
    exact ⟨rfl, b1⟩
   ·have hm0d : ((m : Int) == 0) = false := by simp; omega
    have eT : B = false := by rw [← uh eB, evAt, if_pos rfl]; simp [uh em, hm0]
    subst eT
    go_enter Tryz.func156, Tryz.ntmps156
    go_wp2
    go_ret
    exact ⟨rfl, b1⟩
  ·have h4d : (K == 4) = false := by simp [h4]
   have eT : B = false := by rw [← uh eB, evAt, if_pos rfl]; simp [h4]
   subst eT
   go_enter Tryz.func156, Tryz.ntmps156
   go_wp2
   go_ret
   exact ⟨rfl, b1⟩
 ·have h7d : ((i : Int) == 7) = false := by simp; omega
  by_cases h1 : 1 ≤ K
  ·by_cases h3 : K ≤ 3
   ·have eV : Hid (vp P = B) := by show _ = _; rw [← uh eB, evAt, if_neg h7]; simp [h1, h3]
    go_enter Tryz.func156, Tryz.ntmps156
    go_wp2_with fail
    refine (implVP pp pc m P em _ (uh HR) hB hm hc1 hc2 (uh HM) B eV).mono ?_
    rintro r w2 ⟨rfl, hb2⟩
    have b2 := Below.step b1 hb2
    clear hb2
    go_wp2
    go_ret
    exact ⟨rfl, b2⟩
   ·have eT : B = false := by rw [← uh eB, evAt, if_neg h7]; simp [h3]
    subst eT
    go_enter Tryz.func156, Tryz.ntmps156
    go_wp2
    go_ret
    exact ⟨rfl, b1⟩
  ·have eT : B = false := by rw [← uh eB, evAt, if_neg h7]; simp [h1]
   subst eT
   go_enter Tryz.func156, Tryz.ntmps156
   go_wp2
   go_ret
   exact ⟨rfl, b1⟩
def sesV (nx : Int) (s : Ses) : Bool := decide (1 ≤ s.1) && (decide (s.1 ≤ nx) && (decide (0 ≤ s.2.1) && (decide (s.2.1 ≤ 1000015) && queueOK s.2.2)))
set_option maxHeartbeats 1600000 in
theorem sesValid_any (I D x : Int) (p : Option Addr) (c n : Nat) (Q : List Ev) (en : Hid (Q.length = n)) (w : World) (h : RdEc w (.slice p n c) Q) (hn : n ≤ 1048576) (hby : Hid (∀ e ∈ Q, Byt e.2 ∧ e.2.length ≤ 1048576)) (hML : ML w) (B : Bool) (eB : Hid (sesV x (I, D, Q) = B)) :
  Calls Tryz.prog 127 #[.agg #[.int .u64 I, .int .i64 D, .slice p n c], .int .u64 x] w fun r w' => r = .returned (.bool B) ∧ Below w.heap.size w w' := by
 have HR := hide fun (w' : World) (hb : Below w.heap.size w w') => And.intro (h.below hb) (hML.below hb)
 have b1 : Below w.heap.size w (w.alloc (.cells #[.int .u64 I, .int .i64 D, .slice p n c] 59)) := (Below.refl _ _).alloc (Nat.le_refl _) _
 have hB : B = (decide (1 ≤ I) && (decide (I ≤ x) && (decide (0 ≤ D) && (decide (D ≤ 1000015) && (decide (n ≤ 8) && (List.range n).all fun i => evAt i (Q.getD i (0, []))))))) := by
  rw [← uh eB, sesV, queueOK, uh en]
 have HB := hide hB
 clear h hML hB eB
 by_cases h1 : I < 1
 ·have eF : B = false := by rw [uh HB]; simp; omega
  subst eF
  clear HB
  go_enter Tryz.func127, Tryz.ntmps127
  go_wp2
  go_ret
  exact ⟨rfl, b1⟩
 ·by_cases h2 : x < I
  ·have eF : B = false := by rw [uh HB]; simp; omega
   subst eF
   clear HB
   go_enter Tryz.func127, Tryz.ntmps127
   go_wp2
   go_ret
   exact ⟨rfl, b1⟩
  ·by_cases h3 : D < 0
   ·have eF : B = false := by rw [uh HB]; simp; omega
    subst eF
    clear HB
    go_enter Tryz.func127, Tryz.ntmps127
    go_wp2
    go_ret
    exact ⟨rfl, b1⟩
   ·by_cases h4 : 1000015 < D
    ·have eF : B = false := by rw [uh HB]; simp; omega
     subst eF
     clear HB
     go_enter Tryz.func127, Tryz.ntmps127
     go_wp2
     go_ret
     exact ⟨rfl, b1⟩
    ·by_cases h8 : (8 : Int) < (n : Int)
     ·have eF : B = false := by rw [uh HB]; simp; omega
      subst eF
      clear HB
      go_enter Tryz.func127, Tryz.ntmps127
      go_wp2
      go_ret
      exact ⟨rfl, b1⟩
     ·have HB2 : Hid (B = (List.range n).all fun i => evAt i (Q.getD i (0, []))) := by
       show _ = _
       rw [uh HB]
       simp only [show decide (1 ≤ I) = true by (rw [decide_eq_true_iff]; omega), show decide (I ≤ x) = true by (rw [decide_eq_true_iff]; omega), show decide (0 ≤ D) = true by (rw [decide_eq_true_iff]; omega), show decide (D ≤ 1000015) = true by (rw [decide_eq_true_iff]; omega), show decide (n ≤ 8) = true by (rw [decide_eq_true_iff]; omega), Bool.true_and]
      clear HB
      go_enter Tryz.func127, Tryz.ntmps127
      go_wp2_with fail
      clear h1 h2 h3 h4 h8
      obtain ⟨W, hW⟩ : ∃ W, W = (w.alloc (.cells #[.int .u64 I, .int .i64 D, .slice p n c] 59)) := ⟨_, rfl⟩
      rw [← hW] at b1 ⊢
      clear hW
      go_loopw [35] (fun iv wr => ∃ k : Nat, k ≤ n ∧ iv = .int .i64 k ∧ Hid ((List.range k).all (fun i => evAt i (Q.getD i (0, []))) = true) ∧ Below w.heap.size w wr) (fun iv _ => n - (intOf iv).toNat)
      case atStart => exact ⟨0, Nat.zero_le _, rfl, (by show _ = _; rfl), b1⟩
      case round =>
       obtain ⟨k, hk, rfl, hok, hbr⟩ := hrel
       by_cases hlt : k < n
       ·have hlt' : (k : Int) < (n : Int) := by omega
        have hkl : k < Q.length := by rw [uh en]; exact hlt
        obtain ⟨⟨K, P⟩, hy⟩ : ∃ y, Q[k]? = some y := ⟨_, List.getElem?_eq_getElem hkl⟩
        have hyD : Q.getD k (0, []) = (K, P) := by rw [List.getD_eq_getElem?_getD, hy]; rfl
        obtain ⟨b, o, rfl, hcK, u, hcP, hrP, hcap⟩ : ∃ b o, p = some ⟨b, o, none⟩ ∧ wr.cell? ⟨b, o + k * 2, none⟩ = some (.int .i64 K) ∧ ∃ u, wr.cell? ⟨b, o + k * 2 + 1, none⟩ = some u ∧ Rd wr u P ∧ CapOK u := by
         obtain ⟨p', c', ev, hd⟩ := (uh HR _ hbr).1
         simp only [Value.slice.injEq] at ev
         obtain ⟨rfl, -, -⟩ := ev
         rcases hd with h0 | ⟨b, o, h1, h2⟩
         ·rw [h0] at hkl; simp at hkl
         ·exact ⟨b, o, h1, h2 k _ hy⟩
        obtain ⟨hBP, hPl⟩ := uh hby _ (List.mem_of_getElem? hy)
        obtain ⟨pp, pc, m, rfl, em⟩ := hrP.slc
        have hm : m ≤ 1048576 := by rw [← uh em]; exact hPl
        have HBP : Hid (Byt P) := hBP
        obtain ⟨V, eV⟩ : ∃ V, evAt k (K, P) = V := ⟨_, rfl⟩
        have EV := hide eV
        have hF : V = false → B = false := fun h => by rw [uh HB2]; exact range_all_no hlt (by rw [hyD, eV]; exact h)
        have hT : V = true → Hid ((List.range (k + 1)).all (fun i => evAt i (Q.getD i (0, []))) = true) := fun h => range_all_step (uh hok) (by rw [hyD, eV]; exact h)
        have HF := hide hF
        have HT := hide hT
        have b2 : Below wr.heap.size wr ((wr.alloc (.cells #[.int .i64 K, .slice pp m pc] 147))) := (Below.refl _ _).alloc (Nat.le_refl _) _
        have HRP := hide (hrP.below b2)
        have HML := hide ((uh HR _ hbr).2.below b2)
        have HCAP := hide hcap
        clear hkl hy hyD hBP hPl hrP eV hF hT hcap
        go_wp2_with fail
        refine (validAt_any K pp pc m k P em _ (by exact uh HRP) HBP hm (uh HCAP) (by exact uh HML) V EV).mono ?_
        rintro r w2 ⟨rfl, hb2⟩
        have b3 := Below.step hbr (Below.step b2 hb2)
        clear hb2 b2
        cases V with
        | false =>
         have eF := uh HF rfl
         subst eF
         go_wp2
         go_ret
         exact ⟨rfl, b3⟩
        | true =>
         have HOK := uh HT rfl
         go_wp2
         go_roundw
         case rel => exact ⟨k + 1, by omega, by go_num, HOK, b3⟩
         case measure => simp [intOf]; omega
       ·have hlt' : ¬ (k : Int) < (n : Int) := by omega
        have eT : B = true := by
         rw [uh HB2]
         have : k = n := by omega
         rw [← this]
         exact uh hok
        subst eT
        go_wp2
        go_ret
        exact ⟨rfl, hbr⟩
def limOK (e g x t : Int) (n m : Nat) : Bool := decide (e ≤ 4611686018427387904 ∧ g ≤ 4611686018427387904 ∧ x ≤ 4611686018427387904 ∧ 0 ≤ t ∧ t ≤ 1000000 ∧ n ≤ 50 ∧ m ≤ 200)
set_option maxHeartbeats 1600000 in
theorem limits_any (e g x t : Int) (p q : Option Addr) (c n d m : Nat) (w : World) (hn : n ≤ 1048576) (hm : m ≤ 1048576) (B : Bool) (eB : Hid (limOK e g x t n m = B)) :
  Calls Tryz.prog 92 #[stV e g x t (.slice p n c) (.slice q m d)] w fun r w' => r = .returned (.bool B) ∧ Below w.heap.size w w' := by
 go_enter Tryz.func92, Tryz.ntmps92
 go_wp2_with fail
 all_goals (
  go_ret
  refine ⟨?_, (Below.refl _ _).alloc (Nat.le_refl _) _⟩
  rw [← uh eB]
  simp only [limOK, Ending.returned.injEq, Value.bool.injEq])
 all_goals first | (simp_all; done) | (simp_all; omega) | (show Value.bool (decide ((m : Int) ≤ 200)) = Value.bool _; congr 1; rw [Bool.eq_iff_iff, decide_eq_true_iff, decide_eq_true_iff]; omega) | skip
set_option maxHeartbeats 1600000 in
theorem validLock_any (e g ow mo ep ge : Int) (P V U : Value) (p : Option Addr) (c n : Nat) (w : World) (hn : n ≤ 1048576) (B : Bool) (eB : Hid (lockOK e g mo n ep ge = B)) :
  Calls Tryz.prog 159 #[ndV P V ow mo (.slice p n c) ep ge U, .int .u64 e, .int .u64 g] w fun r w' => r = .returned (.bool B) ∧ Below w.heap.size w w' := by
 go_enter Tryz.func159, Tryz.ntmps159
 go_wp2_with fail
 all_goals (
  go_ret
  refine ⟨?_, (Below.refl _ _).alloc (Nat.le_refl _) _⟩
  rw [← uh eB]
  simp only [lockOK, Ending.returned.injEq, Value.bool.injEq])
 all_goals first | (simp_all; done) | (simp_all; omega) | skip
def ascI (l : List Int) : Bool := ascOf l.length (fun i j => decide (l.getD i 0 < l.getD j 0))
def nodV (e g : Int) (nd : Nod) : Bool := vp nd.path && (decide (nd.value.length ≤ 40) && (lockOK e g nd.mode nd.holders.length nd.epoch nd.gen && (ascI nd.holders && ascI nd.watchers)))
set_option maxHeartbeats 1600000 in
theorem validIn_any (e g x t : Int) (S N : Value) (nd : Nod) (pp vq hp up : Option Addr) (pc pn vc vn hc hh uc un : Nat) (ePn : Hid (nd.path.length = pn)) (eVn : Hid (nd.value.length = vn)) (eHn : Hid (nd.holders.length = hh)) (eUn : Hid (nd.watchers.length = un)) (w : World)
  (h0 : Rd w (.slice pp pn pc) nd.path) (h4 : RdU w (.slice hp hh hc) nd.holders) (h7 : RdU w (.slice up un uc) nd.watchers) (hBP : Hid (Byt nd.path)) (hpn : pn ≤ 1048576) (hvn : vn ≤ 1048576) (hhn : hh ≤ 1048576) (hun : un ≤ 1048576) (hcap : CapOK (.slice pp pn pc)) (hML : ML w) (B : Bool) (eB : Hid (nodV e g nd = B)) :
  Calls Tryz.prog 131 #[ndV (.slice pp pn pc) (.slice vq vn vc) nd.owner nd.mode (.slice hp hh hc) nd.epoch nd.gen (.slice up un uc), stV e g x t S N] w fun r w' => r = .returned (.bool B) ∧ Below w.heap.size w w' := by
 obtain ⟨hc1, hc2⟩ := hcap.of
 obtain ⟨ow, mo, ep, ge, e1, e2, e3, e4⟩ : ∃ a b c d, nd.owner = a ∧ nd.mode = b ∧ nd.epoch = c ∧ nd.gen = d := ⟨_, _, _, _, rfl, rfl, rfl, rfl⟩
 rw [e1, e2, e3, e4]
 have HR := hide fun (w' : World) (hb : Below w.heap.size w w') => And.intro (h0.below hb) (And.intro (h4.below hb) (And.intro (h7.below hb) (hML.below hb)))
 obtain ⟨T1, E1⟩ : ∃ T, Hid (vp nd.path = T) := ⟨_, (by show _ = _; rfl)⟩
 obtain ⟨T3, E3⟩ : ∃ T, Hid (lockOK e g mo hh ep ge = T) := ⟨_, (by show _ = _; rfl)⟩
 obtain ⟨T4, E4⟩ : ∃ T, Hid (ascOf hh (fun i j => decide (nd.holders.getD i 0 < nd.holders.getD j 0)) = T) := ⟨_, (by show _ = _; rfl)⟩
 obtain ⟨T5, E5⟩ : ∃ T, Hid (ascOf un (fun i j => decide (nd.watchers.getD i 0 < nd.watchers.getD j 0)) = T) := ⟨_, (by show _ = _; rfl)⟩
 have hB : B = (T1 && (decide (vn ≤ 40) && (T3 && (T4 && T5)))) := by
  rw [← uh eB, nodV, ascI, ascI, e2, e3, e4, uh eVn, uh eHn, uh eUn, uh E1, uh E3, uh E4, uh E5]
 have HB := hide hB
 clear h0 h4 h7 hML hB eB e1 e2 e3 e4 hcap
 obtain ⟨W, hW⟩ : ∃ W, W = ((w.alloc (.cells #[.slice pp pn pc, .slice vq vn vc, .int .u64 ow, .int .i64 mo, .slice hp hh hc, .int .u64 ep, .int .u64 ge, .slice up un uc] 66)).alloc (.cells #[.int .u64 e, .int .u64 g, .int .u64 x, .int .i64 t, S, N] 27)) := ⟨_, rfl⟩
 have bW : Below w.heap.size w W := by rw [hW]; exact ((Below.refl _ _).alloc (Nat.le_refl _) _).alloc (by simp) _
 have k0 : W.cell? ⟨w.heap.size, 0, none⟩ = some (.slice pp pn pc) := by rw [hW]; simp
 have k1 : W.cell? ⟨w.heap.size, 1, none⟩ = some (.slice vq vn vc) := by rw [hW]; simp
 have k2 : W.cell? ⟨w.heap.size, 2, none⟩ = some (.int .u64 ow) := by rw [hW]; simp
 have k3 : W.cell? ⟨w.heap.size, 3, none⟩ = some (.int .i64 mo) := by rw [hW]; simp
 have k4 : W.cell? ⟨w.heap.size, 4, none⟩ = some (.slice hp hh hc) := by rw [hW]; simp
 have k5 : W.cell? ⟨w.heap.size, 5, none⟩ = some (.int .u64 ep) := by rw [hW]; simp
 have k6 : W.cell? ⟨w.heap.size, 6, none⟩ = some (.int .u64 ge) := by rw [hW]; simp
 have k7 : W.cell? ⟨w.heap.size, 7, none⟩ = some (.slice up un uc) := by rw [hW]; simp
 have k8 : W.cell? ⟨w.heap.size + 1, 0, none⟩ = some (.int .u64 e) := by rw [hW]; simp
 have k9 : W.cell? ⟨w.heap.size + 1, 1, none⟩ = some (.int .u64 g) := by rw [hW]; simp
 go_enter Tryz.func131, Tryz.ntmps131
 go_wp2_with fail
 rw [← hW]
 clear hW
 refine (implVP pp pc pn nd.path ePn _ (uh HR _ bW).1 hBP hpn hc1 hc2 (uh HR _ bW).2.2.2 T1 E1).mono ?_
 rintro r w1 ⟨rfl, hb1⟩
 have b1 := Below.step bW hb1
 cases T1 with
 | false =>
  have eF : B = false := by rw [uh HB]; rfl
  subst eF
  clear k0 k1 k2 k3 k4 k5 k6 k7 k8 k9
  go_wp2
  go_ret
  exact ⟨rfl, b1⟩
 | true =>
  replace k0 := cell_below k0 hb1
  replace k1 := cell_below k1 hb1
  replace k2 := cell_below k2 hb1
  replace k3 := cell_below k3 hb1
  replace k4 := cell_below k4 hb1
  replace k5 := cell_below k5 hb1
  replace k6 := cell_below k6 hb1
  replace k7 := cell_below k7 hb1
  replace k8 := cell_below k8 hb1
  replace k9 := cell_below k9 hb1
  clear hb1 bW
  by_cases hv : (vn : Int) ≤ 40
  ·have HB2 : Hid (B = (T3 && (T4 && T5))) := by
    show _ = _
    rw [uh HB, show decide (vn ≤ 40) = true by (rw [decide_eq_true_iff]; omega)]
    rfl
   clear HB
   go_wp2_with fail
   refine (validLock_any e g ow mo ep ge _ _ _ hp hc hh _ hhn T3 E3).mono ?_
   rintro r w2 ⟨rfl, hb2⟩
   have b2 := Below.step b1 hb2
   cases T3 with
   | false =>
    have eF : B = false := by rw [uh HB2]; rfl
    subst eF
    clear k0 k1 k2 k3 k4 k5 k6 k7 k8 k9
    go_wp2
    go_ret
    exact ⟨rfl, b2⟩
   | true =>
    replace k4 := cell_below k4 hb2
    replace k7 := cell_below k7 hb2
    clear k0 k1 k2 k3 k5 k6 k8 k9 hb2
    go_wp2_with fail
    refine (ascU_any hp hc hh nd.holders eHn _ (uh HR _ b2).2.1 hhn T4 E4).mono ?_
    rintro r w3 ⟨rfl, hb3⟩
    have b3 := Below.step b2 hb3
    cases T4 with
    | false =>
     have eF : B = false := by rw [uh HB2]; rfl
     subst eF
     clear k4 k7
     go_wp2
     go_ret
     exact ⟨rfl, b3⟩
    | true =>
     have eT : B = T5 := by rw [uh HB2]; rfl
     subst eT
     replace k7 := cell_below k7 hb3
     clear k4 hb3
     go_wp2_with fail
     refine (ascU_any up uc un nd.watchers eUn _ (uh HR _ b3).2.2.1 hun B E5).mono ?_
     rintro r w4 ⟨rfl, hb4⟩
     have b4 := Below.step b3 hb4
     clear k7
     go_wp2
     go_ret
     exact ⟨rfl, b4⟩
  ·have eF : B = false := by rw [uh HB, show decide (vn ≤ 40) = false by (rw [decide_eq_false_iff_not]; omega)]; rfl
   subst eF
   clear k2 k3 k4 k5 k6 k7 k8 k9
   go_wp2
   go_ret
   exact ⟨rfl, b1⟩
def sesAll (x : Int) (ss : List Ses) : Bool := (List.range ss.length).all (fun i => sesV x (ss.getD i (0, 0, []))) && ascOf ss.length (fun i j => decide ((ss.getD i (0, 0, [])).1 < (ss.getD j (0, 0, [])).1))
def nodAll (e g : Int) (ns : List Nod) : Bool := (List.range ns.length).all (fun i => nodV e g (ns.getD i nod0)) && ascOf ns.length (fun i j => !leB (ns.getD j nod0).path (ns.getD i nod0).path)
set_option maxHeartbeats 1600000 in
theorem validSessions_any (e g x t : Int) (p : Option Addr) (c n : Nat) (N : Value) (ss : List Ses) (en : Hid (ss.length = n)) (w : World) (h : RdSc w (.slice p n c) ss) (hn : n ≤ 1048576)
  (hbs : Hid (∀ s ∈ ss, s.2.2.length ≤ 1048576 ∧ ∀ e ∈ s.2.2, Byt e.2 ∧ e.2.length ≤ 1048576)) (hML : ML w) (B : Bool) (eB : Hid (sesAll x ss = B)) :
  Calls Tryz.prog 93 #[stV e g x t (.slice p n c) N] w fun r w' => r = .returned (.bool B) ∧ Below w.heap.size w w' := by
 have HR := hide fun (w' : World) (hb : Below w.heap.size w w') => And.intro (h.below hb) (hML.below hb)
 obtain ⟨T2, E2⟩ : ∃ T, Hid (ascOf n (fun i j => decide ((ss.getD i (0, 0, [])).1 < (ss.getD j (0, 0, [])).1)) = T) := ⟨_, (by show _ = _; rfl)⟩
 have HB : Hid (B = ((List.range n).all (fun i => sesV x (ss.getD i (0, 0, []))) && T2)) := by show _ = _; rw [← uh eB, sesAll, uh en, uh E2]
 clear h hML eB
 go_enter Tryz.func93, Tryz.ntmps93
 go_wp2_with fail
 obtain ⟨W, hW⟩ : ∃ W, W = (w.alloc (.cells #[.int .u64 e, .int .u64 g, .int .u64 x, .int .i64 t, .slice p n c, N] 27)) := ⟨_, rfl⟩
 have bW : Below w.heap.size w W := by rw [hW]; exact (Below.refl _ _).alloc (Nat.le_refl _) _
 have hc2 : W.cell? ⟨w.heap.size, 2, none⟩ = some (.int .u64 x) := by rw [hW]; simp
 have hc4 : W.cell? ⟨w.heap.size, 4, none⟩ = some (.slice p n c) := by rw [hW]; simp
 rw [← hW]
 clear hW
 have BW := hide bW
 have HC2 := hide (And.intro hc2 hc4)
 clear bW hc2 hc4
 go_loopw [8] (fun iv wr => ∃ k : Nat, k ≤ n ∧ iv = .int .i64 k ∧ Hid ((List.range k).all (fun i => sesV x (ss.getD i (0, 0, []))) = true) ∧ Below W.heap.size W wr) (fun iv _ => n - (intOf iv).toNat)
 case atStart => exact ⟨0, Nat.zero_le _, rfl, (by show _ = _; rfl), Below.refl _ _⟩
 case round =>
  obtain ⟨k, hk, rfl, hok, hbr⟩ := hrel
  have BB := Below.step (uh BW) hbr
  have i2 := cell_below (uh HC2).1 hbr
  have i4 := cell_below (uh HC2).2 hbr
  by_cases hlt : k < n
  ·have hlt' : (k : Int) < (n : Int) := by omega
   have hkl : k < ss.length := by rw [uh en]; exact hlt
   obtain ⟨⟨I, D, Q⟩, hy⟩ : ∃ y, ss[k]? = some y := ⟨_, List.getElem?_eq_getElem hkl⟩
   have hyD : ss.getD k (0, 0, []) = (I, D, Q) := by rw [List.getD_eq_getElem?_getD, hy]; rfl
   obtain ⟨b, o, rfl, hcI, hcD, u, hcQ, hrQ⟩ : ∃ b o, p = some ⟨b, o, none⟩ ∧ wr.cell? ⟨b, o + k * 3, none⟩ = some (.int .u64 I) ∧ wr.cell? ⟨b, o + k * 3 + 1, none⟩ = some (.int .i64 D) ∧ ∃ u, wr.cell? ⟨b, o + k * 3 + 2, none⟩ = some u ∧ RdEc wr u Q := by
    obtain ⟨p', c', ev, hd⟩ := (uh HR _ BB).1
    simp only [Value.slice.injEq] at ev
    obtain ⟨rfl, -, -⟩ := ev
    rcases hd with h0 | ⟨b, o, h1, h2⟩
    ·rw [h0] at hkl; simp at hkl
    ·exact ⟨b, o, h1, h2 k _ hy⟩
   obtain ⟨hQl, hQb⟩ := uh hbs _ (List.mem_of_getElem? hy)
   obtain ⟨pq, cq, rfl, -⟩ := id hrQ
   obtain ⟨m, em⟩ : ∃ m, Q.length = m := ⟨_, rfl⟩
   rw [em] at hrQ hcQ
   have hm : m ≤ 1048576 := by rw [← em]; exact hQl
   have EM := hide em
   have HBQ : Hid (∀ e ∈ Q, Byt e.2 ∧ e.2.length ≤ 1048576) := hQb
   obtain ⟨V, eV⟩ : ∃ V, sesV x (I, D, Q) = V := ⟨_, rfl⟩
   have EV := hide eV
   have HF : Hid (V = false → B = false) := fun h => by rw [uh HB, range_all_no hlt (by rw [hyD, eV]; exact h)]; rfl
   have HT : Hid (V = true → Hid ((List.range (k + 1)).all (fun i => sesV x (ss.getD i (0, 0, []))) = true)) := fun h => range_all_step (uh hok) (by rw [hyD, eV]; exact h)
   have b2 : Below wr.heap.size wr ((wr.alloc (.cells #[.int .u64 I, .int .i64 D, .slice pq m cq] 59))) := (Below.refl _ _).alloc (Nat.le_refl _) _
   have HRQ := hide (hrQ.below b2)
   have HML := hide ((uh HR _ BB).2.below b2)
   have j2 := cell_below i2 b2
   clear hkl hy hyD hQl hQb hrQ eV em
   go_wp2_with fail
   refine (sesValid_any I D x pq cq m Q EM _ (by exact uh HRQ) hm HBQ (by exact uh HML) V EV).mono ?_
   rintro r w2 ⟨rfl, hb2⟩
   have b3 := Below.step hbr (Below.step b2 hb2)
   have B3 := Below.step (uh BW) b3
   clear hb2 b2 i2 i4 j2
   cases V with
   | false =>
    have eF := uh HF rfl
    subst eF
    go_wp2
    go_ret
    exact ⟨rfl, B3⟩
   | true =>
    have HOK := uh HT rfl
    go_wp2
    go_roundw
    case rel => exact ⟨k + 1, by omega, by go_num, HOK, b3⟩
    case measure => simp [intOf]; omega
  ·have hlt' : ¬ (k : Int) < (n : Int) := by omega
   have ekn : k = n := by omega
   have eT : B = T2 := by
    rw [uh HB, show (List.range n).all (fun i => sesV x (ss.getD i (0, 0, []))) = true from ekn ▸ uh hok, Bool.true_and]
   subst eT
   go_wp2_with fail
   refine (ascS_any p c n ss en _ (uh HR _ BB).1.rd hn B E2).mono ?_
   rintro r w2 ⟨rfl, hb2⟩
   have b3 := Below.step BB hb2
   clear hb2 i2 i4
   go_wp2
   go_ret
   exact ⟨rfl, b3⟩
set_option maxHeartbeats 1600000 in
theorem validNodes_any (e g x t : Int) (S : Value) (q : Option Addr) (d m : Nat) (ns : List Nod) (em : Hid (ns.length = m)) (w : World) (h : RdN w (.slice q m d) ns) (hm : m ≤ 1048576)
  (hby : Hid (∀ nd ∈ ns, Byt nd.path ∧ nd.path.length ≤ 1048576 ∧ nd.value.length ≤ 1048576 ∧ nd.holders.length ≤ 1048576 ∧ nd.watchers.length ≤ 1048576)) (hML : ML w) (B : Bool) (eB : Hid (nodAll e g ns = B)) :
  Calls Tryz.prog 94 #[stV e g x t S (.slice q m d)] w fun r w' => r = .returned (.bool B) ∧ Below w.heap.size w w' := by
 have HR := hide fun (w' : World) (hb : Below w.heap.size w w') => And.intro (h.below hb) (hML.below hb)
 obtain ⟨T2, E2⟩ : ∃ T, Hid (ascOf m (fun i j => !leB (ns.getD j nod0).path (ns.getD i nod0).path) = T) := ⟨_, (by show _ = _; rfl)⟩
 have HB : Hid (B = ((List.range m).all (fun i => nodV e g (ns.getD i nod0)) && T2)) := by show _ = _; rw [← uh eB, nodAll, uh em, uh E2]
 clear h hML eB
 go_enter Tryz.func94, Tryz.ntmps94
 go_wp2_with fail
 obtain ⟨W, hW⟩ : ∃ W, W = (w.alloc (.cells #[.int .u64 e, .int .u64 g, .int .u64 x, .int .i64 t, S, .slice q m d] 27)) := ⟨_, rfl⟩
 have bW : Below w.heap.size w W := by rw [hW]; exact (Below.refl _ _).alloc (Nat.le_refl _) _
 have hc6 : St6 W w.heap.size e g x t S (.slice q m d) := by rw [hW]; simp [St6]
 rw [← hW]
 clear hW
 have BW := hide bW
 have HC6 := hide hc6
 clear bW hc6
 go_loopw [8] (fun iv wr => ∃ k : Nat, k ≤ m ∧ iv = .int .i64 k ∧ Hid ((List.range k).all (fun i => nodV e g (ns.getD i nod0)) = true) ∧ Below W.heap.size W wr) (fun iv _ => m - (intOf iv).toNat)
 case atStart => exact ⟨0, Nat.zero_le _, rfl, (by show _ = _; rfl), Below.refl _ _⟩
 case round =>
  obtain ⟨k, hk, rfl, hok, hbr⟩ := hrel
  have BB := Below.step (uh BW) hbr
  obtain ⟨i0, i1, i2, i3, i4, i5⟩ := (uh HC6).below hbr
  by_cases hlt : k < m
  ·have hlt' : (k : Int) < (m : Int) := by omega
   have hkl : k < ns.length := by rw [uh em]; exact hlt
   obtain ⟨nd, hy⟩ : ∃ y, ns[k]? = some y := ⟨_, List.getElem?_eq_getElem hkl⟩
   have hyD : ns.getD k nod0 = nd := by rw [List.getD_eq_getElem?_getD, hy]; rfl
   obtain ⟨b, o, rfl, hA⟩ := (uh HR _ BB).1.at (by omega)
   obtain ⟨P, V, H, U, hnd⟩ := hA k nd hy
   obtain ⟨hB1, hB2, hB3, hB4, hB5⟩ := uh hby _ (List.mem_of_getElem? hy)
   obtain ⟨pp, pc, pn, rfl, ePn⟩ := hnd.r0.slc
   obtain ⟨vp', vc, vn, rfl, eVn⟩ := hnd.r1.slc
   obtain ⟨hp, hc, hh, rfl, eHn⟩ := hnd.r4.slc
   obtain ⟨up, uc, un, rfl, eUn⟩ := hnd.r7.slc
   have hpn : pn ≤ 1048576 := by rw [← uh ePn]; exact hB2
   have hvn : vn ≤ 1048576 := by rw [← uh eVn]; exact hB3
   have hhn : hh ≤ 1048576 := by rw [← uh eHn]; exact hB4
   have hun : un ≤ 1048576 := by rw [← uh eUn]; exact hB5
   have HBP : Hid (Byt nd.path) := hB1
   obtain ⟨T, eV⟩ : ∃ V, nodV e g nd = V := ⟨_, rfl⟩
   have EV := hide eV
   have HF : Hid (T = false → B = false) := fun h => by rw [uh HB, range_all_no hlt (by rw [hyD, eV]; exact h)]; rfl
   have HT : Hid (T = true → Hid ((List.range (k + 1)).all (fun i => nodV e g (ns.getD i nod0)) = true)) := fun h => range_all_step (uh hok) (by rw [hyD, eV]; exact h)
   have b2 : Below wr.heap.size wr (wr.alloc (.cells #[.slice pp pn pc, .slice vp' vn vc, .int .u64 nd.owner, .int .i64 nd.mode, .slice hp hh hc, .int .u64 nd.epoch, .int .u64 nd.gen, .slice up un uc] 66)) := (Below.refl _ _).alloc (Nat.le_refl _) _
   have HND := hide (hnd.below b2)
   have HML := hide ((uh HR _ BB).2.below b2)
   obtain ⟨c0, c1, c2, c3, c4, c5, c6, c7, -, -, -, -, -⟩ := hnd
   have j0 := cell_below i0 b2
   have j1 := cell_below i1 b2
   have j2 := cell_below i2 b2
   have j3 := cell_below i3 b2
   have j4 := cell_below i4 b2
   have j5 := cell_below i5 b2
   clear hkl hy hyD hB1 hB2 hB3 hB4 hB5 eV hA
   go_wp2_with fail
   refine (validIn_any e g x t _ _ nd pp vp' hp up pc pn vc vn hc hh uc un ePn eVn eHn eUn _ (by exact (uh HND).r0) (by exact (uh HND).r4) (by exact (uh HND).r7) HBP hpn hvn hhn hun (uh HND).k0 (by exact uh HML) T EV).mono ?_
   rintro r w2 ⟨rfl, hb2⟩
   have b3 := Below.step hbr (Below.step b2 hb2)
   have B3 := Below.step (uh BW) b3
   clear hb2 b2 i0 i1 i2 i3 i4 i5 c0 c1 c2 c3 c4 c5 c6 c7 j0 j1 j2 j3 j4 j5
   cases T with
   | false =>
    have eF := uh HF rfl
    subst eF
    go_wp2
    go_ret
    exact ⟨rfl, B3⟩
   | true =>
    have HOK := uh HT rfl
    go_wp2
    go_roundw
    case rel => exact ⟨k + 1, by omega, by go_num, HOK, b3⟩
    case measure => simp [intOf]; omega
  ·have hlt' : ¬ (k : Int) < (m : Int) := by omega
   have ekn : k = m := by omega
   have eT : B = T2 := by
    rw [uh HB, show (List.range m).all (fun i => nodV e g (ns.getD i nod0)) = true from ekn ▸ uh hok, Bool.true_and]
   subst eT
   go_wp2_with fail
   refine (ascN_any q d m ns em _ (uh HR _ BB).1 hm B E2).mono ?_
   rintro r w2 ⟨rfl, hb2⟩
   have b3 := Below.step BB hb2
   clear hb2 i0 i1 i2 i3 i4 i5
   go_wp2
   go_ret
   exact ⟨rfl, b3⟩
end Go.Proofs.YtnbgnhhnpmmloaaGreatDoor
