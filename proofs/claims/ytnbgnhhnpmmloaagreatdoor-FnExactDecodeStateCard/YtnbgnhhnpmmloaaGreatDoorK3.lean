import Derived.Test.YtnbgnhhnpmmloaaGreatDoorK2
import Derived.Test.YtnbgnhhnpmmloaaGreatDoorK1
namespace Go.Proofs.YtnbgnhhnpmmloaaGreatDoor
open Go.ChangeShapes Go.WideShapes Go.ChangeAt Go.RowKit
set_option linter.unusedVariables false
set_option linter.unusedSimpArgs false
set_option maxRecDepth 100000
theorem cut_len {t : List Int} : ∀ n ∈ cutG (47 : Int) t, n.length ≤ t.length := by
 induction t with
 | nil => intro n hn; simp [cutG] at hn; subst hn; simp
 | cons x l ih =>
  intro n hn
  rw [cutG] at hn
  split at hn
  ·rcases List.mem_cons.1 hn with rfl | hn
   ·simp
   ·have := ih n hn; simp; omega
  ·cases hc : cutG 47 l with
   | nil =>
    rw [hc] at hn
    simp at hn
    subst hn
    simp
   | cons m ms =>
    rw [hc] at hn ih
    rcases List.mem_cons.1 hn with rfl | hn
    ·have := ih m (by simp); simp; omega
    ·have := ih n (by simp [hn]); simp; omega
set_option maxHeartbeats 4000000 in
theorem implVP (p : Option Addr) (c n : Nat) (l : List Int) (en : Hid (l.length = n)) (w : World) (h : Rd w (.slice p n c) l) (hb : Hid (Byt l)) (hl : n ≤ 1048576) (hcn : n ≤ c) (hcm : c ≤ maxLen) (hm : ∃ m, w.cell? ⟨1, 0, none⟩ = some (.int .i64 m)) (B : Bool) (eB : Hid (vp l = B)) :
  Calls Tryz.prog 158 #[.slice p n c] w fun e w' => e = .returned (.bool B) ∧ Below w.heap.size w w' := by
 have HR := hide h
 have HM := hide hm
 clear h hm
 by_cases hn0 : n = 0
 ·subst hn0
  have eF : B = false := by
   rw [← uh eB, List.length_eq_zero_iff.1 (uh en)]
   rfl
  subst eF
  go_enter Tryz.func158, Tryz.ntmps158
  go_wp2
  go_ret
  exact ⟨rfl, Below.refl _ _⟩
 have hn1 : ((n : Int) == 0) = false := by simp [hn0]
 obtain ⟨b, o, rfl, -, hc⟩ := (uh HR).at (by rw [uh en]; omega)
 obtain ⟨x, t, el⟩ : ∃ x t, l = x :: t := by
  cases l with
  | nil => have := uh en; simp at this; omega
  | cons x t => exact ⟨x, t, rfl⟩
 have hx : w.cell? ⟨b, o, none⟩ = some (.int .u8 x) := by
  have := hc 0 (by rw [uh en]; omega)
  rw [el] at this
  exact this
 by_cases h47 : x = 47
 ·subst h47
  have ent : t.length = n - 1 := by have := uh en; rw [el] at this; simp at this; omega
  have hct : ∀ i, i < n - 1 → w.cell? ⟨b, o + 1 + i, none⟩ = some (.int .u8 (t.getD i 0)) := fun i hi => by
   have := hc (1 + i) (by rw [uh en]; omega)
   rw [el, ← Nat.add_assoc] at this
   rw [this]
   simp [List.getD, Nat.add_comm 1 i]
  have hbt : Byt t := fun z hz => uh hb z (by rw [el]; simp [hz])
  obtain ⟨K, eK⟩ : ∃ K, (cutG 47 t).length = K := ⟨_, rfl⟩
  have hst : B = (decide (K ≤ 8) && (cutG 47 t).all nmOK) := by
   rw [← uh eB, el, vp, st, eK]
   simp
  have hK1 : K ≤ n + 1 := by
   have h1 := (split_ints hbt).2
   have h2 := Lib.count_le (Lib.bytesOf t) (Lib.bytesOf [47])
   rw [Lib.bytesOf_length, ent] at h2
   omega
  obtain ⟨N, eN⟩ : ∃ N, n - 1 = N := ⟨_, rfl⟩
  obtain ⟨C, eC⟩ : ∃ C, c - 1 = C := ⟨_, rfl⟩
  have hsp : ∀ (o' : Nat) (w' : World), (N = 0 ∨ o' = o + 1) → Below w.heap.size w w' → w'.cell? ⟨w.heap.size, 0, none⟩ = some (.int .u8 47) → Calls Tryz.prog 178 #[.slice (some ⟨b, o', none⟩) N C, .slice (some ⟨w.heap.size, 0, none⟩) 1 1] w' fun e w'' => e = .returned (.slice (some ⟨w'.heap.size, 0, none⟩) K K) ∧ (∀ j nm, (cutG 47 t)[j]? = some nm → ∃ p' c', w''.cell? ⟨w'.heap.size, j, none⟩ = some (.slice p' nm.length c') ∧ Rd w'' (.slice p' nm.length c') nm) ∧ Below w'.heap.size w' w'' := by
   intro o' w' ho' hb' hg
   refine split_any b o' N C t (by rw [ent, eN]) w.heap.size w' (fun i hi => ?_) hg hbt (by omega) (by omega) (by omega) ?_ K eK
   ·rcases ho' with h0 | rfl
    ·omega
    ·exact (hb'.cell (p := ⟨b, o + 1 + i, none⟩) (World.block_lt_of_cell? w _ (hct i (by omega)))).trans (hct i (by omega))
   ·obtain ⟨m, hm⟩ := uh HM
    exact ⟨m, (hb'.cell (p := ⟨1, 0, none⟩) (World.block_lt_of_cell? w _ hm)).trans hm⟩
  have HSP := hide hsp
  have HST := hide hst
  have EK := hide eK
  have g1 : (1 : Int) ≤ (n : Int) := by omega
  have g2 : (1 : Int) ≤ (c : Int) := by omega
  have g3 : (n : Int) ≤ (c : Int) := by omega
  have HN := hide (And.intro eN eC)
  clear hsp hst hct hbt ent eK hc eN eC
  have bA : Below w.heap.size w (w.alloc (.cells #[.int .u8 47] 5)) := (Below.refl _ _).alloc (Nat.le_refl _) _
  have hfin : ∀ o', (N = 0 ∨ o' = o + 1) → Calls Tryz.prog 178 #[.slice (some ⟨b, o', none⟩) N C, .slice (some ⟨w.heap.size, 0, none⟩) 1 1] (w.alloc (.cells #[.int .u8 47] 5)) fun e w'' => e = .returned (.slice (some ⟨w.heap.size + 1, 0, none⟩) K K) ∧ (∀ j nm, (cutG 47 t)[j]? = some nm → ∃ p' c', w''.cell? ⟨w.heap.size + 1, j, none⟩ = some (.slice p' nm.length c') ∧ Rd w'' (.slice p' nm.length c') nm) ∧ Below w.heap.size w w'' := by
   intro o' ho'
   have e : (w.alloc (.cells #[.int .u8 47] 5)).heap.size = w.heap.size + 1 := by simp
   have := uh HSP o' _ ho' bA (by simp)
   rw [e] at this
   refine this.mono ?_
   rintro e1 w1 ⟨rfl, h1, h2⟩
   refine ⟨rfl, h1, ?_⟩
   rw [← e] at h2
   exact Below.step bA h2
  have HF := hide hfin
  clear hfin bA
  have hlen : ∀ nm ∈ cutG (47 : Int) t, nm.length ≤ 2097152 := fun nm hnm => by
   have h1 := cut_len nm hnm
   have h2 := uh en
   rw [el] at h2
   simp at h2
   omega
  have HL := hide hlen
  clear hlen el
  by_cases hc1 : c = 1
  ·subst hc1
   obtain rfl : n = 1 := by omega
   go_enter Tryz.func158, Tryz.ntmps158
   go_wp2_with fail
   have hN0 : (0 : Nat) = N := by have := (uh HN).1; omega
   have hC0 : (0 : Nat) = C := by have := (uh HN).2; omega
   have hsp := uh HF o (.inl hN0.symm)
   rw [← hN0, ← hC0] at hsp
   clear hN0 hC0
   refine hsp.mono ?_
   rintro e w2 ⟨rfl, hpc, hb2⟩
   have HP := hide hpc
   clear hsp hpc
   by_cases hk8 : K ≤ 8
   ·have hk8' : ¬ (8 : Int) < (K : Int) := by omega
    go_wp2
    go_loopw [24] (fun i wr => ∃ k : Nat, k ≤ K ∧ i = .int .i64 k ∧ Hid (∀ j nm, j < k → (cutG 47 t)[j]? = some nm → nmOK nm = true) ∧ Below w2.heap.size w2 wr) (fun i _ => K - (intOf i).toNat)
    case atStart => exact ⟨0, Nat.zero_le _, rfl, (fun j nm hj => by omega), Below.refl _ _⟩
    case round =>
     obtain ⟨k, hk, rfl, hok, hbr⟩ := hrel
     have BB := Below.step hb2 hbr
     by_cases hlt : k < K
     ·have hlt' : (k : Int) < (K : Int) := by omega
      obtain ⟨nm, hnm⟩ : ∃ nm, (cutG 47 t)[k]? = some nm := ⟨_, List.getElem?_eq_getElem (by rw [uh EK]; exact hlt)⟩
      obtain ⟨p', c', hcl, hrd⟩ := uh HP k nm hnm
      have hcl2 := cell_below hcl hbr
      have hrd2 := hrd.below hbr
      have hnl := uh HL nm (List.mem_of_getElem? hnm)
      obtain ⟨nl, enl⟩ : ∃ nl, nm.length = nl := ⟨_, rfl⟩
      rw [enl] at hcl2 hrd2 hnl
      have ENL := hide enl
      have HNM := hide hnm
      clear hcl hrd enl hnm
      obtain ⟨R, eR⟩ : ∃ R, nmOK nm = R := ⟨_, rfl⟩
      have ER := hide eR
      clear eR
      go_wp2_with fail
      refine (validName_any p' c' nl nm ENL _ hrd2 hnl R ER).mono ?_
      rintro e w3 ⟨rfl, hb3⟩
      have b3 := Below.step hbr hb3
      cases R with
      | true =>
       have HOK : Hid (∀ j nm, j < k + 1 → (cutG 47 t)[j]? = some nm → nmOK nm = true) := fun j nm' hj hj2 => by
        by_cases e : j = k
        ·subst e
         have e2 := (uh HNM).symm.trans hj2
         simp at e2
         rw [← e2]; exact uh ER
        ·exact uh hok j nm' (by omega) hj2
       clear hcl2 hrd2 hb3 hbr BB
       go_wp2
       go_roundw
       case rel => exact ⟨k + 1, by omega, by go_num, HOK, b3⟩
       case measure => simp [intOf]; omega
      | false =>
       have eF : B = false := by
        rw [uh HST]
        have : (cutG 47 t).all nmOK = false := by
         rw [List.all_eq_false]
         exact ⟨nm, List.mem_of_getElem? (uh HNM), by simp [uh ER]⟩
        rw [this]
        simp
       subst eF
       clear hcl2 hrd2
       go_wp2
       go_ret
       exact ⟨rfl, Below.step BB hb3⟩
     ·have hlt' : ¬ (k : Int) < (K : Int) := by omega
      have eT : B = true := by
       rw [uh HST]
       have : (cutG 47 t).all nmOK = true := by
        rw [List.all_eq_true]
        intro nm hnm
        obtain ⟨i, hi, rfl⟩ := List.getElem_of_mem hnm
        exact uh hok i _ (by rw [uh EK] at hi; omega) (List.getElem?_eq_getElem hi)
       simp [this, hk8]
      subst eT
      go_wp2
      go_ret
      exact ⟨rfl, BB⟩
   ·have hk8' : (8 : Int) < (K : Int) := by omega
    have eF : B = false := by rw [uh HST]; simp [hk8]
    subst eF
    go_wp2
    go_ret
    exact ⟨rfl, hb2⟩
  ·have hc1' : ¬ (c : Int) = 1 := by omega
   go_enter Tryz.func158, Tryz.ntmps158
   go_wp2_with fail
   have hsp := uh HF (o + 1) (.inr rfl)
   rw [← (uh HN).1, ← (uh HN).2] at hsp
   refine hsp.mono ?_
   rintro e w2 ⟨rfl, hpc, hb2⟩
   have HP := hide hpc
   clear hsp hpc
   by_cases hk8 : K ≤ 8
   ·have hk8' : ¬ (8 : Int) < (K : Int) := by omega
    go_wp2
    go_loopw [24] (fun i wr => ∃ k : Nat, k ≤ K ∧ i = .int .i64 k ∧ Hid (∀ j nm, j < k → (cutG 47 t)[j]? = some nm → nmOK nm = true) ∧ Below w2.heap.size w2 wr) (fun i _ => K - (intOf i).toNat)
    case atStart => exact ⟨0, Nat.zero_le _, rfl, (fun j nm hj => by omega), Below.refl _ _⟩
    case round =>
     obtain ⟨k, hk, rfl, hok, hbr⟩ := hrel
     have BB := Below.step hb2 hbr
     by_cases hlt : k < K
     ·have hlt' : (k : Int) < (K : Int) := by omega
      obtain ⟨nm, hnm⟩ : ∃ nm, (cutG 47 t)[k]? = some nm := ⟨_, List.getElem?_eq_getElem (by rw [uh EK]; exact hlt)⟩
      obtain ⟨p', c', hcl, hrd⟩ := uh HP k nm hnm
      have hcl2 := cell_below hcl hbr
      have hrd2 := hrd.below hbr
      have hnl := uh HL nm (List.mem_of_getElem? hnm)
      obtain ⟨nl, enl⟩ : ∃ nl, nm.length = nl := ⟨_, rfl⟩
      rw [enl] at hcl2 hrd2 hnl
      have ENL := hide enl
      have HNM := hide hnm
      clear hcl hrd enl hnm
      obtain ⟨R, eR⟩ : ∃ R, nmOK nm = R := ⟨_, rfl⟩
      have ER := hide eR
      clear eR
      go_wp2_with fail
      refine (validName_any p' c' nl nm ENL _ hrd2 hnl R ER).mono ?_
      rintro e w3 ⟨rfl, hb3⟩
      have b3 := Below.step hbr hb3
      cases R with
      | true =>
       have HOK : Hid (∀ j nm, j < k + 1 → (cutG 47 t)[j]? = some nm → nmOK nm = true) := fun j nm' hj hj2 => by
        by_cases e : j = k
        ·subst e
         have e2 := (uh HNM).symm.trans hj2
         simp at e2
         rw [← e2]; exact uh ER
        ·exact uh hok j nm' (by omega) hj2
       clear hcl2 hrd2 hb3 hbr BB
       go_wp2
       go_roundw
       case rel => exact ⟨k + 1, by omega, by go_num, HOK, b3⟩
       case measure => simp [intOf]; omega
      | false =>
       have eF : B = false := by
        rw [uh HST]
        have : (cutG 47 t).all nmOK = false := by
         rw [List.all_eq_false]
         exact ⟨nm, List.mem_of_getElem? (uh HNM), by simp [uh ER]⟩
        rw [this]
        simp
       subst eF
       clear hcl2 hrd2
       go_wp2
       go_ret
       exact ⟨rfl, Below.step BB hb3⟩
     ·have hlt' : ¬ (k : Int) < (K : Int) := by omega
      have eT : B = true := by
       rw [uh HST]
       have : (cutG 47 t).all nmOK = true := by
        rw [List.all_eq_true]
        intro nm hnm
        obtain ⟨i, hi, rfl⟩ := List.getElem_of_mem hnm
        exact uh hok i _ (by rw [uh EK] at hi; omega) (List.getElem?_eq_getElem hi)
       simp [this, hk8]
      subst eT
      go_wp2
      go_ret
      exact ⟨rfl, BB⟩
   ·have hk8' : (8 : Int) < (K : Int) := by omega
    have eF : B = false := by rw [uh HST]; simp [hk8]
    subst eF
    go_wp2
    go_ret
    exact ⟨rfl, hb2⟩
 ·have hx1 : (x == 47) = false := by simp [h47]
  have hx2 : (x != 47) = true := by simp [h47]
  have eF : B = false := by
   rw [← uh eB, el, vp]
   exact st_first h47
  subst eF
  go_enter Tryz.func158, Tryz.ntmps158
  go_wp2
  go_ret
  exact ⟨rfl, Below.refl _ _⟩
set_option maxHeartbeats 1000000 in
theorem specVP (p : Option Addr) (c n : Nat) (l : List Int) (en : Hid (l.length = n)) (w : World) (h : Rd w (.slice p n c) l) (hb : Hid (Byt l)) (hl : n ≤ 1048576) (B : Bool) (eB : Hid (vp l = B)) :
  Calls Tryz.prog 112 #[.slice p n c] w fun e w' => e = .returned (.bool B) ∧ Below w.heap.size w w' := by
 go_enter Tryz.func112, Tryz.ntmps112
 go_wp2_with fail
 refine (l3names_any p c n l en _ h (uh hb) hl B eB).mono ?_
 rintro e w1 ⟨⟨v, rfl⟩, hb1⟩
 go_wp2
 go_ret
 exact ⟨rfl, hb1⟩
abbrev At7 (w : World) (b : Nat) (v0 v1 v2 v3 v4 v5 v6 : Value) : Prop := w.cell? ⟨b, 0, none⟩ = some v0 ∧ w.cell? ⟨b, 1, none⟩ = some v1 ∧ w.cell? ⟨b, 2, none⟩ = some v2 ∧ w.cell? ⟨b, 3, none⟩ = some v3 ∧ w.cell? ⟨b, 4, none⟩ = some v4 ∧ w.cell? ⟨b, 5, none⟩ = some v5 ∧ w.cell? ⟨b, 6, none⟩ = some v6
theorem At7.below {w w' : World} {b : Nat} {v0 v1 v2 v3 v4 v5 v6 : Value} (h : At7 w b v0 v1 v2 v3 v4 v5 v6) (hb : Below w.heap.size w w') : At7 w' b v0 v1 v2 v3 v4 v5 v6 :=
 ⟨cell_below h.1 hb, cell_below h.2.1 hb, cell_below h.2.2.1 hb, cell_below h.2.2.2.1 hb, cell_below h.2.2.2.2.1 hb, cell_below h.2.2.2.2.2.1 hb, cell_below h.2.2.2.2.2.2 hb⟩
theorem frozen_bel {w w' : World} {b : Nat} (h : ∀ o, w.frozen? ⟨b, o, none⟩ = false) (hl : b < w.heap.size) (hb : Below w.heap.size w w') : ∀ o, w'.frozen? ⟨b, o, none⟩ = false := fun o => (hb.frozen (p := ⟨b, o, none⟩) hl).trans (h o)
abbrev Ev := Int × List Int
abbrev Ses := Int × Int × List Ev
structure Nod where
 path : List Int
 value : List Int
 owner : Int
 mode : Int
 holders : List Int
 epoch : Int
 gen : Int
 watchers : List Int
def RdU (w : World) (v : Value) (ns : List Int) : Prop :=
 ∃ (p : Option Addr) (c : Nat), v = .slice p ns.length c ∧ (ns = [] ∨ ∃ b o, p = some ⟨b, o, none⟩ ∧ ∀ i, i < ns.length → w.cell? ⟨b, o + i, none⟩ = some (.int .u64 (ns.getD i 0)))
def RdE (w : World) (v : Value) (es : List Ev) : Prop :=
 ∃ (p : Option Addr) (c : Nat), v = .slice p es.length c ∧ (es = [] ∨ ∃ b o, p = some ⟨b, o, none⟩ ∧ ∀ i e, es[i]? = some e → w.cell? ⟨b, o + i * 2, none⟩ = some (.int .i64 e.1) ∧ ∃ u, w.cell? ⟨b, o + i * 2 + 1, none⟩ = some u ∧ Rd w u e.2)
def RdS (w : World) (v : Value) (ss : List Ses) : Prop :=
 ∃ (p : Option Addr) (c : Nat), v = .slice p ss.length c ∧ (ss = [] ∨ ∃ b o, p = some ⟨b, o, none⟩ ∧ ∀ i s, ss[i]? = some s → w.cell? ⟨b, o + i * 3, none⟩ = some (.int .u64 s.1) ∧ w.cell? ⟨b, o + i * 3 + 1, none⟩ = some (.int .i64 s.2.1) ∧ ∃ u, w.cell? ⟨b, o + i * 3 + 2, none⟩ = some u ∧ RdE w u s.2.2)
theorem RdU.below {w w' : World} {v : Value} {ns : List Int} (h : RdU w v ns) (hb : Below w.heap.size w w') : RdU w' v ns := by
 obtain ⟨p, c, rfl, h⟩ := h
 refine ⟨p, c, rfl, ?_⟩
 rcases h with h | ⟨b, o, rfl, h⟩
 ·exact .inl h
 ·exact .inr ⟨b, o, rfl, fun i hi => cell_below (h i hi) hb⟩
theorem RdE.below {w w' : World} {v : Value} {es : List Ev} (h : RdE w v es) (hb : Below w.heap.size w w') : RdE w' v es := by
 obtain ⟨p, c, rfl, h⟩ := h
 refine ⟨p, c, rfl, ?_⟩
 rcases h with h | ⟨b, o, rfl, h⟩
 ·exact .inl h
 ·refine .inr ⟨b, o, rfl, fun i e he => ?_⟩
  obtain ⟨h1, u, h2, h3⟩ := h i e he
  exact ⟨cell_below h1 hb, u, cell_below h2 hb, h3.below hb⟩
theorem RdS.below {w w' : World} {v : Value} {ss : List Ses} (h : RdS w v ss) (hb : Below w.heap.size w w') : RdS w' v ss := by
 obtain ⟨p, c, rfl, h⟩ := h
 refine ⟨p, c, rfl, ?_⟩
 rcases h with h | ⟨b, o, rfl, h⟩
 ·exact .inl h
 ·refine .inr ⟨b, o, rfl, fun i e he => ?_⟩
  obtain ⟨h1, h2, u, h3, h4⟩ := h i e he
  exact ⟨cell_below h1 hb, cell_below h2 hb, u, cell_below h3 hb, h4.below hb⟩
abbrev stV (e g x n : Int) (S N : Value) : Value := .agg #[.int .u64 e, .int .u64 g, .int .u64 x, .int .i64 n, S, N]
set_option maxHeartbeats 800000 in
theorem l3live_any (e g x t : Int) (p : Option Addr) (c n : Nat) (N : Value) (ss : List Ses) (en : Hid (ss.length = n)) (w : World) (h : RdS w (.slice p n c) ss) (hn : n ≤ 1048576) (id : Int) (B : Bool) (eB : Hid ((ss.any fun s => s.1 == id) = B)) :
  Calls Tryz.prog 115 #[stV e g x t (.slice p n c) N, .int .u64 id] w fun r w' => r = .returned (.bool B) ∧ Below w.heap.size w w' := by
 have HR := hide fun (w' : World) (hb : Below w.heap.size w w') => h.below hb
 clear h
 go_enter Tryz.func115, Tryz.ntmps115
 go_wp2_with fail
 obtain ⟨W, hW⟩ : ∃ W, W = (w.alloc (.cells #[.int .u64 e, .int .u64 g, .int .u64 x, .int .i64 t, .slice p n c, N] 27)) := ⟨_, rfl⟩
 have bW : Below w.heap.size w W := by rw [hW]; exact (Below.refl _ _).alloc (Nat.le_refl _) _
 have hc4 : W.cell? ⟨w.heap.size, 4, none⟩ = some (.slice p n c) := by rw [hW]; simp
 rw [← hW]
 clear hW
 have hS := uh HR _ bW
 have HS := hide hS
 have BW := hide bW
 clear hS bW HR
 go_loopw [5] (fun iv wr => ∃ k : Nat, k ≤ n ∧ iv = .int .i64 k ∧ Hid (((ss.take k).any fun s => s.1 == id) = false) ∧ wr = W) (fun iv _ => n - (intOf iv).toNat)
 case atStart => exact ⟨0, Nat.zero_le _, rfl, (by show _ = _; simp), rfl⟩
 case round =>
  obtain ⟨k, hk, rfl, hno, rfl⟩ := hrel
  by_cases hlt : k < n
  ·have hlt' : (k : Int) < (n : Int) := by omega
   have hkl : k < ss.length := by rw [uh en]; exact hlt
   obtain ⟨y, hy⟩ : ∃ y, ss[k]? = some y := ⟨_, List.getElem?_eq_getElem hkl⟩
   obtain ⟨p', c', ev, hd⟩ := uh HS
   simp only [Value.slice.injEq] at ev
   obtain ⟨rfl, -, -⟩ := ev
   obtain ⟨b, o, rfl, hcell⟩ : ∃ b o, p = some ⟨b, o, none⟩ ∧ ∀ i s, ss[i]? = some s → wr.cell? ⟨b, o + i * 3, none⟩ = some (.int .u64 s.1) := by
    rcases hd with h0 | ⟨b, o, h1, h2⟩
    ·rw [h0] at hkl; simp at hkl
    ·exact ⟨b, o, h1, fun i s hi => (h2 i s hi).1⟩
   have hcx := hcell k y hy
   have HY := hide hy
   clear hcell hd hy hkl
   by_cases hid : y.1 = id
   ·have eT : B = true := by
     rw [← uh eB, List.any_eq_true]
     exact ⟨y, List.mem_of_getElem? (uh HY), by simp [hid]⟩
    subst eT
    have hid' : (y.1 == id) = true := by simp [hid]
    go_wp2
    go_ret
    exact ⟨rfl, uh BW⟩
   ·have hid' : (y.1 == id) = false := by simp [hid]
    have hno2 : Hid (((ss.take (k + 1)).any fun s => s.1 == id) = false) := by
     show _ = _
     rw [List.take_add_one, uh HY, List.any_append, uh hno]
     simp [hid']
    go_wp2
    go_roundw
    case rel => exact ⟨k + 1, by omega, by go_num, hno2, by first | rfl | trivial⟩
    case measure => simp [intOf]; omega
  ·have hlt' : ¬ (k : Int) < (n : Int) := by omega
   have eF : B = false := by
    rw [← uh eB]
    have := uh hno
    rwa [List.take_of_length_le (by rw [uh en]; omega)] at this
   subst eF
   go_wp2
   go_ret
   exact ⟨rfl, uh BW⟩
def live (ss : List Ses) (id : Int) : Bool := ss.any fun s => s.1 == id
def idAt (ss : List Ses) (ids : List Int) (i : Nat) : Bool := live ss (ids.getD i 0) && (i == 0 || decide (ids.getD (i - 1) 0 < ids.getD i 0))
def idsOK (ss : List Ses) (ids : List Int) : Bool := (List.range ids.length).all (idAt ss ids)
theorem range_all_step {f : Nat → Bool} {k : Nat} (h : (List.range k).all f = true) (hk : f k = true) : (List.range (k + 1)).all f = true := by
 rw [List.range_succ, List.all_append, h]
 simp [hk]
theorem range_all_no {f : Nat → Bool} {k n : Nat} (hk : k < n) (h : f k = false) : (List.range n).all f = false := by
 rw [List.all_eq_false]
 exact ⟨k, List.mem_range.2 hk, by simp [h]⟩
end Go.Proofs.YtnbgnhhnpmmloaaGreatDoor
