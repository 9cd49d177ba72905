import Derived.Test.YtpbppdeleijhkaaGreatDoorG10
import Derived.Test.YtpbppdeleijhkaaGreatDoorG35
import Derived.Test.YtpbppdeleijhkaaGreatDoorVS8
namespace Go.Proofs.YtpbppdeleijhkaaGreatDoor
open Go.ChangeShapes Go.WideShapes Go.ChangeAt Go.RowKit
set_option linter.unusedVariables false
set_option linter.unusedSimpArgs false
set_option maxRecDepth 100000
def limOK (e g x t : Int) (n m : Nat) : Bool := decide (e ≤ 4611686018427387904 ∧ g ≤ 4611686018427387904 ∧ x ≤ 4611686018427387904 ∧ 0 ≤ t ∧ t ≤ 1000000 ∧ n ≤ 50 ∧ m ≤ 200)
set_option maxHeartbeats 1600000 in
theorem limits_any (e g x t : Int) (p q : Option Addr) (c n d m : Nat) (w : World) (hn : n ≤ 1048576) (hm : m ≤ 1048576) (B : Bool) (eB : Hid (limOK e g x t n m = B)) :
  Calls Tryz.prog 108 #[stV e g x t (.slice p n c) (.slice q m d)] w fun r w' => r = .returned (.bool B) ∧ Below w.heap.size w w' := by
 go_enter Tryz.func108, Tryz.ntmps108
 go_wp2_with fail
 all_goals (
  go_ret
  refine ⟨?_, (Below.refl _ _).alloc (Nat.le_refl _) _⟩
  rw [← unhide eB]
  simp only [limOK, Ending.returned.injEq, Value.bool.injEq])
 all_goals first | (simp_all; done) | (simp_all; omega) | (show Value.bool (decide ((m : Int) ≤ 200)) = Value.bool _; congr 1; rw [Bool.eq_iff_iff, decide_eq_true_iff, decide_eq_true_iff]; omega) | skip
set_option maxHeartbeats 1600000 in
theorem validLock_any (e g ow mo ep ge : Int) (P V U : Value) (p : Option Addr) (c n : Nat) (w : World) (hn : n ≤ 1048576) (B : Bool) (eB : Hid (lockOK e g mo n ep ge = B)) :
  Calls Tryz.prog 182 #[ndV P V ow mo (.slice p n c) ep ge U, .int .u64 e, .int .u64 g] w fun r w' => r = .returned (.bool B) ∧ Below w.heap.size w w' := by
 go_enter Tryz.func182, Tryz.ntmps182
 go_wp2_with fail
 all_goals (
  go_ret
  refine ⟨?_, (Below.refl _ _).alloc (Nat.le_refl _) _⟩
  rw [← unhide eB]
  simp only [lockOK, Ending.returned.injEq, Value.bool.injEq])
 all_goals first | (simp_all; done) | (simp_all; omega) | skip
def ascI (l : List Int) : Bool := ascOf l.length (fun i j => decide (l.getD i 0 < l.getD j 0))
def nodV (e g : Int) (nd : Nod) : Bool := vp nd.path && (decide (nd.value.length ≤ 40) && (lockOK e g nd.mode nd.holders.length nd.epoch nd.gen && (ascI nd.holders && ascI nd.watchers)))
set_option maxHeartbeats 1600000 in
theorem validIn_any (e g x t : Int) (S N : Value) (nd : Nod) (pp vq hp up : Option Addr) (pc pn vc vn hc hh uc un : Nat) (ePn : Hid (nd.path.length = pn)) (eVn : Hid (nd.value.length = vn)) (eHn : Hid (nd.holders.length = hh)) (eUn : Hid (nd.watchers.length = un)) (w : World)
  (h0 : Rd w (.slice pp pn pc) nd.path) (h4 : RdU w (.slice hp hh hc) nd.holders) (h7 : RdU w (.slice up un uc) nd.watchers) (hBP : Hid (Byt nd.path)) (hpn : pn ≤ 1048576) (hvn : vn ≤ 1048576) (hhn : hh ≤ 1048576) (hun : un ≤ 1048576) (hcap : CapOK (.slice pp pn pc)) (hML : ML w) (B : Bool) (eB : Hid (nodV e g nd = B)) :
  Calls Tryz.prog 154 #[ndV (.slice pp pn pc) (.slice vq vn vc) nd.owner nd.mode (.slice hp hh hc) nd.epoch nd.gen (.slice up un uc), stV e g x t S N] w fun r w' => r = .returned (.bool B) ∧ Below w.heap.size w w' := by
 obtain ⟨hc1, hc2⟩ := hcap.of
 obtain ⟨ow, mo, ep, ge, e1, e2, e3, e4⟩ : ∃ a b c d, nd.owner = a ∧ nd.mode = b ∧ nd.epoch = c ∧ nd.gen = d := ⟨_, _, _, _, rfl, rfl, rfl, rfl⟩
 rw [e1, e2, e3, e4]
 have HR := hide fun (w' : World) (hb : Below w.heap.size w w') => And.intro (h0.below hb) (And.intro (h4.below hb) (And.intro (h7.below hb) (hML.below hb)))
 obtain ⟨T1, E1⟩ : ∃ T, Hid (vp nd.path = T) := ⟨_, (by show _ = _; rfl)⟩
 obtain ⟨T3, E3⟩ : ∃ T, Hid (lockOK e g mo hh ep ge = T) := ⟨_, (by show _ = _; rfl)⟩
 obtain ⟨T4, E4⟩ : ∃ T, Hid (ascOf hh (fun i j => decide (nd.holders.getD i 0 < nd.holders.getD j 0)) = T) := ⟨_, (by show _ = _; rfl)⟩
 obtain ⟨T5, E5⟩ : ∃ T, Hid (ascOf un (fun i j => decide (nd.watchers.getD i 0 < nd.watchers.getD j 0)) = T) := ⟨_, (by show _ = _; rfl)⟩
 have hB : B = (T1 && (decide (vn ≤ 40) && (T3 && (T4 && T5)))) := by
  rw [← unhide eB, nodV, ascI, ascI, e2, e3, e4, unhide eVn, unhide eHn, unhide eUn, unhide E1, unhide E3, unhide E4, unhide E5]
 have HB := hide hB
 clear h0 h4 h7 hML hB eB e1 e2 e3 e4 hcap
 obtain ⟨W, hW⟩ : ∃ W, W = ((w.alloc (.cells #[.slice pp pn pc, .slice vq vn vc, .int .u64 ow, .int .i64 mo, .slice hp hh hc, .int .u64 ep, .int .u64 ge, .slice up un uc] 71)).alloc (.cells #[.int .u64 e, .int .u64 g, .int .u64 x, .int .i64 t, S, N] 27)) := ⟨_, rfl⟩
 have bW : Below w.heap.size w W := by rw [hW]; exact ((Below.refl _ _).alloc (Nat.le_refl _) _).alloc (by simp) _
 have k0 : W.cell? ⟨w.heap.size, 0, none⟩ = some (.slice pp pn pc) := by rw [hW]; simp
 have k1 : W.cell? ⟨w.heap.size, 1, none⟩ = some (.slice vq vn vc) := by rw [hW]; simp
 have k2 : W.cell? ⟨w.heap.size, 2, none⟩ = some (.int .u64 ow) := by rw [hW]; simp
 have k3 : W.cell? ⟨w.heap.size, 3, none⟩ = some (.int .i64 mo) := by rw [hW]; simp
 have k4 : W.cell? ⟨w.heap.size, 4, none⟩ = some (.slice hp hh hc) := by rw [hW]; simp
 have k5 : W.cell? ⟨w.heap.size, 5, none⟩ = some (.int .u64 ep) := by rw [hW]; simp
 have k6 : W.cell? ⟨w.heap.size, 6, none⟩ = some (.int .u64 ge) := by rw [hW]; simp
 have k7 : W.cell? ⟨w.heap.size, 7, none⟩ = some (.slice up un uc) := by rw [hW]; simp
 have k8 : W.cell? ⟨w.heap.size + 1, 0, none⟩ = some (.int .u64 e) := by rw [hW]; simp
 have k9 : W.cell? ⟨w.heap.size + 1, 1, none⟩ = some (.int .u64 g) := by rw [hW]; simp
 go_enter Tryz.func154, Tryz.ntmps154
 go_wp2_with fail
 rw [← hW]
 clear hW
 refine (implVP pp pc pn nd.path ePn _ (unhide HR _ bW).1 hBP hpn hc1 hc2 (unhide HR _ bW).2.2.2 T1 E1).mono ?_
 rintro r w1 ⟨rfl, hb1⟩
 have b1 := Below.step bW hb1
 cases T1 with
 | false =>
  have eF : B = false := by rw [unhide HB]; rfl
  subst eF
  clear k0 k1 k2 k3 k4 k5 k6 k7 k8 k9
  go_wp2
  go_ret
  exact ⟨rfl, b1⟩
 | true =>
  replace k0 := cell_below k0 hb1
  replace k1 := cell_below k1 hb1
  replace k2 := cell_below k2 hb1
  replace k3 := cell_below k3 hb1
  replace k4 := cell_below k4 hb1
  replace k5 := cell_below k5 hb1
  replace k6 := cell_below k6 hb1
  replace k7 := cell_below k7 hb1
  replace k8 := cell_below k8 hb1
  replace k9 := cell_below k9 hb1
  clear hb1 bW
  by_cases hv : (vn : Int) ≤ 40
  ·have HB2 : Hid (B = (T3 && (T4 && T5))) := by
    show _ = _
    rw [unhide HB, show decide (vn ≤ 40) = true by (rw [decide_eq_true_iff]; omega)]
    rfl
   clear HB
   go_wp2_with fail
   refine (validLock_any e g ow mo ep ge _ _ _ hp hc hh _ hhn T3 E3).mono ?_
   rintro r w2 ⟨rfl, hb2⟩
   have b2 := Below.step b1 hb2
   cases T3 with
   | false =>
    have eF : B = false := by rw [unhide HB2]; rfl
    subst eF
    clear k0 k1 k2 k3 k4 k5 k6 k7 k8 k9
    go_wp2
    go_ret
    exact ⟨rfl, b2⟩
   | true =>
    replace k4 := cell_below k4 hb2
    replace k7 := cell_below k7 hb2
    clear k0 k1 k2 k3 k5 k6 k8 k9 hb2
    go_wp2_with fail
    refine (ascU_any hp hc hh nd.holders eHn _ (unhide HR _ b2).2.1 hhn T4 E4).mono ?_
    rintro r w3 ⟨rfl, hb3⟩
    have b3 := Below.step b2 hb3
    cases T4 with
    | false =>
     have eF : B = false := by rw [unhide HB2]; rfl
     subst eF
     clear k4 k7
     go_wp2
     go_ret
     exact ⟨rfl, b3⟩
    | true =>
     have eT : B = T5 := by rw [unhide HB2]; rfl
     subst eT
     replace k7 := cell_below k7 hb3
     clear k4 hb3
     go_wp2_with fail
     refine (ascU_any up uc un nd.watchers eUn _ (unhide HR _ b3).2.2.1 hun B E5).mono ?_
     rintro r w4 ⟨rfl, hb4⟩
     have b4 := Below.step b3 hb4
     clear k7
     go_wp2
     go_ret
     exact ⟨rfl, b4⟩
  ·have eF : B = false := by rw [unhide HB, show decide (vn ≤ 40) = false by (rw [decide_eq_false_iff_not]; omega)]; rfl
   subst eF
   clear k2 k3 k4 k5 k6 k7 k8 k9
   go_wp2
   go_ret
   exact ⟨rfl, b1⟩
def sesAll (x : Int) (ss : List Ses) : Bool := (List.range ss.length).all (fun i => sesV x (ss.getD i (0, 0, []))) && ascOf ss.length (fun i j => decide ((ss.getD i (0, 0, [])).1 < (ss.getD j (0, 0, [])).1))
def nodAll (e g : Int) (ns : List Nod) : Bool := (List.range ns.length).all (fun i => nodV e g (ns.getD i nod0)) && ascOf ns.length (fun i j => !leB (ns.getD j nod0).path (ns.getD i nod0).path)
set_option maxHeartbeats 1600000 in
theorem validSessions_any (e g x t : Int) (p : Option Addr) (c n : Nat) (N : Value) (ss : List Ses) (en : Hid (ss.length = n)) (w : World) (h : RdSc w (.slice p n c) ss) (hn : n ≤ 1048576)
  (hbs : Hid (∀ s ∈ ss, s.2.2.length ≤ 1048576 ∧ ∀ e ∈ s.2.2, Byt e.2 ∧ e.2.length ≤ 1048576)) (hML : ML w) (B : Bool) (eB : Hid (sesAll x ss = B)) :
  Calls Tryz.prog 109 #[stV e g x t (.slice p n c) N] w fun r w' => r = .returned (.bool B) ∧ Below w.heap.size w w' := by
 have HR := hide fun (w' : World) (hb : Below w.heap.size w w') => And.intro (h.below hb) (hML.below hb)
 obtain ⟨T2, E2⟩ : ∃ T, Hid (ascOf n (fun i j => decide ((ss.getD i (0, 0, [])).1 < (ss.getD j (0, 0, [])).1)) = T) := ⟨_, (by show _ = _; rfl)⟩
 have HB : Hid (B = ((List.range n).all (fun i => sesV x (ss.getD i (0, 0, []))) && T2)) := by show _ = _; rw [← unhide eB, sesAll, unhide en, unhide E2]
 clear h hML eB
 go_enter Tryz.func109, Tryz.ntmps109
 go_wp2_with fail
 obtain ⟨W, hW⟩ : ∃ W, W = (w.alloc (.cells #[.int .u64 e, .int .u64 g, .int .u64 x, .int .i64 t, .slice p n c, N] 27)) := ⟨_, rfl⟩
 have bW : Below w.heap.size w W := by rw [hW]; exact (Below.refl _ _).alloc (Nat.le_refl _) _
 have hc2 : W.cell? ⟨w.heap.size, 2, none⟩ = some (.int .u64 x) := by rw [hW]; simp
 have hc4 : W.cell? ⟨w.heap.size, 4, none⟩ = some (.slice p n c) := by rw [hW]; simp
 rw [← hW]
 clear hW
 have BW := hide bW
 have HC2 := hide (And.intro hc2 hc4)
 clear bW hc2 hc4
 go_loopw [8] (fun iv wr => ∃ k : Nat, k ≤ n ∧ iv = .int .i64 k ∧ Hid ((List.range k).all (fun i => sesV x (ss.getD i (0, 0, []))) = true) ∧ Below W.heap.size W wr) (fun iv _ => n - (intOf iv).toNat)
 case atStart => exact ⟨0, Nat.zero_le _, rfl, (by show _ = _; rfl), Below.refl _ _⟩
 case round =>
  obtain ⟨k, hk, rfl, hok, hbr⟩ := hrel
  have BB := Below.step (unhide BW) hbr
  have i2 := cell_below (unhide HC2).1 hbr
  have i4 := cell_below (unhide HC2).2 hbr
  by_cases hlt : k < n
  ·have hlt' : (k : Int) < (n : Int) := by omega
   have hkl : k < ss.length := by rw [unhide en]; exact hlt
   obtain ⟨⟨I, D, Q⟩, hy⟩ : ∃ y, ss[k]? = some y := ⟨_, List.getElem?_eq_getElem hkl⟩
   have hyD : ss.getD k (0, 0, []) = (I, D, Q) := by rw [List.getD_eq_getElem?_getD, hy]; rfl
   obtain ⟨b, o, rfl, hcI, hcD, u, hcQ, hrQ⟩ : ∃ b o, p = some ⟨b, o, none⟩ ∧ wr.cell? ⟨b, o + k * 3, none⟩ = some (.int .u64 I) ∧ wr.cell? ⟨b, o + k * 3 + 1, none⟩ = some (.int .i64 D) ∧ ∃ u, wr.cell? ⟨b, o + k * 3 + 2, none⟩ = some u ∧ RdEc wr u Q := by
    obtain ⟨p', c', ev, hd⟩ := (unhide HR _ BB).1
    simp only [Value.slice.injEq] at ev
    obtain ⟨rfl, -, -⟩ := ev
    rcases hd with h0 | ⟨b, o, h1, h2⟩
    ·rw [h0] at hkl; simp at hkl
    ·exact ⟨b, o, h1, h2 k _ hy⟩
   obtain ⟨hQl, hQb⟩ := unhide hbs _ (List.mem_of_getElem? hy)
   obtain ⟨pq, cq, rfl, -⟩ := id hrQ
   obtain ⟨m, em⟩ : ∃ m, Q.length = m := ⟨_, rfl⟩
   rw [em] at hrQ hcQ
   have hm : m ≤ 1048576 := by rw [← em]; exact hQl
   have EM := hide em
   have HBQ : Hid (∀ e ∈ Q, Byt e.2 ∧ e.2.length ≤ 1048576) := hQb
   obtain ⟨V, eV⟩ : ∃ V, sesV x (I, D, Q) = V := ⟨_, rfl⟩
   have EV := hide eV
   have HF : Hid (V = false → B = false) := fun h => by rw [unhide HB, range_all_no hlt (by rw [hyD, eV]; exact h)]; rfl
   have HT : Hid (V = true → Hid ((List.range (k + 1)).all (fun i => sesV x (ss.getD i (0, 0, []))) = true)) := fun h => range_all_step (unhide hok) (by rw [hyD, eV]; exact h)
   have b2 : Below wr.heap.size wr ((wr.alloc (.cells #[.int .u64 I, .int .i64 D, .slice pq m cq] 65))) := (Below.refl _ _).alloc (Nat.le_refl _) _
   have HRQ := hide (hrQ.below b2)
   have HML := hide ((unhide HR _ BB).2.below b2)
   have j2 := cell_below i2 b2
   clear hkl hy hyD hQl hQb hrQ eV em
   go_wp2_with fail
   refine (sesValid_any I D x pq cq m Q EM _ (by exact unhide HRQ) hm HBQ (by exact unhide HML) V EV).mono ?_
   rintro r w2 ⟨rfl, hb2⟩
   have b3 := Below.step hbr (Below.step b2 hb2)
   have B3 := Below.step (unhide BW) b3
   clear hb2 b2 i2 i4 j2
   cases V with
   | false =>
    have eF := unhide HF rfl
    subst eF
    go_wp2
    go_ret
    exact ⟨rfl, B3⟩
   | true =>
    have HOK := unhide HT rfl
    go_wp2
    go_roundw
    case rel => exact ⟨k + 1, by omega, by go_num, HOK, b3⟩
    case measure => simp [intOf]; omega
  ·have hlt' : ¬ (k : Int) < (n : Int) := by omega
   have ekn : k = n := by omega
   have eT : B = T2 := by
    rw [unhide HB, show (List.range n).all (fun i => sesV x (ss.getD i (0, 0, []))) = true from ekn ▸ unhide hok, Bool.true_and]
   subst eT
   go_wp2_with fail
   refine (ascS_any p c n ss en _ (unhide HR _ BB).1.rd hn B E2).mono ?_
   rintro r w2 ⟨rfl, hb2⟩
   have b3 := Below.step BB hb2
   clear hb2 i2 i4
   go_wp2
   go_ret
   exact ⟨rfl, b3⟩
set_option maxHeartbeats 1600000 in
theorem validNodes_any (e g x t : Int) (S : Value) (q : Option Addr) (d m : Nat) (ns : List Nod) (em : Hid (ns.length = m)) (w : World) (h : RdN w (.slice q m d) ns) (hm : m ≤ 1048576)
  (hby : Hid (∀ nd ∈ ns, Byt nd.path ∧ nd.path.length ≤ 1048576 ∧ nd.value.length ≤ 1048576 ∧ nd.holders.length ≤ 1048576 ∧ nd.watchers.length ≤ 1048576)) (hML : ML w) (B : Bool) (eB : Hid (nodAll e g ns = B)) :
  Calls Tryz.prog 110 #[stV e g x t S (.slice q m d)] w fun r w' => r = .returned (.bool B) ∧ Below w.heap.size w w' := by
 have HR := hide fun (w' : World) (hb : Below w.heap.size w w') => And.intro (h.below hb) (hML.below hb)
 obtain ⟨T2, E2⟩ : ∃ T, Hid (ascOf m (fun i j => !leB (ns.getD j nod0).path (ns.getD i nod0).path) = T) := ⟨_, (by show _ = _; rfl)⟩
 have HB : Hid (B = ((List.range m).all (fun i => nodV e g (ns.getD i nod0)) && T2)) := by show _ = _; rw [← unhide eB, nodAll, unhide em, unhide E2]
 clear h hML eB
 go_enter Tryz.func110, Tryz.ntmps110
 go_wp2_with fail
 obtain ⟨W, hW⟩ : ∃ W, W = (w.alloc (.cells #[.int .u64 e, .int .u64 g, .int .u64 x, .int .i64 t, S, .slice q m d] 27)) := ⟨_, rfl⟩
 have bW : Below w.heap.size w W := by rw [hW]; exact (Below.refl _ _).alloc (Nat.le_refl _) _
 have hc6 : St6 W w.heap.size e g x t S (.slice q m d) := by rw [hW]; simp [St6]
 rw [← hW]
 clear hW
 have BW := hide bW
 have HC6 := hide hc6
 clear bW hc6
 go_loopw [8] (fun iv wr => ∃ k : Nat, k ≤ m ∧ iv = .int .i64 k ∧ Hid ((List.range k).all (fun i => nodV e g (ns.getD i nod0)) = true) ∧ Below W.heap.size W wr) (fun iv _ => m - (intOf iv).toNat)
 case atStart => exact ⟨0, Nat.zero_le _, rfl, (by show _ = _; rfl), Below.refl _ _⟩
 case round =>
  obtain ⟨k, hk, rfl, hok, hbr⟩ := hrel
  have BB := Below.step (unhide BW) hbr
  obtain ⟨i0, i1, i2, i3, i4, i5⟩ := (unhide HC6).below hbr
  by_cases hlt : k < m
  ·have hlt' : (k : Int) < (m : Int) := by omega
   have hkl : k < ns.length := by rw [unhide em]; exact hlt
   obtain ⟨nd, hy⟩ : ∃ y, ns[k]? = some y := ⟨_, List.getElem?_eq_getElem hkl⟩
   have hyD : ns.getD k nod0 = nd := by rw [List.getD_eq_getElem?_getD, hy]; rfl
   obtain ⟨b, o, rfl, hA⟩ := (unhide HR _ BB).1.at (by omega)
   obtain ⟨P, V, H, U, hnd⟩ := hA k nd hy
   obtain ⟨hB1, hB2, hB3, hB4, hB5⟩ := unhide hby _ (List.mem_of_getElem? hy)
   obtain ⟨pp, pc, pn, rfl, ePn⟩ := hnd.r0.slc
   obtain ⟨vp', vc, vn, rfl, eVn⟩ := hnd.r1.slc
   obtain ⟨hp, hc, hh, rfl, eHn⟩ := hnd.r4.slc
   obtain ⟨up, uc, un, rfl, eUn⟩ := hnd.r7.slc
   have hpn : pn ≤ 1048576 := by rw [← unhide ePn]; exact hB2
   have hvn : vn ≤ 1048576 := by rw [← unhide eVn]; exact hB3
   have hhn : hh ≤ 1048576 := by rw [← unhide eHn]; exact hB4
   have hun : un ≤ 1048576 := by rw [← unhide eUn]; exact hB5
   have HBP : Hid (Byt nd.path) := hB1
   obtain ⟨T, eV⟩ : ∃ V, nodV e g nd = V := ⟨_, rfl⟩
   have EV := hide eV
   have HF : Hid (T = false → B = false) := fun h => by rw [unhide HB, range_all_no hlt (by rw [hyD, eV]; exact h)]; rfl
   have HT : Hid (T = true → Hid ((List.range (k + 1)).all (fun i => nodV e g (ns.getD i nod0)) = true)) := fun h => range_all_step (unhide hok) (by rw [hyD, eV]; exact h)
   have b2 : Below wr.heap.size wr (wr.alloc (.cells #[.slice pp pn pc, .slice vp' vn vc, .int .u64 nd.owner, .int .i64 nd.mode, .slice hp hh hc, .int .u64 nd.epoch, .int .u64 nd.gen, .slice up un uc] 71)) := (Below.refl _ _).alloc (Nat.le_refl _) _
   have HND := hide (hnd.below b2)
   have HML := hide ((unhide HR _ BB).2.below b2)
   obtain ⟨c0, c1, c2, c3, c4, c5, c6, c7, -, -, -, -, -⟩ := hnd
   have j0 := cell_below i0 b2
   have j1 := cell_below i1 b2
   have j2 := cell_below i2 b2
   have j3 := cell_below i3 b2
   have j4 := cell_below i4 b2
   have j5 := cell_below i5 b2
   clear hkl hy hyD hB1 hB2 hB3 hB4 hB5 eV hA
   go_wp2_with fail
   refine (validIn_any e g x t _ _ nd pp vp' hp up pc pn vc vn hc hh uc un ePn eVn eHn eUn _ (by exact (unhide HND).r0) (by exact (unhide HND).r4) (by exact (unhide HND).r7) HBP hpn hvn hhn hun (unhide HND).k0 (by exact unhide HML) T EV).mono ?_
   rintro r w2 ⟨rfl, hb2⟩
   have b3 := Below.step hbr (Below.step b2 hb2)
   have B3 := Below.step (unhide BW) b3
   clear hb2 b2 i0 i1 i2 i3 i4 i5 c0 c1 c2 c3 c4 c5 c6 c7 j0 j1 j2 j3 j4 j5
   cases T with
   | false =>
    have eF := unhide HF rfl
    subst eF
    go_wp2
    go_ret
    exact ⟨rfl, B3⟩
   | true =>
    have HOK := unhide HT rfl
    go_wp2
    go_roundw
    case rel => exact ⟨k + 1, by omega, by go_num, HOK, b3⟩
    case measure => simp [intOf]; omega
  ·have hlt' : ¬ (k : Int) < (m : Int) := by omega
   have ekn : k = m := by omega
   have eT : B = T2 := by
    rw [unhide HB, show (List.range m).all (fun i => nodV e g (ns.getD i nod0)) = true from ekn ▸ unhide hok, Bool.true_and]
   subst eT
   go_wp2_with fail
   refine (ascN_any q d m ns em _ (unhide HR _ BB).1 hm B E2).mono ?_
   rintro r w2 ⟨rfl, hb2⟩
   have b3 := Below.step BB hb2
   clear hb2 i0 i1 i2 i3 i4 i5
   go_wp2
   go_ret
   exact ⟨rfl, b3⟩
end Go.Proofs.YtpbppdeleijhkaaGreatDoor
namespace Go.Proofs.YtpbppdeleijhkaaGreatDoor
open Go.ChangeShapes Go.WideShapes Go.ChangeAt Go.RowKit Go.Maps
set_option linter.unusedVariables false
set_option linter.unusedSimpArgs false
set_option maxRecDepth 100000
theorem invT : ∀ (key : Value) (kl : Lit), keyOf Tryz.prog 9 key = some kl → ∃ s : ByteArray, key = .string s := by
 intro key kl hk
 cases key <;> simp [keyOf, Tryz.underlying9, mapKey] at hk
 exact ⟨_, rfl⟩
theorem keyT_val {s : ByteArray} {l : List Int} (h : keyOf Tryz.prog 9 (.string s) = some (litS l)) : s = bstr l := by
 simp [keyOf, Tryz.underlying9, mapKey] at h
 exact litS_val h.2
theorem litS_same {l m : List Int} (hl : Byt l) (hm : Byt m) : (litS l).sameKey (litS m) = decide (l = m) := by
 rw [Bool.eq_iff_iff, WideAt.sameKey_iff (by trivial), decide_eq_true_iff]
 exact ⟨fun h => litS_inj hl hm h, fun h => by rw [h]⟩
set_option maxHeartbeats 1600000 in
theorem hasAll_any {w0 : World} {b bs bn : Nat} {e g x t : Int} {ss : List Ses} {ns : List Nod} {SB NB HB UB : List Nat} (w : World) (hst : Hid (StoreAt w0 w b bs bn e g x t ss ns SB NB HB UB)) (hbn : Hid (∀ nd ∈ ns, Byt nd.path ∧ nd.path.length ≤ 1048576)) (B : Bool) (eB : Hid (ns.all (fun nd => canPar ns (parL nd.path)) = B)) :
  Calls Tryz.prog 111 #[.pointer (some ⟨b, 0, none⟩)] w fun r w' => r = .returned (.bool B) ∧ Below w.heap.size w w' := by
 have hc5 : w.cell? ⟨b, 5, none⟩ = some (.map (some bn)) := cells_at (unhide hst).hd 5
 obtain ⟨D, oD, mD⟩ := (unhide hst).nod.own
 obtain ⟨m, em⟩ : ∃ m, ns.length = m := ⟨_, rfl⟩
 rw [em] at oD
 clear em
 have hbn' : Hid (∀ nd ∈ ns, Byt nd.path) := fun nd h => (unhide hbn nd h).1
 have MD := hide mD
 clear mD
 go_enter Tryz.func111, Tryz.ntmps111
 go_wp2_with (first
  | (at_range; refine wpList_range_own _ rfl _ 100 rfl 9 _ keyT Tryz.underlying100 _ bn m _ rfl oD ?_; intro w1 hrg0 hg0 hs0)
  | go_in)
 go_frame
 go_loopw [3] (fun _ wr => ∃ (left : Lit → Bool) (cnt : Nat), wr.ranges Tryz.prog 9 ptrElem bn w.heap.size m D left cnt ∧ Hid (∀ nd ∈ ns, left (litS nd.path) = false → canPar ns (parL nd.path) = true) ∧ Below w.heap.size w wr) (fun _ wr => wr.rangeLeft bn w.heap.size)
 case atStart =>
  refine ⟨_, _, hrg0, fun nd hnd hl => ?_, grown_below hg0⟩
  exfalso
  obtain ⟨i, hi⟩ := List.getElem?_of_mem hnd
  obtain ⟨g1, h1, u1, q1, q2, q3⟩ := (unhide hst).nod.at hi
  have : Maps.has D (litS nd.path) = true := ((unhide MD).hs _).2 ⟨(litS nd.path, g1), by
   rw [List.mem_iff_getElem?]
   refine ⟨i, ?_⟩
   rw [List.getElem?_zipWith, hi, q1], rfl⟩
  rw [this] at hl
  cases hl
 case round =>
  obtain ⟨left, cnt, hrg, hok, hbr⟩ := hrel
  have HST := hide ((unhide hst).below hbr)
  go_wp2_with (first
   | (at_next; refine wpList_next_ptr _ rfl _ rfl 9 keyT (fun s : ByteArray => .string s) invT bn w.heap.size m _ _ (unhide MD) _ _ rfl hrg ?_ ?_)
   | go_in)
  ·intro _ hl0
   have eT : B = true := by
    rw [← unhide eB, List.all_eq_true]
    exact fun nd hnd => unhide hok nd hnd (hl0 _)
   subst eT
   go_wp2
   go_ret
   exact ⟨rfl, hbr⟩
  ·intro s pl g1 w2 cnt1 hkey hp hlp hrg1 hlt hg1 hs1 hen
   obtain ⟨i, nd, g1', hi, hgi, ee⟩ := zip_mem hp
   simp only [Prod.mk.injEq] at ee
   obtain ⟨rfl, rfl⟩ := ee
   have hb2 : Below w.heap.size w w2 := below_of_grown hbr hg1 hbr.size (fun j hj => by cases hj; exact Nat.le_refl _)
   obtain rfl := keyT_val hkey
   have hnd := List.mem_of_getElem? hi
   obtain ⟨hB1, hB2⟩ := unhide hbn nd hnd
   obtain ⟨T, eT⟩ : ∃ T, canPar ns (parL nd.path) = T := ⟨_, rfl⟩
   have ET := hide eT
   have HF : Hid (T = false → B = false) := fun h => by
    rw [← unhide eB, List.all_eq_false]
    exact ⟨nd, hnd, by rw [eT, h]; simp⟩
   have HT : Hid (T = true → Hid (∀ nd' ∈ ns, (fun z => left z && !z.sameKey (litS nd.path)) (litS nd'.path) = false → canPar ns (parL nd'.path) = true)) := fun h nd' hnd' hl => by
    simp only [litS_same (unhide hbn nd' hnd').1 hB1] at hl
    by_cases ep : nd'.path = nd.path
    ·rw [ep, eT, h]
    ·simp [ep] at hl
     exact unhide hok nd' hnd' hl
   have HB1 : Hid (Byt nd.path) := hB1
   have HB3 := hide (parL_byt hB1)
   have hpl : (parL nd.path).length ≤ 1048577 := by
    unfold parL
    split
    ·simp
    ·rw [List.length_take]; omega
   have HST2 := hide ((unhide hst).below hb2)
   have hen' : (Instr.entry (.pointer (some ⟨w.heap.size, 0, none⟩))).run Tryz.prog w2 = .ok (.tuple #[.string (bstr nd.path), .pointer (some ⟨g1, 0, none⟩)]) w2 := hen
   clear hkey hp hi hgi hnd hB1 eT hen
   go_wp2_with fail
   refine (parentOf_any nd.path _ (by show _ = _; rfl) HB1 hB2 _).mono ?_
   rintro r w3 ⟨rfl, rfl⟩
   go_wp2_with fail
   refine (canHave_any (parL nd.path) _ HST2 HB3 hbn' hpl T ET).mono ?_
   rintro r w4 ⟨rfl, hb4⟩
   have b4 := Below.step hb2 hb4
   cases T with
   | false =>
    have eF := unhide HF rfl
    subst eF
    clear hen'
    go_wp2
    go_ret
    exact ⟨rfl, b4⟩
   | true =>
    have HOK := unhide HT rfl
    have hrg2 := hrg1.kept (grown_of_below hb4 none) (by simp) (by simp)
    clear hen'
    go_wp2
    go_roundw
    case rel => exact ⟨_, cnt1, hrg2, HOK, b4⟩
    case measure => rw [hrg2.left_eq, hrg.left_eq]; exact hlt
end Go.Proofs.YtpbppdeleijhkaaGreatDoor
