import Derived.Test.YtpbppdeleijhkaaGreatDoorXE0
namespace Go.Proofs.YtpbppdeleijhkaaGreatDoor
open Go.ChangeShapes Go.WideShapes Go.ChangeAt Go.RowKit
set_option linter.unusedVariables false
set_option linter.unusedSimpArgs false
set_option maxRecDepth 100000

set_option maxHeartbeats 400000 in
theorem expiredAt_any (t : Int) (w : World) :
    Calls Tryz.prog 65 #[.int .i64 t] w fun r w' => r = .returned (.func (.func 113) #[] #[.pointer (some ⟨w.heap.size, 0, none⟩)]) ∧ w' = w.alloc (.cells #[.int .i64 t] 3) := by
  go_enter Tryz.func65, Tryz.ntmps65
  go_wp2_with fail
  go_ret
  exact ⟨rfl, rfl⟩
set_option maxHeartbeats 400000 in
theorem exp1_any (I D t : Int) (u : Value) (G : Nat) (w : World) (h : w.cell? ⟨G, 0, none⟩ = some (.int .i64 t)) :
    Calls Tryz.prog 113 #[.agg #[.int .u64 I, .int .i64 D, u], .pointer (some ⟨G, 0, none⟩)] w fun r w' => r = .returned (.bool (decide (D ≤ t))) ∧ Below w.heap.size w w' := by
  have hw := cell_below h ((Below.refl w.heap.size w).alloc (Nat.le_refl _) (.cells #[.int .u64 I, .int .i64 D, u] 65))
  go_enter Tryz.func113, Tryz.ntmps113
  go_wp2_with fail
  go_ret
  exact ⟨rfl, (Below.refl _ _).alloc (Nat.le_refl _) _⟩
set_option maxHeartbeats 1600000 in
theorem implExp_ok (e g x t : Int) (p q : Option Addr) (c n d m : Nat) (ss : List Ses) (ns : List Nod) (en : Hid (ss.length = n)) (em : Hid (ns.length = m)) (w : World) (h : RdSc w (.slice p n c) ss) (hN : RdN w (.slice q m d) ns) (hn : n ≤ 1048576) (hm : m ≤ 1048576)
    (hbs : Hid (∀ s ∈ ss, s.2.2.length ≤ 1048576 ∧ ∀ e ∈ s.2.2, Byt e.2 ∧ e.2.length ≤ 1048576)) (hby : Hid (∀ nd ∈ ns, Byt nd.path ∧ nd.path.length ≤ 1048576 ∧ nd.value.length ≤ 1048576 ∧ nd.holders.length ≤ 1048576 ∧ nd.watchers.length ≤ 1048576))
    (hnu : Hid (∀ nd ∈ ns, (∀ i ∈ nd.holders, 0 ≤ i ∧ i < 18446744073709551616) ∧ ∀ i ∈ nd.watchers, 0 ≤ i ∧ i < 18446744073709551616))
    (hou : Hid (∀ nd ∈ ns, 0 ≤ nd.owner ∧ nd.owner < 18446744073709551616)) (hML : ML w) (eB : Hid (stOK e g x t ss ns = true)) :
    Calls Tryz.prog 20 #[stV e g x t (.slice p n c) (.slice q m d)] w fun r w' => ∃ v, r = .returned v ∧ OwnU w.heap.size w' v (expL t ss) ∧ Below w.heap.size w w' := by
  have HR := hide fun (w' : World) (hb : Below w.heap.size w w') => And.intro (h.below hb) (And.intro (hN.below hb) (hML.below hb))
  clear h hN hML
  obtain ⟨W, hW⟩ : ∃ W, W = (w.alloc (.cells #[.int .u64 e, .int .u64 g, .int .u64 x, .int .i64 t, .slice p n c, .slice q m d] 27)) := ⟨_, rfl⟩
  have bW : Below w.heap.size w W := by rw [hW]; exact (Below.refl _ _).alloc (Nat.le_refl _) _
  have hc6 : St6 W w.heap.size e g x t (.slice p n c) (.slice q m d) := by rw [hW]; simp [St6]
  have zW : W.heap.size = w.heap.size + 1 := by rw [hW]; simp
  go_enter Tryz.func20, Tryz.ntmps20
  go_wp2_with fail
  rw [← hW]
  clear hW
  refine (implVS e g x t p q c n d m ss ns en em _ (unhide HR _ bW).1 (unhide HR _ bW).2.1 hn hm hbs hby hnu hou (unhide HR _ bW).2.2 true eB).mono ?_
  rintro r w1 ⟨rfl, hb1⟩
  have b1 := Below.step bW hb1
  have z1 : w.heap.size + 1 ≤ w1.heap.size := by have := hb1.size; omega
  have C1 := hide (hc6.below hb1)
  clear hb1 bW hc6 zW
  obtain ⟨i0, i1, i2, i3, i4, i5⟩ := unhide C1
  go_wp2_with fail
  refine (expiredAt_any t _).mono ?_
  rintro r w2 ⟨rfl, hw2⟩
  have hb2 : Below w1.heap.size w1 w2 := by rw [hw2]; exact (Below.refl _ _).alloc (Nat.le_refl _) _
  have b2 := Below.step b1 hb2
  have C2 := hide ((unhide C1).below hb2)
  have cN : w2.cell? ⟨w1.heap.size, 0, none⟩ = some (.int .i64 t) := by rw [hw2]; simp
  clear hw2 i0 i1 i2 i3 i4 i5
  obtain ⟨i0, i1, i2, i3, i4, i5⟩ := unhide C2
  go_wp2_with fail
  have HN1 := hide cN
  have z2 : w.heap.size + 2 ≤ w2.heap.size := by have := World.block_lt_of_cell? w2 _ cN; simp at this; omega
  obtain ⟨G1, eG1⟩ : ∃ G, G = w1.heap.size := ⟨_, rfl⟩
  rw [← eG1] at HN1 ⊢
  have hG1 : G1 < w2.heap.size := by have := World.block_lt_of_cell? w2 _ cN; simp at this; omega
  clear cN b1 C1 eG1 i0 i1 i2 i3 i4 i5 z1
  go_loopw [4, 16] (fun ov iv wr => ∃ (k : Nat), k ≤ n ∧ iv = .int .i64 k ∧ OwnU w2.heap.size wr ov (expL t (ss.take k)) ∧ Below w2.heap.size w2 wr) (fun _ iv _ => n - (intOf iv).toNat)
  case atStart => exact ⟨0, Nat.zero_le _, rfl, (by simpa [expL, OwnU] using World.ownsRow_nil w2 w2.heap.size 23 1), Below.refl _ _⟩
  case round =>
    obtain ⟨k, hk, rfl, ho, hbr⟩ := hrel
    have BB := Below.step b2 hbr
    have cN := cell_below (unhide HN1) hbr
    by_cases hlt : k < n
    · have hlt' : (k : Int) < (n : Int) := by omega
      have hkl : k < ss.length := by rw [unhide en]; exact hlt
      obtain ⟨⟨I, D, Q⟩, hy⟩ : ∃ y, ss[k]? = some y := ⟨_, List.getElem?_eq_getElem hkl⟩
      obtain ⟨b, o, rfl, hcI, hcD, u, hcQ⟩ : ∃ b o, p = some ⟨b, o, none⟩ ∧ wr.cell? ⟨b, o + k * 3, none⟩ = some (.int .u64 I) ∧ wr.cell? ⟨b, o + k * 3 + 1, none⟩ = some (.int .i64 D) ∧ ∃ pq cq, wr.cell? ⟨b, o + k * 3 + 2, none⟩ = some (.slice pq Q.length cq) := by
        obtain ⟨p', c', ev, hd⟩ := (unhide HR _ BB).1
        simp only [Value.slice.injEq] at ev
        obtain ⟨rfl, -, -⟩ := ev
        rcases hd with h0 | ⟨b, o, h1, h2⟩
        · rw [h0] at hkl; simp at hkl
        · obtain ⟨q1, q2, u, q3, ⟨pq, cq, rfl, -⟩⟩ := h2 k _ hy
          exact ⟨b, o, h1, q1, q2, pq, cq, q3⟩
      obtain ⟨cq, hcQ⟩ := hcQ
      generalize Q.length = nq at hcQ
      have hsn := expL_snoc (t := t) hy
      have hll := expL_len t (ss.take k)
      have hl4 : (expL t (ss.take k)).length < 4194304 := by have : (ss.take k).length ≤ k := List.length_take_le _ _; omega
      obtain ⟨pv, cv, rfl⟩ := OwnU.form ho
      obtain ⟨L, eL⟩ : ∃ L, L = expL t (ss.take k) := ⟨_, rfl⟩
      obtain ⟨L2, eL2⟩ : ∃ L2, L2 = expL t (ss.take (k + 1)) := ⟨_, rfl⟩
      rw [← eL] at ho hl4 hsn ⊢
      rw [← eL2] at hsn
      dsimp only at hsn
      have HSN := hide hsn
      have EL2 := hide eL2
      have HO := hide ho
      have hz : w2.heap.size ≤ wr.heap.size := hbr.size
      clear hy hkl hsn hll eL eL2 ho
      go_wp2_with fail
      obtain ⟨X, hX⟩ : ∃ X, X = (wr.alloc (.cells #[.int .u64 I, .int .i64 D, .slice u nq cq] 65)) := ⟨_, rfl⟩
      have hbX : Below wr.heap.size wr X := by rw [hX]; exact (Below.refl _ _).alloc (Nat.le_refl _) _
      have hcX : X.cell? ⟨wr.heap.size, 0, none⟩ = some (.int .u64 I) := by rw [hX]; simp
      rw [← hX]
      refine (exp1_any I D t (.slice u nq cq) G1 _ (cell_below cN hbX)).mono ?_
      rintro r w3 ⟨rfl, hb3⟩
      have b3 := Below.step (Below.step hbr hbX) hb3
      have O3 := hide (((unhide HO).below hbX).below hb3)
      have hc3 := cell_below hcX hb3
      have z3 : w2.heap.size ≤ w3.heap.size := b3.size
      clear hX hbX hcX hb3 HO hcI hcD hcQ cN BB hbr hz
      by_cases hDt : D ≤ t
      · have hd : decide (D ≤ t) = true := by simp [hDt]
        have E1 : Hid (L2 = L ++ [I]) := by
          have := unhide HSN
          rw [if_pos hDt] at this
          exact this
        rw [hd]
        go_wp2_with (at_builtin; refine wpList_append_u rfl _ _ rfl w2.heap.size (.slice pv L.length cv) L L2 I E1 w3.heap.size rfl rfl (OwnU.below (unhide O3) ((Below.refl _ _).alloc (Nat.le_refl _) _)) (by simp) hl4 (by simp; omega) ?_)
        intro p' c' w' o2 hg2
        have bA : Below w3.heap.size w3 (w3.alloc (.cells #[.int .u64 I] 23)) := (Below.refl _ _).alloc (Nat.le_refl _) _
        have b4 : Below w2.heap.size w2 w' := (Below.step b3 bA).grown hg2 (by simp; omega) (fun b' e => ((unhide O3).lt b' e).1)
        clear bA hg2 hc3
        rw [unhide EL2] at o2 ⊢
        go_wp2
        go_roundw
        case rel => exact ⟨k + 1, by omega, by go_num, o2, b4⟩
        case measure => simp [intOf]; omega
      · have hd : decide (D ≤ t) = false := by simp [hDt]
        rw [hd]
        go_wp2
        go_roundw
        case rel =>
          have := unhide HSN
          rw [if_neg (by omega), List.append_nil] at this
          exact ⟨k + 1, by omega, by go_num, by rw [← unhide EL2, this]; exact unhide O3, b3⟩
        case measure => simp [intOf]; omega
    · have hlt' : ¬ (k : Int) < (n : Int) := by omega
      have ekn : k = n := by omega
      subst ekn
      have ho2 : OwnU w.heap.size wr u4 (expL t ss) := by
        rw [List.take_of_length_le (by rw [unhide en]; exact Nat.le_refl _)] at ho
        exact OwnU.mono ho (by omega)
      go_wp2
      go_ret
      exact ⟨_, rfl, ho2, BB⟩

set_option maxHeartbeats 1600000 in
theorem implExp_no (e g x t : Int) (p q : Option Addr) (c n d m : Nat) (ss : List Ses) (ns : List Nod) (en : Hid (ss.length = n)) (em : Hid (ns.length = m)) (w : World) (h : RdSc w (.slice p n c) ss) (hN : RdN w (.slice q m d) ns) (hn : n ≤ 1048576) (hm : m ≤ 1048576)
    (hbs : Hid (∀ s ∈ ss, s.2.2.length ≤ 1048576 ∧ ∀ e ∈ s.2.2, Byt e.2 ∧ e.2.length ≤ 1048576)) (hby : Hid (∀ nd ∈ ns, Byt nd.path ∧ nd.path.length ≤ 1048576 ∧ nd.value.length ≤ 1048576 ∧ nd.holders.length ≤ 1048576 ∧ nd.watchers.length ≤ 1048576))
    (hnu : Hid (∀ nd ∈ ns, (∀ i ∈ nd.holders, 0 ≤ i ∧ i < 18446744073709551616) ∧ ∀ i ∈ nd.watchers, 0 ≤ i ∧ i < 18446744073709551616))
    (hou : Hid (∀ nd ∈ ns, 0 ≤ nd.owner ∧ nd.owner < 18446744073709551616)) (hML : ML w) (eB : Hid (stOK e g x t ss ns = false)) :
    Calls Tryz.prog 20 #[stV e g x t (.slice p n c) (.slice q m d)] w fun r w' => ∃ v, r = .returned v ∧ OwnU w.heap.size w' v [] ∧ Below w.heap.size w w' := by
  have HR := hide fun (w' : World) (hb : Below w.heap.size w w') => And.intro (h.below hb) (And.intro (hN.below hb) (hML.below hb))
  clear h hN hML
  obtain ⟨W, hW⟩ : ∃ W, W = (w.alloc (.cells #[.int .u64 e, .int .u64 g, .int .u64 x, .int .i64 t, .slice p n c, .slice q m d] 27)) := ⟨_, rfl⟩
  have bW : Below w.heap.size w W := by rw [hW]; exact (Below.refl _ _).alloc (Nat.le_refl _) _
  go_enter Tryz.func20, Tryz.ntmps20
  go_wp2_with fail
  rw [← hW]
  clear hW
  refine (implVS e g x t p q c n d m ss ns en em _ (unhide HR _ bW).1 (unhide HR _ bW).2.1 hn hm hbs hby hnu hou (unhide HR _ bW).2.2 false eB).mono ?_
  rintro r w1 ⟨rfl, hb1⟩
  have b1 := Below.step bW hb1
  clear hb1 bW
  go_wp2
  go_ret
  exact ⟨_, rfl, (by simpa [OwnU] using World.ownsRow_nil w1 w.heap.size 23 1), b1⟩
theorem implExp (e g x t : Int) (p q : Option Addr) (c n d m : Nat) (ss : List Ses) (ns : List Nod) (en : Hid (ss.length = n)) (em : Hid (ns.length = m)) (w : World) (h : RdSc w (.slice p n c) ss) (hN : RdN w (.slice q m d) ns) (hn : n ≤ 1048576) (hm : m ≤ 1048576)
    (hbs : Hid (∀ s ∈ ss, s.2.2.length ≤ 1048576 ∧ ∀ e ∈ s.2.2, Byt e.2 ∧ e.2.length ≤ 1048576)) (hby : Hid (∀ nd ∈ ns, Byt nd.path ∧ nd.path.length ≤ 1048576 ∧ nd.value.length ≤ 1048576 ∧ nd.holders.length ≤ 1048576 ∧ nd.watchers.length ≤ 1048576))
    (hnu : Hid (∀ nd ∈ ns, (∀ i ∈ nd.holders, 0 ≤ i ∧ i < 18446744073709551616) ∧ ∀ i ∈ nd.watchers, 0 ≤ i ∧ i < 18446744073709551616))
    (hou : Hid (∀ nd ∈ ns, 0 ≤ nd.owner ∧ nd.owner < 18446744073709551616)) (hML : ML w) :
    Calls Tryz.prog 20 #[stV e g x t (.slice p n c) (.slice q m d)] w fun r w' => ∃ v, r = .returned v ∧ OwnU w.heap.size w' v (expR e g x t ss ns) ∧ Below w.heap.size w w' := by
  unfold expR
  by_cases hB : stOK e g x t ss ns = true
  · rw [if_pos hB]
    exact implExp_ok e g x t p q c n d m ss ns en em w h hN hn hm hbs hby hnu hou hML hB
  · rw [if_neg hB]
    exact implExp_no e g x t p q c n d m ss ns en em w h hN hn hm hbs hby hnu hou hML (hide (by simpa using hB))
end Go.Proofs.YtpbppdeleijhkaaGreatDoor
