import Derived.Test.YtpbppdeleijhkaaGreatDoorLO1
import Derived.Test.YtpbppdeleijhkaaGreatDoorJ3
import Derived.Test.YtpbppdeleijhkaaGreatDoorVMa
namespace Go.Proofs.YtpbppdeleijhkaaGreatDoor
open Go.ChangeShapes Go.WideShapes Go.ChangeAt Go.RowKit
set_option linter.unusedVariables false
set_option linter.unusedSimpArgs false
set_option maxRecDepth 100000

/-- the ids of the sessions whose deadline is at most t -/
def expL (t : Int) (ss : List Ses) : List Int := (ss.filter fun s => decide (s.2.1 ≤ t)).map (·.1)
theorem expL_snoc {t : Int} {ss : List Ses} {k : Nat} {s : Ses} (h : ss[k]? = some s) : expL t (ss.take (k + 1)) = expL t (ss.take k) ++ (if s.2.1 ≤ t then [s.1] else []) := by
  rw [List.take_add_one, h]
  simp only [expL, Option.toList_some, List.filter_append, List.map_append]
  congr 1
  by_cases h1 : s.2.1 ≤ t <;> simp [h1]
theorem expL_len (t : Int) (ss : List Ses) : (expL t ss).length ≤ ss.length := by
  simp only [expL, List.length_map]
  exact List.length_filter_le _ _
abbrev OwnU (B : Nat) (w : World) (v : Value) (l : List Int) : Prop := w.ownsRow B 23 1 v l.length (l.map (Value.int .u64))

theorem OwnU.form {B : Nat} {w : World} {v : Value} {l : List Int} (h : OwnU B w v l) : ∃ p c, v = .slice p l.length c := by
  rcases h.2 with ⟨rfl, h0⟩ | ⟨g, cap, cur, rfl, _⟩
  · exact ⟨none, 0, by rw [h0]⟩
  · exact ⟨_, _, rfl⟩
/-- 'append(x, u)' of one number that lies in a block of its own -/
theorem wpList_append_u {w : World} {ops : Array Oper} {rest : List Oper} {o : Oper} {a : Act} {Q : Exit → Act → World → Prop} (hgd : o.guard = none) (s x : Operand)
    (ho : o.op = .call { callee := .builtin .append, args := #[s, x], argTypes := #[41, 41] })
    (B : Nat) (v : Value) (l lm : List Int) (y : Int) (elm : Hid (lm = l ++ [y])) (g : Nat) (hs : a.eval s = v) (hx : a.eval x = .slice (some ⟨g, 0, none⟩) 1 1) (hown : OwnU B w v l) (hc : w.cell? ⟨g, 0, none⟩ = some (.int .u64 y))
    (hl : l.length < 4194304) (hB : B ≤ w.heap.size)
    (h : ∀ p' c' w', OwnU B w' (.slice p' lm.length c') lm → w.grownBy w' v.ownBlock → wpList Tryz.prog ops Q rest (a.put o.dst (.slice p' lm.length c')) w') : wpList Tryz.prog ops Q (o :: rest) a w := by
  obtain ⟨i, hi, hz0, hz1, hz2⟩ := info_parts Tryz.infoU64
  refine wpList_append_fr hgd s x 41 ho B 23 i (.int .u64 0) 1 8 Tryz.underlying41 hi hz0 hz1 hz2 rfl (by decide) v _ _ hs hown g 1 1 [.int .u64 y] hx rfl (fun j u hu => ?_) (fun u hu => by simp at hu; subst hu; rfl) (by unfold maxLen; omega) (by omega) hB ?_
  · cases j with
    | zero => simp at hu; subst hu; exact hc
    | succ j => simp at hu
  · intro v' w' h1 h2 _
    have e := unhide elm
    subst e
    have ho2 : OwnU B w' v' (l ++ [y]) := by unfold OwnU; rw [List.length_append, List.map_append]; exact h1
    obtain ⟨p', c', rfl⟩ := ho2.form
    exact h p' c' w' ho2 h2
theorem OwnU.mono {B B' : Nat} {w : World} {v : Value} {l : List Int} (h : OwnU B w v l) (hB : B' ≤ B) : OwnU B' w v l := by
  refine ⟨h.1, ?_⟩
  rcases h.2 with h | ⟨g, cap, cur, rfl, hb, r⟩
  · exact .inl h
  · exact .inr ⟨g, cap, cur, rfl, by omega, r⟩
theorem OwnU.below {B : Nat} {w w' : World} {v : Value} {l : List Int} (h : OwnU B w v l) (hb : Below w.heap.size w w') : OwnU B w' v l :=
  World.ownsRow.kept (row := none) h (grown_of_b hb) (by by_cases e : v.ownBlock = none <;> simp [e])

set_option maxHeartbeats 1600000 in
theorem specExp_ok (e g x t : Int) (p q : Option Addr) (c n d m : Nat) (ss : List Ses) (ns : List Nod) (en : Hid (ss.length = n)) (em : Hid (ns.length = m)) (w : World) (h : RdS w (.slice p n c) ss) (hN : RdN w (.slice q m d) ns) (hn : n ≤ 1048576) (hm : m ≤ 1048576)
    (hbs : Hid (∀ s ∈ ss, s.2.2.length ≤ 1048576 ∧ ∀ e ∈ s.2.2, Byt e.2 ∧ e.2.length ≤ 1048576)) (hby : Hid (∀ nd ∈ ns, Byt nd.path ∧ nd.path.length ≤ 1048576 ∧ nd.value.length ≤ 1048576 ∧ nd.holders.length ≤ 1048576 ∧ nd.watchers.length ≤ 1048576)) (eB : Hid (stOK e g x t ss ns = true)) :
    Calls Tryz.prog 18 #[stV e g x t (.slice p n c) (.slice q m d)] w fun r w' => ∃ v, r = .returned v ∧ OwnU w.heap.size w' v (expL t ss) ∧ Below w.heap.size w w' := by
  have HR := hide fun (w' : World) (hb : Below w.heap.size w w') => And.intro (h.below hb) (hN.below hb)
  clear h hN
  obtain ⟨iu, hiu, hz0, hz1, hz2⟩ := info_parts Tryz.infoU64
  obtain ⟨W, hW⟩ : ∃ W, W = (w.alloc (.cells #[.int .u64 e, .int .u64 g, .int .u64 x, .int .i64 t, .slice p n c, .slice q m d] 27)) := ⟨_, rfl⟩
  have bW : Below w.heap.size w W := by rw [hW]; exact (Below.refl _ _).alloc (Nat.le_refl _) _
  have hc6 : St6 W w.heap.size e g x t (.slice p n c) (.slice q m d) := by rw [hW]; simp [St6]
  have zW : W.heap.size = w.heap.size + 1 := by rw [hW]; simp
  go_enter Tryz.func18, Tryz.ntmps18
  go_wp2_with fail
  rw [← hW]
  clear hW
  refine (specVS e g x t p q c n d m ss ns en em _ (unhide HR _ bW).1 (unhide HR _ bW).2 hn hm hbs hby true eB).mono ?_
  rintro r w1 ⟨rfl, hb1⟩
  have b1 := Below.step bW hb1
  have z1 : w.heap.size + 1 ≤ w1.heap.size := by have := hb1.size; omega
  have C1 := hide (hc6.below hb1)
  clear hb1 bW hc6 zW
  go_wp2_with fail
  go_loopw [3, 4] (fun ov iv wr => ∃ (k : Nat), k ≤ n ∧ iv = .int .i64 k ∧ OwnU (w.heap.size + 1) wr ov (expL t (ss.take k)) ∧ Below w.heap.size w wr ∧ Hid (St6 wr w.heap.size e g x t (.slice p n c) (.slice q m d))) (fun _ iv _ => n - (intOf iv).toNat)
  case atStart => exact ⟨0, Nat.zero_le _, rfl, (by simpa [expL, OwnU] using World.ownsRow_nil w1 (w.heap.size + 1) 23 1), b1, C1⟩
  case round =>
    obtain ⟨k, hk, rfl, ho, hbr, hst⟩ := hrel
    obtain ⟨i0, i1, i2, i3, i4, i5⟩ := unhide hst
    by_cases hlt : k < n
    · have hlt' : (k : Int) < (n : Int) := by omega
      have hkl : k < ss.length := by rw [unhide en]; exact hlt
      obtain ⟨⟨I, D, Q⟩, hy⟩ : ∃ y, ss[k]? = some y := ⟨_, List.getElem?_eq_getElem hkl⟩
      obtain ⟨b, o, rfl, hcI, hcD⟩ : ∃ b o, p = some ⟨b, o, none⟩ ∧ wr.cell? ⟨b, o + k * 3, none⟩ = some (.int .u64 I) ∧ wr.cell? ⟨b, o + k * 3 + 1, none⟩ = some (.int .i64 D) := by
        obtain ⟨p', c', ev, hd⟩ := (unhide HR _ hbr).1
        simp only [Value.slice.injEq] at ev
        obtain ⟨rfl, -, -⟩ := ev
        rcases hd with h0 | ⟨b, o, h1, h2⟩
        · rw [h0] at hkl; simp at hkl
        · obtain ⟨q1, q2, -⟩ := h2 k _ hy
          exact ⟨b, o, h1, q1, q2⟩
      have hsn := expL_snoc (t := t) hy
      have hll := expL_len t (ss.take k)
      have hl4 : (expL t (ss.take k)).length < 4194304 := by have : (ss.take k).length ≤ k := List.length_take_le _ _; omega
      obtain ⟨pv, cv, rfl⟩ := OwnU.form ho
      obtain ⟨L, eL⟩ : ∃ L, L = expL t (ss.take k) := ⟨_, rfl⟩
      obtain ⟨L2, eL2⟩ : ∃ L2, L2 = expL t (ss.take (k + 1)) := ⟨_, rfl⟩
      rw [← eL] at ho hl4 hsn ⊢
      rw [← eL2] at hsn
      dsimp only at hsn
      have HSN := hide hsn
      have EL2 := hide eL2
      have HO := hide ho
      have hz : w.heap.size + 1 ≤ wr.heap.size := by
        have := hbr.cell (p := ⟨b, o, none⟩)
        have := World.block_lt_of_cell? wr _ i0
        simp at this
        omega
      clear hy hkl hsn hll eL eL2 ho
      go_wp2_with fail
      refine wp_region_noPanic ?_
      refine wp_region_held_drew (S := fun w' => w'.cell? ⟨w.heap.size, 4, none⟩ = some (.slice (some ⟨b, o, none⟩) n c) ∧ w'.cell? ⟨b, o + k * 3 + 1, none⟩ = some (.int .i64 D) ∧ w'.cell? ⟨w.heap.size, 3, none⟩ = some (.int .i64 t)) (by kernel_rfl) (by exact ⟨i4, hcD, i3⟩) (fun hS => ?_)
      refine wpAnyH_take (i := 0) (oi := _) (v := ?_) (by simp only [List.getElem?_toArray, List.getElem?_cons_succ, List.getElem?_cons_zero]; rfl) (by kernel_rfl) (by kernel_rfl) (by kernel_rfl) (fun _ _ _ h => h) (Or.inl ⟨by rfl, ?_⟩) hS ?_
      rotate_left
      · (intro w' hSw; (try dsimp only at hSw); go_simp; try with_reducible rfl)
      simp only [Act.put, List.setIfInBounds_toArray, List.set_cons_zero, List.set_cons_succ]
      refine wpAnyH_take (i := 1) (oi := _) (v := ?_) (by simp only [List.getElem?_toArray, List.getElem?_cons_succ, List.getElem?_cons_zero]; rfl) (by kernel_rfl) (by kernel_rfl) (by kernel_rfl) (fun _ _ _ h => h) (Or.inl ⟨by rfl, ?_⟩) hS ?_
      rotate_left
      · (intro w' hSw; (try dsimp only at hSw); go_simp; try with_reducible rfl)
      simp only [Act.put, List.setIfInBounds_toArray, List.set_cons_zero, List.set_cons_succ]
      refine wpAnyH_take (i := 2) (oi := _) (v := ?_) (by simp only [List.getElem?_toArray, List.getElem?_cons_succ, List.getElem?_cons_zero]; rfl) (by kernel_rfl) (by kernel_rfl) (by kernel_rfl) (fun _ _ _ h => h) (Or.inl ⟨by rfl, ?_⟩) hS ?_
      rotate_left
      · (intro w' hSw; (try dsimp only at hSw); go_simp; try with_reducible rfl)
      simp only [Act.put, List.setIfInBounds_toArray, List.set_cons_zero, List.set_cons_succ]
      refine wpAnyH_take (i := 3) (oi := _) (v := ?_) (by simp only [List.getElem?_toArray, List.getElem?_cons_succ, List.getElem?_cons_zero]; rfl) (by kernel_rfl) (by kernel_rfl) (by kernel_rfl) (fun _ _ _ h => h) (Or.inl ⟨by rfl, ?_⟩) hS ?_
      rotate_left
      · (intro w' hSw; (try dsimp only at hSw); go_simp; try with_reducible rfl)
      simp only [Act.put, List.setIfInBounds_toArray, List.set_cons_zero, List.set_cons_succ]
      refine wpAnyH_take (i := 4) (oi := _) (v := ?_) (by simp only [List.getElem?_toArray, List.getElem?_cons_succ, List.getElem?_cons_zero]; rfl) (by kernel_rfl) (by kernel_rfl) (by kernel_rfl) (fun _ _ _ h => h) (Or.inl ⟨by rfl, ?_⟩) hS ?_
      rotate_left
      · (intro w' hSw; (try dsimp only at hSw); go_simp; try with_reducible rfl)
      simp only [Act.put, List.setIfInBounds_toArray, List.set_cons_zero, List.set_cons_succ]
      refine wpAnyH_take (i := 5) (oi := _) (v := ?_) (by simp only [List.getElem?_toArray, List.getElem?_cons_succ, List.getElem?_cons_zero]; rfl) (by kernel_rfl) (by kernel_rfl) (by kernel_rfl) (fun _ _ _ h => h) (Or.inl ⟨by rfl, ?_⟩) hS ?_
      rotate_left
      · (intro w' hSw; (try dsimp only at hSw); go_simp; try with_reducible rfl)
      simp only [Act.put, List.setIfInBounds_toArray, List.set_cons_zero, List.set_cons_succ]
      refine wpAnyH_take (i := 6) (oi := _) (v := ?_) (by simp only [List.getElem?_toArray, List.getElem?_cons_succ, List.getElem?_cons_zero]; rfl) (by kernel_rfl) (by kernel_rfl) (by kernel_rfl) (fun _ _ _ h => h) (Or.inl ⟨by rfl, ?_⟩) hS ?_
      rotate_left
      · (intro w' hSw; (try dsimp only at hSw); go_simp; try with_reducible rfl)
      simp only [Act.put, List.setIfInBounds_toArray, List.set_cons_zero, List.set_cons_succ]
      refine wpAnyH_take (i := 7) (oi := _) (v := ?_) (by simp only [List.getElem?_toArray, List.getElem?_cons_succ, List.getElem?_cons_zero]; rfl) (by kernel_rfl) (by kernel_rfl) (by kernel_rfl) (fun _ _ _ h => h) (Or.inl ⟨by rfl, ?_⟩) hS ?_
      rotate_left
      · (intro w' hSw; (try dsimp only at hSw); go_simp; try with_reducible rfl)
      simp only [Act.put, List.setIfInBounds_toArray, List.set_cons_zero, List.set_cons_succ]
      refine wpAnyH_take (i := 8) (oi := _) (v := ?_) (by simp only [List.getElem?_toArray, List.getElem?_cons_succ, List.getElem?_cons_zero]; rfl) (by kernel_rfl) (by kernel_rfl) (by kernel_rfl) (fun _ _ _ h => h) (Or.inl ⟨by rfl, ?_⟩) hS ?_
      rotate_left
      · (intro w' hSw; (try dsimp only at hSw); go_simp; try with_reducible rfl)
      simp only [Act.put, List.setIfInBounds_toArray, List.set_cons_zero, List.set_cons_succ]
      refine wpAnyH_done (by kernel_rfl) ?_ _
      refine NoPanic.normal ?_
      obtain ⟨X, hX⟩ : ∃ X, X = wr.drew := ⟨_, rfl⟩
      rw [← hX]
      have hbX : Below wr.heap.size wr X := by rw [hX]; exact (Below.refl _ _).drew
      have bX := Below.step hbr hbX
      have stX := hide ((unhide hst).below hbX)
      have OX := hide ((unhide HO).below hbX)
      have hzX : w.heap.size + 1 ≤ X.heap.size := by have := hbX.size; omega
      replace hcI := cell_below hcI hbX
      clear hS hX hbX HO i0 i1 i2 i3 i4 i5 hst hbr hcD hz
      obtain ⟨i0, i1, i2, i3, i4, i5⟩ := unhide stX
      by_cases hDt : D ≤ t
      · have E1 : Hid (L2 = L ++ [I]) := by
          have := unhide HSN
          rw [if_pos hDt] at this
          exact this
        go_wp2_with (at_builtin; refine wpList_append_u rfl _ _ rfl (w.heap.size + 1) (.slice pv L.length cv) L L2 I E1 X.heap.size rfl rfl (OwnU.below (unhide OX) ((Below.refl _ _).alloc (Nat.le_refl _) _)) (by simp) hl4 (by simp; omega) ?_)
        intro p' c' w' o2 hg2
        have bA : Below X.heap.size X (X.alloc (.cells #[.int .u64 I] 23)) := (Below.refl _ _).alloc (Nat.le_refl _) _
        have b2 : Below w.heap.size w w' := (Below.step bX bA).grown hg2 (by simp; omega) (fun b' e => by have := ((unhide OX).lt b' e).1; omega)
        have st2 : Hid (St6 w' w.heap.size e g x t (.slice (some ⟨b, o, none⟩) n c) (.slice q m d)) :=
          ((unhide stX).below bA).heap (hg2.block w.heap.size (by simp; omega) (fun e => by have := ((unhide OX).lt w.heap.size e.symm).1; omega))
        clear bA hg2 i0 i1 i2 i3 i4 i5 hcI
        rw [unhide EL2] at o2 ⊢
        go_wp2
        go_roundw
        case rel => exact ⟨k + 1, by omega, by go_num, o2, b2, st2⟩
        case measure => simp [intOf]; omega
      · go_wp2
        go_roundw
        case rel =>
          have := unhide HSN
          rw [if_neg hDt, List.append_nil] at this
          exact ⟨k + 1, by omega, by go_num, by rw [← unhide EL2, this]; exact unhide OX, bX, stX⟩
        case measure => simp [intOf]; omega
    · have hlt' : ¬ (k : Int) < (n : Int) := by omega
      have ekn : k = n := by omega
      subst ekn
      have ho2 : OwnU w.heap.size wr u3 (expL t ss) := by
        rw [List.take_of_length_le (by rw [unhide en]; exact Nat.le_refl _)] at ho
        exact OwnU.mono ho (by omega)
      go_wp2
      go_ret
      exact ⟨_, rfl, ho2, hbr⟩

set_option maxHeartbeats 1600000 in
theorem specExp_no (e g x t : Int) (p q : Option Addr) (c n d m : Nat) (ss : List Ses) (ns : List Nod) (en : Hid (ss.length = n)) (em : Hid (ns.length = m)) (w : World) (h : RdS w (.slice p n c) ss) (hN : RdN w (.slice q m d) ns) (hn : n ≤ 1048576) (hm : m ≤ 1048576)
    (hbs : Hid (∀ s ∈ ss, s.2.2.length ≤ 1048576 ∧ ∀ e ∈ s.2.2, Byt e.2 ∧ e.2.length ≤ 1048576)) (hby : Hid (∀ nd ∈ ns, Byt nd.path ∧ nd.path.length ≤ 1048576 ∧ nd.value.length ≤ 1048576 ∧ nd.holders.length ≤ 1048576 ∧ nd.watchers.length ≤ 1048576)) (eB : Hid (stOK e g x t ss ns = false)) :
    Calls Tryz.prog 18 #[stV e g x t (.slice p n c) (.slice q m d)] w fun r w' => ∃ v, r = .returned v ∧ OwnU w.heap.size w' v [] ∧ Below w.heap.size w w' := by
  have HR := hide fun (w' : World) (hb : Below w.heap.size w w') => And.intro (h.below hb) (hN.below hb)
  clear h hN
  obtain ⟨W, hW⟩ : ∃ W, W = (w.alloc (.cells #[.int .u64 e, .int .u64 g, .int .u64 x, .int .i64 t, .slice p n c, .slice q m d] 27)) := ⟨_, rfl⟩
  have bW : Below w.heap.size w W := by rw [hW]; exact (Below.refl _ _).alloc (Nat.le_refl _) _
  have hc6 : St6 W w.heap.size e g x t (.slice p n c) (.slice q m d) := by rw [hW]; simp [St6]
  go_enter Tryz.func18, Tryz.ntmps18
  go_wp2_with fail
  rw [← hW]
  clear hW
  refine (specVS e g x t p q c n d m ss ns en em _ (unhide HR _ bW).1 (unhide HR _ bW).2 hn hm hbs hby false eB).mono ?_
  rintro r w1 ⟨rfl, hb1⟩
  have b1 := Below.step bW hb1
  clear hb1 bW hc6
  go_wp2
  go_ret
  exact ⟨_, rfl, (by simpa [OwnU] using World.ownsRow_nil w1 w.heap.size 23 1), b1⟩
/-- what Expired gives -/
def expR (e g x t : Int) (ss : List Ses) (ns : List Nod) : List Int := if stOK e g x t ss ns = true then expL t ss else []
theorem specExp (e g x t : Int) (p q : Option Addr) (c n d m : Nat) (ss : List Ses) (ns : List Nod) (en : Hid (ss.length = n)) (em : Hid (ns.length = m)) (w : World) (h : RdS w (.slice p n c) ss) (hN : RdN w (.slice q m d) ns) (hn : n ≤ 1048576) (hm : m ≤ 1048576)
    (hbs : Hid (∀ s ∈ ss, s.2.2.length ≤ 1048576 ∧ ∀ e ∈ s.2.2, Byt e.2 ∧ e.2.length ≤ 1048576)) (hby : Hid (∀ nd ∈ ns, Byt nd.path ∧ nd.path.length ≤ 1048576 ∧ nd.value.length ≤ 1048576 ∧ nd.holders.length ≤ 1048576 ∧ nd.watchers.length ≤ 1048576)) :
    Calls Tryz.prog 18 #[stV e g x t (.slice p n c) (.slice q m d)] w fun r w' => ∃ v, r = .returned v ∧ OwnU w.heap.size w' v (expR e g x t ss ns) ∧ Below w.heap.size w w' := by
  unfold expR
  by_cases hB : stOK e g x t ss ns = true
  · rw [if_pos hB]
    exact specExp_ok e g x t p q c n d m ss ns en em w h hN hn hm hbs hby hB
  · rw [if_neg hB]
    exact specExp_no e g x t p q c n d m ss ns en em w h hN hn hm hbs hby (hide (by simpa using hB))
end Go.Proofs.YtpbppdeleijhkaaGreatDoor
