import Derived.Test.YtipeflnkcjkoeaaJRS
namespace Go.Proofs.Ytipeflnkcjkoeaa
open Go.ChangeShapes Go.WideShapes Go.ChangeAt Go.RowKit
set_option linter.unusedVariables false
set_option linter.unusedSimpArgs false

theorem fol_bounds (f : Nat) : ∀ (l : List Int) (t : Option Int), Byt l → tkR (fol t (yl f l)) ≤ l.length ∧ ∀ r ∈ fol t (yl f l), r.2.length ≤ 1000 ∧ Byt r.2 ∧ 0 ≤ r.1 ∧ r.1 < 18446744073709551616 := by
  induction f with
  | zero => intro l t _; simp [yl, fol, tkR]
  | succ f ih =>
    intro l t hB
    cases h : rec1 l with
    | none => rw [yl_none h]; simp [fol, tkR]
    | some r =>
      obtain ⟨s, b⟩ := r
      obtain ⟨h1, h2, h3, h4, h5, h6⟩ := rec1_some hB h
      obtain ⟨s0, s1⟩ := num_lt8 (hB.sub 2 10) (by simp [sub]; omega)
      rw [yl_some h]
      by_cases ho : okN t s = true
      · obtain ⟨i1, i2⟩ := ih (l.drop (b.length + 14)) (some s) (hB.drop _)
        simp only [fol, ho, if_true]
        rw [List.length_drop] at i1
        refine ⟨by simp only [tkR]; omega, fun r hr => ?_⟩
        rcases List.mem_cons.1 hr with rfl | hr
        · exact ⟨h2, by rw [h5]; exact hB.sub _ _, by rw [h4]; exact s0, by rw [h4]; exact s1⟩
        · exact i2 r hr
      · simp [fol, ho, tkR]
theorem tot_le (rs : List R1) : tot rs ≤ tkR rs := by induction rs with | nil => simp [tot] | cons r rs ih => simp [tot, tkR]; omega
theorem len_le (rs : List R1) : rs.length ≤ tkR rs := by induction rs with | nil => simp | cons r rs ih => simp [tkR]; omega
theorem rl_bounds {l : List Int} (hB : Byt l) : tkR (rl l) ≤ l.length ∧ ∀ r ∈ rl l, r.2.length ≤ 1000 ∧ Byt r.2 ∧ 0 ≤ r.1 ∧ r.1 < 18446744073709551616 := fol_bounds _ l none hB
theorem Own.addr {B : Nat} {w : World} {p : Option Addr} {c n : Nat} {l : List Int} (h : Own B w (.slice p n c) l) : (p = none ∧ c = 0) ∨ ∃ b o, p = some ⟨b, o, none⟩ := by
  rcases h.2 with ⟨e, h0⟩ | ⟨g, cap, cur, e, _⟩
  · simp only [Value.slice.injEq] at e; exact .inl ⟨e.1, e.2.2⟩
  · simp only [Value.slice.injEq] at e; exact .inr ⟨g, 0, e.1⟩
/-- what a writing to old blocks leaves -/
theorem OwnR.low {B : Nat} {w w' : World} {v u : Value} {rs : List R1} {vs : List Value} (h : OwnR B w v rs vs) (hg : w.grownBy w' u.ownBlock) (hu : ∀ b, u.ownBlock = some b → b < B) : OwnR B w' v rs vs := by
  refine ⟨h.len, World.ownsRow.kept h.row hg ?_, fun i r x h1 h2 => Own.keptBy (vs := [u]) (h.own i r x h1 h2) (Kept.of_grown hg (by simp)) ?_, h.ap⟩
  · cases e : v.ownBlock with
    | none => exact .inl rfl
    | some b => exact .inr fun e2 => by have := (h.rowLt b e).1; have := hu b e2.symm; omega
  · intro y hy b e1 e2
    simp only [List.mem_singleton] at hy
    subst hy
    have := (Own.lt (h.own i r x h1 h2) b e1).1
    have := hu b e2
    omega

set_option maxHeartbeats 2000000 in
theorem lawReadLog_small (p : Option Addr) (c n K : Nat) (T : Int) (l : List Int) (rs : List R1) (w : World) (h : Rd w (.slice p n c) l) (en : Hid (l.length = n)) (eK : Hid (rs.length = K)) (hl : n ≤ 1048576) (hKn : K ≤ 1048576) (hto : Hid (tot rs ≤ 1048576)) (hbl : Hid (∀ r ∈ rs, r.2.length ≤ 1048576))
    (spec : Hid (∀ (q : Option Addr) (d : Nat) (w : World), Rd w (.slice q n d) l → n ≤ d → d ≤ maxLen → Calls Try.prog 25 #[.slice q n d] w fun e w' => ∃ p c vs, e = .returned (.tuple #[.slice p K c, .int .i64 T]) ∧ OwnR w.heap.size w' (.slice p K c) rs vs ∧ Below w.heap.size w w'))
    (impl : Hid (∀ (q : Option Addr) (d : Nat) (w : World), Rd w (.slice q n d) l → n ≤ d → d ≤ maxLen → ((q = none ∧ d = 0) ∨ ∃ b o, q = some ⟨b, o, none⟩) → Calls Try.prog 26 #[.slice q n d] w fun e w' => ∃ p c vs, e = .returned (.tuple #[.slice p K c, .int .i64 T]) ∧ OwnR w.heap.size w' (.slice p K c) rs vs ∧ Below w.heap.size w w')) :
    Calls Try.prog 7 #[.slice p n c] w fun e w' => e = .returned (.bool true) ∧ Below w.heap.size w w' := by
  have hl' : ¬ (1048576 : Int) < (n : Int) := by omega
  have hT : (T != T) = false := by simp
  obtain ⟨t, et⟩ : ∃ t, tot rs = t := ⟨_, rfl⟩
  have ht : t ≤ 1048576 := by rw [← et]; exact unhide hto
  have ET := hide et
  clear et
  go_enter Try.func7, Try.ntmps7
  go_wp2_with fail
  refine (toByteS_n p c n l en _ h hl).mono ?_
  rintro e w1 ⟨p1, c1, rfl, o1, b1⟩
  have z1 := b1.size
  go_wp2_with fail
  refine (unhide spec p1 c1 _ o1.rd o1.cap o1.capMax).mono ?_
  rintro e w2 ⟨p2, c2, vs2, rfl, o2, hb2⟩
  have b2 := Below.step b1 hb2
  have z2 := hb2.size
  have R2 := hide o2.rd
  clear o1 b1 hb2 o2
  go_wp2_with fail
  refine (toByteS_n p c n l en _ (h.below b2) hl).mono ?_
  rintro e w3 ⟨p3, c3, rfl, x3, s3⟩
  have b3 := Below.step b2 s3
  have t3 := x3.btw
  have z3 := s3.size
  clear b2
  go_wp2_with fail
  refine (unhide impl p3 c3 _ x3.rd x3.cap x3.capMax x3.addr).mono ?_
  rintro e w4 ⟨p4, c4, vs4, rfl, g4, hb4⟩
  have b4 := Below.step b3 hb4
  have s4 := Below.step s3 hb4
  have x4 := Own.below x3 hb4
  have z4 := hb4.size
  clear b3 hb4 x3 s3
  go_wp2_with fail
  refine (eqRecordS_same p4 p2 c4 c2 K rs eK _ g4.rd ((unhide R2).below s4) hKn (unhide hbl)).mono ?_
  rintro e w5 ⟨rfl, hb5⟩
  have b5 := Below.step b4 hb5
  have s5 := Below.step s4 hb5
  have x5 := Own.below x4 hb5
  have g5 := g4.below hb5
  have z5 := hb5.size
  clear b4 hb5 x4 g4 s4
  go_wp2_with fail
  refine (toByteS_n p c n l en _ (h.below b5) hl).mono ?_
  rintro e w6 ⟨p6, c6, rfl, y6, hb6⟩
  have b6 := Below.step b5 hb6
  have s6 := Below.step s5 hb6
  have x6 := Own.below x5 hb6
  have g6 := g5.below hb6
  have z6 := hb6.size
  clear b5 hb6 x5 g5 s5
  go_wp2_with fail
  refine (eqByteS_n p3 p6 c3 c6 n l en _ x6.rd y6.rd (by omega)).mono ?_
  rintro e w7 ⟨rfl, hb7⟩
  have b7 := Below.step b6 hb7
  have s7 := Below.step s6 hb7
  have x7 := Own.below x6 hb7
  have g7 := g6.below hb7
  have z7 := hb7.size
  clear b6 hb7 x6 g6 y6 s6
  go_wp2_with fail
  refine (markByteS_n w2.heap.size p3 c3 n l en 1 _ x7 (by omega) (by omega) (by omega)).mono ?_
  rintro e w8 ⟨rfl, x8, hg8⟩
  have b8 := below_mark b7 hg8 t3 (by omega) (by omega)
  have s8 := below_mark s7 hg8 t3 (by omega) (by omega)
  have g8 := g7.low hg8 (fun b e => (t3 b e).2)
  have z8 := hg8.size
  clear b7 hg8 g7 x7 x8 s7
  go_wp2_with fail
  refine (eqRecordS_same p4 p2 c4 c2 K rs eK _ g8.rd ((unhide R2).below s8) hKn (unhide hbl)).mono ?_
  rintro e w9 ⟨rfl, hb9⟩
  have b9 := Below.step b8 hb9
  have s9 := Below.step s8 hb9
  have g9 := g8.below hb9
  have z9 := hb9.size
  clear b8 hb9 s8 g8
  go_wp2_with fail
  refine (markRecordS_any w3.heap.size p4 c4 K rs vs4 eK 1 _ g9 (by omega) (by omega) (by rw [unhide ET]; omega) hKn (unhide hbl)).mono ?_
  rintro e w10 ⟨rfl, g10, hbm⟩
  rw [unhide ET]
  have b10 := b9.trans (hbm.mono (by omega))
  have s10 := s9.trans (hbm.mono (by omega))
  have z10 := hbm.size
  clear b9 hbm s9 g9
  go_wp2_with fail
  refine (heldRecordS_any p4 c4 K rs eK 1 _ g10.rd (by omega) (by rw [unhide ET]; omega) hKn (unhide hbl)).mono ?_
  rintro e w11 ⟨rfl, hb11⟩
  rw [unhide ET]
  have b11 := Below.step b10 hb11
  have s11 := Below.step s10 hb11
  have z11 := hb11.size
  clear b10 hb11 s10 g10
  go_wp2_with fail
  refine (toByteS_n p c n l en _ (h.below b11) hl).mono ?_
  rintro e w12 ⟨p12, c12, rfl, y12, hb12⟩
  have b12 := Below.step b11 hb12
  have s12 := Below.step s11 hb12
  clear b11 hb12 s11
  go_wp2_with fail
  refine (unhide impl p12 c12 _ y12.rd y12.cap y12.capMax y12.addr).mono ?_
  rintro e w13 ⟨p13, c13, vs13, rfl, g13, hb13⟩
  have b13 := Below.step b12 hb13
  have s13 := Below.step s12 hb13
  clear b12 hb13 s12 y12
  go_wp2_with fail
  refine (eqRecordS_same p13 p2 c13 c2 K rs eK _ g13.rd ((unhide R2).below s13) hKn (unhide hbl)).mono ?_
  rintro e w14 ⟨rfl, hb14⟩
  have b14 := Below.step b13 hb14
  clear b13 hb14 s13 g13
  go_wp2
  go_ret
  exact ⟨rfl, b14⟩
end Go.Proofs.Ytipeflnkcjkoeaa
