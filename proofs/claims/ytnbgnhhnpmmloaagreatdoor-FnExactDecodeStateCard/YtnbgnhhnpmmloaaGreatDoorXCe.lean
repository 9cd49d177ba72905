import Derived.Test.YtnbgnhhnpmmloaaGreatDoorK36
namespace Go.Proofs.YtnbgnhhnpmmloaaGreatDoor
open Go.ChangeShapes Go.WideShapes Go.ChangeAt Go.RowKit
set_option linter.unusedVariables false
set_option linter.unusedSimpArgs false
set_option maxRecDepth 100000
abbrev At8 (w : World) (b : Nat) (v0 v1 v2 v3 v4 v5 v6 v7 : Value) : Prop := w.cell? ⟨b, 0, none⟩ = some v0 ∧ w.cell? ⟨b, 1, none⟩ = some v1 ∧ w.cell? ⟨b, 2, none⟩ = some v2 ∧ w.cell? ⟨b, 3, none⟩ = some v3 ∧ w.cell? ⟨b, 4, none⟩ = some v4 ∧ w.cell? ⟨b, 5, none⟩ = some v5 ∧ w.cell? ⟨b, 6, none⟩ = some v6 ∧ w.cell? ⟨b, 7, none⟩ = some v7
theorem At8.below {w w' : World} {b : Nat} {v0 v1 v2 v3 v4 v5 v6 v7 : Value} (h : At8 w b v0 v1 v2 v3 v4 v5 v6 v7) (hb : Below w.heap.size w w') : At8 w' b v0 v1 v2 v3 v4 v5 v6 v7 :=
 ⟨cell_below h.1 hb, cell_below h.2.1 hb, cell_below h.2.2.1 hb, cell_below h.2.2.2.1 hb, cell_below h.2.2.2.2.1 hb, cell_below h.2.2.2.2.2.1 hb, cell_below h.2.2.2.2.2.2.1 hb, cell_below h.2.2.2.2.2.2.2 hb⟩
theorem rdOne {u : World} {b : Nat} {y : Int} (h : u.cell? ⟨b, 0, none⟩ = some (.int .u8 y)) : Rd u (.slice (some ⟨b, 0, none⟩) 1 1) [y] := by
 refine ⟨_, _, rfl, .inr ⟨b, 0, rfl, fun i hi => ?_⟩⟩
 have e : i = 0 := by simpa using hi
 subst e
 simpa using h
theorem varintN (v : Nat) (w : World) (h64 : v < 18446744073709551616) (M : Nat) (eM : Hid ((vi v).length = M)) :
  Calls Tryz.prog 55 #[.int .u64 v] w fun e w' => ∃ p' c', e = .returned (.slice p' M c') ∧ Own w.heap.size w' (.slice p' M c') (vi v) ∧ Below w.heap.size w w' := by
 have e := uh eM
 subst e
 exact varint_any v w h64
theorem joined7 (X : World) (v0 v1 v2 v3 v4 v5 v6 : Value) (l0 l1 l2 l3 l4 l5 l6 lm : List Int) (N : Nat) (e : Hid (lm = cat [l0, l1, l2, l3, l4, l5, l6])) (en : Hid (lm.length = N)) (r0 : Rd X v0 l0) (r1 : Rd X v1 l1) (r2 : Rd X v2 l2) (r3 : Rd X v3 l3) (r4 : Rd X v4 l4) (r5 : Rd X v5 l5) (r6 : Rd X v6 l6) (hl : N ≤ 4194304) :
  Calls Tryz.prog 54 #[.slice (some ⟨X.heap.size, 0, none⟩) 7 7] (X.alloc (.cells #[v0, v1, v2, v3, v4, v5, v6] 22)) fun e w' => ∃ p' c', e = .returned (.slice p' N c') ∧ Own X.heap.size w' (.slice p' N c') lm ∧ Below X.heap.size X w' := by
 have ba : Below X.heap.size X (X.alloc (.cells #[v0, v1, v2, v3, v4, v5, v6] 22)) := (Below.refl _ _).alloc (Nat.le_refl _) _
 refine (joined_any X.heap.size [v0, v1, v2, v3, v4, v5, v6] [l0, l1, l2, l3, l4, l5, l6] lm N 7 rfl e en _ ⟨rfl, fun j v x e1 e2 => ?_⟩ hl (by omega)).mono ?_
 ·match j, e1, e2 with
  | 0, e1, e2 => simp at e1 e2; subst e1 e2; exact ⟨by simp, r0.below ba⟩
  | 1, e1, e2 => simp at e1 e2; subst e1 e2; exact ⟨by simp, r1.below ba⟩
  | 2, e1, e2 => simp at e1 e2; subst e1 e2; exact ⟨by simp, r2.below ba⟩
  | 3, e1, e2 => simp at e1 e2; subst e1 e2; exact ⟨by simp, r3.below ba⟩
  | 4, e1, e2 => simp at e1 e2; subst e1 e2; exact ⟨by simp, r4.below ba⟩
  | 5, e1, e2 => simp at e1 e2; subst e1 e2; exact ⟨by simp, r5.below ba⟩
  | 6, e1, e2 => simp at e1 e2; subst e1 e2; exact ⟨by simp, r6.below ba⟩
 ·rintro e w' ⟨p', c', rfl, o, hb⟩
  exact ⟨p', c', rfl, Own.mono o (by simp), Below.step ba hb⟩
def noL (P V : List Int) (ow : Nat) (mo : Int) (H : List Int) (ep ge : Nat) : List Int := cat [tx P, tx V, vi ow, [mo], liB viI H, vi ep, vi ge]
def noB (nd : Nod) : List Int := noL nd.path nd.value nd.owner.toNat nd.mode nd.holders nd.epoch.toNat nd.gen.toNat
set_option maxHeartbeats 6400000 in
theorem nodBytes_any (p q r : Option Addr) (n c m d k f : Nat) (U : Value) (P V H : List Int) (ow ep ge : Nat) (mo : Int) (eP : Hid (P.length = n)) (eV : Hid (V.length = m)) (eH : Hid (H.length = k)) (w : World) (hP : Rd w (.slice p n c) P) (hV : Rd w (.slice q m d) V) (hH : RdU w (.slice r k f) H)
  (bn : n ≤ 1048576) (bm : m ≤ 1048576) (bk : k ≤ 900) (hu : Hid (∀ i ∈ H, 0 ≤ i ∧ i < 18446744073709551616)) (b1 : ow < 18446744073709551616) (b2 : ep < 18446744073709551616) (b3 : ge < 18446744073709551616) (bmo : 0 ≤ mo ∧ mo ≤ 2) (N : Nat) (eN : Hid ((noL P V ow mo H ep ge).length = N)) (hN : N ≤ 4194304) :
  Calls Tryz.prog 59 #[ndV (.slice p n c) (.slice q m d) ow mo (.slice r k f) ep ge U] w fun e w' => ∃ p' c', e = .returned (.slice p' N c') ∧ Own w.heap.size w' (.slice p' N c') (noL P V ow mo H ep ge) ∧ Below w.heap.size w w' := by
 have HP := hide fun (w' : World) (hb : Below w.heap.size w w') => And.intro (hP.below hb) (And.intro (hV.below hb) (hH.below hb))
 clear hP hV hH
 have wm : IntKind.u8.wrap mo = mo := by rw [IntKind.wrap_u8]; omega
 obtain ⟨N0, e0⟩ : ∃ M, Hid ((tx P).length = M) := ⟨_, (by show _ = _; rfl)⟩
 obtain ⟨N1, e1⟩ : ∃ M, Hid ((tx V).length = M) := ⟨_, (by show _ = _; rfl)⟩
 obtain ⟨N2, e2⟩ : ∃ M, Hid ((vi ow).length = M) := ⟨_, (by show _ = _; rfl)⟩
 obtain ⟨N4, e4⟩ : ∃ M, Hid ((liB viI H).length = M) := ⟨_, (by show _ = _; rfl)⟩
 obtain ⟨N5, e5⟩ : ∃ M, Hid ((vi ep).length = M) := ⟨_, (by show _ = _; rfl)⟩
 obtain ⟨N6, e6⟩ : ∃ M, Hid ((vi ge).length = M) := ⟨_, (by show _ = _; rfl)⟩
 have hN4 : N4 ≤ 4194304 := by
  have h1 := uh eN
  have h2 := uh e4
  simp only [noL, cat, List.flatten_cons, List.length_append] at h1
  omega
 have EE : Hid (noL P V ow mo H ep ge = cat [tx P, tx V, vi ow, [mo], liB viI H, vi ep, vi ge]) := by show _ = _; rfl
 have hcf1 : ∀ (vs : Array Value) (w : World), (callFunc 54 vs).run Tryz.prog w = .ok (.enter 54 vs) w := fun vs w => by kernel_rfl
 have hcf2 : ∀ (vs : Array Value) (w : World), (callFunc 69 vs).run Tryz.prog w = .ok (.enter 69 vs) w := fun vs w => by kernel_rfl
 have hcf3 : ∀ (vs : Array Value) (w : World), (callFunc 55 vs).run Tryz.prog w = .ok (.enter 55 vs) w := fun vs w => by kernel_rfl
 have hcf4 : ∀ (vs : Array Value) (w : World), (callFunc 101 vs).run Tryz.prog w = .ok (.enter 101 vs) w := fun vs w => by kernel_rfl
 have HCF := hide (And.intro hcf1 (And.intro hcf2 (And.intro hcf3 hcf4)))
 clear hcf1 hcf2 hcf3 hcf4
 obtain ⟨W0, hW0⟩ : ∃ W, W = (w.alloc (.cells #[.slice p n c, .slice q m d, .int .u64 ow, .int .i64 mo, .slice r k f, .int .u64 ep, .int .u64 ge, U] 66)) := ⟨_, rfl⟩
 have bW0 : Below w.heap.size w W0 := by rw [hW0]; exact (Below.refl _ _).alloc (Nat.le_refl _) _
 have hA8 : At8 W0 w.heap.size (.slice p n c) (.slice q m d) (.int .u64 ow) (.int .i64 mo) (.slice r k f) (.int .u64 ep) (.int .u64 ge) U := by rw [hW0]; simp [At8, go_sem]
 go_enter Tryz.func59, Tryz.ntmps59
 go_wp2_with fail
 rw [← hW0]
 obtain ⟨v0, hv0⟩ : ∃ V, V = W0.drew := ⟨_, rfl⟩
 have BW0 : Hid (Below w.heap.size w v0) := by rw [hv0]; exact bW0.drew
 have S0 : Hid (At8 v0 w.heap.size (.slice p n c) (.slice q m d) (.int .u64 ow) (.int .i64 mo) (.slice r k f) (.int .u64 ep) (.int .u64 ge) U) := by rw [hv0]; exact hA8
 refine wp_region_noPanic ?_
 refine wp_region_held_drew (S := fun w' => At8 w' w.heap.size (.slice p n c) (.slice q m d) (.int .u64 ow) (.int .i64 mo) (.slice r k f) (.int .u64 ep) (.int .u64 ge) U) (by kernel_rfl) (by rw [← hv0]; exact uh S0) (fun hS => ?_)
 rw [← hv0] at hS ⊢
 clear hv0 hW0 bW0 hA8
 refine tk 0 hS (h := ?_); simp only [Act.put, xa, xb, xc]
 refine tk 1 hS (h := ?_); simp only [Act.put, xa, xb, xc]
 refine tk 3 hS (h := ?_); simp only [Act.put, xa, xb, xc]
 refine tk 4 hS (h := ?_); simp only [Act.put, xa, xb, xc]
 refine tk 6 hS (h := ?_); simp only [Act.put, xa, xb, xc]
 refine tk 7 hS (h := ?_); simp only [Act.put, xa, xb, xc]
 refine tk 9 hS (h := ?_); simp only [Act.put, xa, xb, xc]
 refine tk 10 hS (h := ?_); simp only [Act.put, xa, xb, xc]
 refine tk 11 hS (h := ?_); simp only [Act.put, xa, xb, xc]
 refine tk 13 hS (h := ?_); simp only [Act.put, xa, xb, xc]
 refine tk 14 hS (h := ?_); simp only [Act.put, xa, xb, xc]
 refine tk 16 hS (h := ?_); simp only [Act.put, xa, xb, xc]
 refine tk 17 hS (h := ?_); simp only [Act.put, xa, xb, xc]
 refine tk 19 hS (h := ?_); simp only [Act.put, xa, xb, xc]
 refine tk 20 hS (h := ?_); simp only [Act.put, xa, xb, xc]
 refine ry [2, 12] ?_
 refine cn (fun KK hK => ?_) ?_
 ·refine step_call1 (by rfl) 69 _ _ (by rfl) (.slice p n c) (by rfl) (fun _ => (uh HCF).2.1 _ _) (textBytes_any p c n P eP _ (uh HP _ (uh BW0)).1 bn N0 e0) ?_
  rintro z9 v1 ⟨pA, cA, rfl, oA, hb1⟩
  refine ⟨_, rfl, ?_⟩
  have S1 := hide ((uh S0).below hb1)
  have BW1 := hide (Below.step (uh BW0) hb1)
  have RA1 := hide oA.rd
  refine hK.out _ _ (by exact uh S1) (fun hS => ?_)
  clear hK KK oA hb1
  (try simp only [Act.put, xa, xb, xc])
  refine ry [5, 12] ?_
  refine cn (fun KK hK => ?_) ?_
  ·refine step_call1 (by rfl) 69 _ _ (by rfl) (.slice q m d) (by rfl) (fun _ => (uh HCF).2.1 _ _) (textBytes_any q d m V eV _ (uh HP _ (uh BW1)).2.1 bm N1 e1) ?_
   rintro z9 v2 ⟨pB, cB, rfl, oB, hb2⟩
   refine ⟨_, rfl, ?_⟩
   have S2 := hide ((uh S1).below hb2)
   have BW2 := hide (Below.step (uh BW1) hb2)
   have RA2 := hide ((uh RA1).below hb2)
   have RB2 := hide oB.rd
   refine hK.out _ _ (by exact uh S2) (fun hS => ?_)
   clear hK KK oB hb2
   (try simp only [Act.put, xa, xb, xc])
   refine ry [8, 12] ?_
   refine cn (fun KK hK => ?_) ?_
   ·refine step_call1 (by rfl) 55 _ _ (by rfl) (.int .u64 ow) (by rfl) (fun _ => (uh HCF).2.2.1 _ _) (varintN ow _ b1 N2 e2) ?_
    rintro z9 v3 ⟨pC, cC, rfl, oC, hb3⟩
    refine ⟨_, rfl, ?_⟩
    have S3 := hide ((uh S2).below hb3)
    have BW3 := hide (Below.step (uh BW2) hb3)
    have RA3 := hide ((uh RA2).below hb3)
    have RB3 := hide ((uh RB2).below hb3)
    have RC3 := hide oC.rd
    refine hK.out _ _ (by exact uh S3) (fun hS => ?_)
    clear hK KK oC hb3
    (try simp only [Act.put, xa, xb, xc])
    refine ry [12, 15] ?_
    refine cn (fun KK hK => ?_) ?_
    ·go_simp
     obtain ⟨v4, hv4⟩ : ∃ V, V = v3.alloc (.cells #[.int .u8 mo] 5) := ⟨_, rfl⟩
     have hb4 : Below v3.heap.size v3 v4 := by rw [hv4]; exact (Below.refl _ _).alloc (Nat.le_refl _) _
     have hp4 : v4.cell? ⟨v3.heap.size, 0, none⟩ = some (.int .u8 mo) := by rw [hv4]; simp
     rw [← hv4]
     have S4 := hide ((uh S3).below hb4)
     have BW4 := hide (Below.step (uh BW3) hb4)
     have RA4 := hide ((uh RA3).below hb4)
     have RB4 := hide ((uh RB3).below hb4)
     have RC4 := hide ((uh RC3).below hb4)
     obtain ⟨GL, hGL⟩ : ∃ G, G = v3.heap.size := ⟨_, rfl⟩
     rw [← hGL] at hp4 ⊢
     have RL4 := hide (rdOne hp4)
     refine hK.out _ _ (by exact uh S4) (fun hS => ?_)
     clear hK KK hv4 hb4 hp4 hGL
     (try simp only [Act.put, xa, xb, xc])
     refine ry [15] ?_
     refine cn (fun KK hK => ?_) ?_
     ·refine step_call2 (by rfl) 101 _ _ _ (by rfl) (.slice r k f) (.func (.func 55) #[] #[]) (by rfl) (by rfl) (fun _ => (uh HCF).2.2.2 _ _) (listU_any r f k H eH _ (uh HP _ (uh BW4)).2.2 bk hu N4 e4 hN4) ?_
      rintro z9 v5 ⟨pD, cD, rfl, oD, hb5⟩
      refine ⟨_, rfl, ?_⟩
      have S5 := hide ((uh S4).below hb5)
      have BW5 := hide (Below.step (uh BW4) hb5)
      have RA5 := hide ((uh RA4).below hb5)
      have RB5 := hide ((uh RB4).below hb5)
      have RC5 := hide ((uh RC4).below hb5)
      have RL5 := hide ((uh RL4).below hb5)
      have RD5 := hide oD.rd
      refine hK.out _ _ (by exact uh S5) (fun hS => ?_)
      clear hK KK oD hb5
      (try simp only [Act.put, xa, xb, xc])
      refine ry [18] ?_
      refine cn (fun KK hK => ?_) ?_
      ·refine step_call1 (by rfl) 55 _ _ (by rfl) (.int .u64 ep) (by rfl) (fun _ => (uh HCF).2.2.1 _ _) (varintN ep _ b2 N5 e5) ?_
       rintro z9 v6 ⟨pE, cE, rfl, oE, hb6⟩
       refine ⟨_, rfl, ?_⟩
       have S6 := hide ((uh S5).below hb6)
       have BW6 := hide (Below.step (uh BW5) hb6)
       have RA6 := hide ((uh RA5).below hb6)
       have RB6 := hide ((uh RB5).below hb6)
       have RC6 := hide ((uh RC5).below hb6)
       have RL6 := hide ((uh RL5).below hb6)
       have RD6 := hide ((uh RD5).below hb6)
       have RE6 := hide oE.rd
       refine hK.out _ _ (by exact uh S6) (fun hS => ?_)
       clear hK KK oE hb6
       (try simp only [Act.put, xa, xb, xc])
       refine ry [21] ?_
       refine cn (fun KK hK => ?_) ?_
       ·refine step_call1 (by rfl) 55 _ _ (by rfl) (.int .u64 ge) (by rfl) (fun _ => (uh HCF).2.2.1 _ _) (varintN ge _ b3 N6 e6) ?_
        rintro z9 v7 ⟨pF, cF, rfl, oF, hb7⟩
        refine ⟨_, rfl, ?_⟩
        have S7 := hide ((uh S6).below hb7)
        have BW7 := hide (Below.step (uh BW6) hb7)
        have RA7 := hide ((uh RA6).below hb7)
        have RB7 := hide ((uh RB6).below hb7)
        have RC7 := hide ((uh RC6).below hb7)
        have RL7 := hide ((uh RL6).below hb7)
        have RD7 := hide ((uh RD6).below hb7)
        have RE7 := hide ((uh RE6).below hb7)
        have RF7 := hide oF.rd
        refine hK.out _ _ (by exact uh S7) (fun hS => ?_)
        clear hK KK oF hb7
        (try simp only [Act.put, xa, xb, xc])
        refine ry [22] ?_
        refine cn (fun KK hK => ?_) ?_
        ·go_simp
         obtain ⟨Y, hY⟩ : ∃ Y, Y = v7.alloc (.cells #[.slice pA N0 cA, .slice pB N1 cB, .slice pC N2 cC, .slice (some ⟨GL, 0, none⟩) 1 1, .slice pD N4 cD, .slice pE N5 cE, .slice pF N6 cF] 22) := ⟨_, rfl⟩
         have hbY : Below v7.heap.size v7 Y := by rw [hY]; exact (Below.refl _ _).alloc (Nat.le_refl _) _
         have SY := hide ((uh S7).below hbY)
         have JJ := hide (joined7 v7 _ _ _ _ _ _ _ _ _ _ _ _ _ _ _ N EE eN (uh RA7) (uh RB7) (uh RC7) (uh RL7) (uh RD7) (uh RE7) (uh RF7) hN)
         rw [← hY] at JJ ⊢
         refine hK.out _ _ (by exact uh SY) (fun hS => ?_)
         clear hK KK hY hbY
         (try simp only [Act.put, xa, xb, xc])
         refine ry [23] ?_
         refine cn (fun KK hK => ?_) ?_
         ·refine step_call1 (by rfl) 54 _ _ (by rfl) (.slice (some ⟨v7.heap.size, 0, none⟩) 7 7) (by rfl) (fun _ => (uh HCF).1 _ _) (uh JJ) ?_
          rintro z9 Z ⟨pj, cj, rfl, oj, hbj⟩
          refine ⟨_, rfl, ?_⟩
          have FI := hide (And.intro (Own.mono (B' := w.heap.size) oj (uh BW7).size) (Below.step (uh BW7) hbj))
          refine hK.out _ _ (by exact (uh S7).below hbj) (fun hS => ?_)
          clear hK KK oj hbj
          (try simp only [Act.put, xa, xb, xc])
          refine tk 24 hS (h := ?_); simp only [Act.put, xa, xb, xc]
          refine wpAnyH_done (by kernel_rfl) ?_ _
          refine NoPanic.normal ?_
          clear hS
          go_wp2
          go_ret
          exact ⟨pj, cj, rfl, uh FI⟩
         exact AllReadyH.nil
        exact AllReadyH.nil
       exact AllReadyH.nil
      exact AllReadyH.nil
     exact AllReadyH.nil
    refine cn (fun KK hK => ?_) ?_
    ·refine step_call2 (by rfl) 101 _ _ _ (by rfl) (.slice r k f) (.func (.func 55) #[] #[]) (by rfl) (by rfl) (fun _ => (uh HCF).2.2.2 _ _) (listU_any r f k H eH _ (uh HP _ (uh BW3)).2.2 bk hu N4 e4 hN4) ?_
     rintro z9 v8 ⟨pD, cD, rfl, oD, hb8⟩
     refine ⟨_, rfl, ?_⟩
     have S8 := hide ((uh S3).below hb8)
     have BW8 := hide (Below.step (uh BW3) hb8)
     have RA8 := hide ((uh RA3).below hb8)
     have RB8 := hide ((uh RB3).below hb8)
     have RC8 := hide ((uh RC3).below hb8)
     have RD8 := hide oD.rd
     refine hK.out _ _ (by exact uh S8) (fun hS => ?_)
     clear hK KK oD hb8
     (try simp only [Act.put, xa, xb, xc])
     refine ry [12, 18] ?_
     refine cn (fun KK hK => ?_) ?_
     ·go_simp
      obtain ⟨v9, hv9⟩ : ∃ V, V = v8.alloc (.cells #[.int .u8 mo] 5) := ⟨_, rfl⟩
      have hb9 : Below v8.heap.size v8 v9 := by rw [hv9]; exact (Below.refl _ _).alloc (Nat.le_refl _) _
      have hp9 : v9.cell? ⟨v8.heap.size, 0, none⟩ = some (.int .u8 mo) := by rw [hv9]; simp
      rw [← hv9]
      have S9 := hide ((uh S8).below hb9)
      have BW9 := hide (Below.step (uh BW8) hb9)
      have RA9 := hide ((uh RA8).below hb9)
      have RB9 := hide ((uh RB8).below hb9)
      have RC9 := hide ((uh RC8).below hb9)
      have RD9 := hide ((uh RD8).below hb9)
      obtain ⟨GL, hGL⟩ : ∃ G, G = v8.heap.size := ⟨_, rfl⟩
      rw [← hGL] at hp9 ⊢
      have RL9 := hide (rdOne hp9)
      refine hK.out _ _ (by exact uh S9) (fun hS => ?_)
      clear hK KK hv9 hb9 hp9 hGL
      (try simp only [Act.put, xa, xb, xc])
      refine ry [18] ?_
      refine cn (fun KK hK => ?_) ?_
      ·refine step_call1 (by rfl) 55 _ _ (by rfl) (.int .u64 ep) (by rfl) (fun _ => (uh HCF).2.2.1 _ _) (varintN ep _ b2 N5 e5) ?_
       rintro z9 v10 ⟨pE, cE, rfl, oE, hb10⟩
       refine ⟨_, rfl, ?_⟩
       have S10 := hide ((uh S9).below hb10)
       have BW10 := hide (Below.step (uh BW9) hb10)
       have RA10 := hide ((uh RA9).below hb10)
       have RB10 := hide ((uh RB9).below hb10)
       have RC10 := hide ((uh RC9).below hb10)
       have RD10 := hide ((uh RD9).below hb10)
       have RL10 := hide ((uh RL9).below hb10)
       have RE10 := hide oE.rd
       refine hK.out _ _ (by exact uh S10) (fun hS => ?_)
       clear hK KK oE hb10
       (try simp only [Act.put, xa, xb, xc])
       refine ry [21] ?_
       refine cn (fun KK hK => ?_) ?_
       ·refine step_call1 (by rfl) 55 _ _ (by rfl) (.int .u64 ge) (by rfl) (fun _ => (uh HCF).2.2.1 _ _) (varintN ge _ b3 N6 e6) ?_
        rintro z9 v11 ⟨pF, cF, rfl, oF, hb11⟩
        refine ⟨_, rfl, ?_⟩
        have S11 := hide ((uh S10).below hb11)
        have BW11 := hide (Below.step (uh BW10) hb11)
        have RA11 := hide ((uh RA10).below hb11)
        have RB11 := hide ((uh RB10).below hb11)
        have RC11 := hide ((uh RC10).below hb11)
        have RD11 := hide ((uh RD10).below hb11)
        have RL11 := hide ((uh RL10).below hb11)
        have RE11 := hide ((uh RE10).below hb11)
        have RF11 := hide oF.rd
        refine hK.out _ _ (by exact uh S11) (fun hS => ?_)
        clear hK KK oF hb11
        (try simp only [Act.put, xa, xb, xc])
        refine ry [22] ?_
        refine cn (fun KK hK => ?_) ?_
        ·go_simp
         obtain ⟨Y, hY⟩ : ∃ Y, Y = v11.alloc (.cells #[.slice pA N0 cA, .slice pB N1 cB, .slice pC N2 cC, .slice (some ⟨GL, 0, none⟩) 1 1, .slice pD N4 cD, .slice pE N5 cE, .slice pF N6 cF] 22) := ⟨_, rfl⟩
         have hbY : Below v11.heap.size v11 Y := by rw [hY]; exact (Below.refl _ _).alloc (Nat.le_refl _) _
         have SY := hide ((uh S11).below hbY)
         have JJ := hide (joined7 v11 _ _ _ _ _ _ _ _ _ _ _ _ _ _ _ N EE eN (uh RA11) (uh RB11) (uh RC11) (uh RL11) (uh RD11) (uh RE11) (uh RF11) hN)
         rw [← hY] at JJ ⊢
         refine hK.out _ _ (by exact uh SY) (fun hS => ?_)
         clear hK KK hY hbY
         (try simp only [Act.put, xa, xb, xc])
         refine ry [23] ?_
         refine cn (fun KK hK => ?_) ?_
         ·refine step_call1 (by rfl) 54 _ _ (by rfl) (.slice (some ⟨v11.heap.size, 0, none⟩) 7 7) (by rfl) (fun _ => (uh HCF).1 _ _) (uh JJ) ?_
          rintro z9 Z ⟨pj, cj, rfl, oj, hbj⟩
          refine ⟨_, rfl, ?_⟩
          have FI := hide (And.intro (Own.mono (B' := w.heap.size) oj (uh BW11).size) (Below.step (uh BW11) hbj))
          refine hK.out _ _ (by exact (uh S11).below hbj) (fun hS => ?_)
          clear hK KK oj hbj
          (try simp only [Act.put, xa, xb, xc])
          refine tk 24 hS (h := ?_); simp only [Act.put, xa, xb, xc]
          refine wpAnyH_done (by kernel_rfl) ?_ _
          refine NoPanic.normal ?_
          clear hS
          go_wp2
          go_ret
          exact ⟨pj, cj, rfl, uh FI⟩
         exact AllReadyH.nil
        exact AllReadyH.nil
       exact AllReadyH.nil
      exact AllReadyH.nil
     refine cn (fun KK hK => ?_) ?_
     ·refine step_call1 (by rfl) 55 _ _ (by rfl) (.int .u64 ep) (by rfl) (fun _ => (uh HCF).2.2.1 _ _) (varintN ep _ b2 N5 e5) ?_
      rintro z9 v12 ⟨pE, cE, rfl, oE, hb12⟩
      refine ⟨_, rfl, ?_⟩
      have S12 := hide ((uh S8).below hb12)
      have BW12 := hide (Below.step (uh BW8) hb12)
      have RA12 := hide ((uh RA8).below hb12)
      have RB12 := hide ((uh RB8).below hb12)
      have RC12 := hide ((uh RC8).below hb12)
      have RD12 := hide ((uh RD8).below hb12)
      have RE12 := hide oE.rd
      refine hK.out _ _ (by exact uh S12) (fun hS => ?_)
      clear hK KK oE hb12
      (try simp only [Act.put, xa, xb, xc])
      refine ry [12, 21] ?_
      refine cn (fun KK hK => ?_) ?_
      ·go_simp
       obtain ⟨v13, hv13⟩ : ∃ V, V = v12.alloc (.cells #[.int .u8 mo] 5) := ⟨_, rfl⟩
       have hb13 : Below v12.heap.size v12 v13 := by rw [hv13]; exact (Below.refl _ _).alloc (Nat.le_refl _) _
       have hp13 : v13.cell? ⟨v12.heap.size, 0, none⟩ = some (.int .u8 mo) := by rw [hv13]; simp
       rw [← hv13]
       have S13 := hide ((uh S12).below hb13)
       have BW13 := hide (Below.step (uh BW12) hb13)
       have RA13 := hide ((uh RA12).below hb13)
       have RB13 := hide ((uh RB12).below hb13)
       have RC13 := hide ((uh RC12).below hb13)
       have RD13 := hide ((uh RD12).below hb13)
       have RE13 := hide ((uh RE12).below hb13)
       obtain ⟨GL, hGL⟩ : ∃ G, G = v12.heap.size := ⟨_, rfl⟩
       rw [← hGL] at hp13 ⊢
       have RL13 := hide (rdOne hp13)
       refine hK.out _ _ (by exact uh S13) (fun hS => ?_)
       clear hK KK hv13 hb13 hp13 hGL
       (try simp only [Act.put, xa, xb, xc])
       refine ry [21] ?_
       refine cn (fun KK hK => ?_) ?_
       ·refine step_call1 (by rfl) 55 _ _ (by rfl) (.int .u64 ge) (by rfl) (fun _ => (uh HCF).2.2.1 _ _) (varintN ge _ b3 N6 e6) ?_
        rintro z9 v14 ⟨pF, cF, rfl, oF, hb14⟩
        refine ⟨_, rfl, ?_⟩
        have S14 := hide ((uh S13).below hb14)
        have BW14 := hide (Below.step (uh BW13) hb14)
        have RA14 := hide ((uh RA13).below hb14)
        have RB14 := hide ((uh RB13).below hb14)
        have RC14 := hide ((uh RC13).below hb14)
        have RD14 := hide ((uh RD13).below hb14)
        have RE14 := hide ((uh RE13).below hb14)
        have RL14 := hide ((uh RL13).below hb14)
        have RF14 := hide oF.rd
        refine hK.out _ _ (by exact uh S14) (fun hS => ?_)
        clear hK KK oF hb14
        (try simp only [Act.put, xa, xb, xc])
        refine ry [22] ?_
        refine cn (fun KK hK => ?_) ?_
        ·go_simp
         obtain ⟨Y, hY⟩ : ∃ Y, Y = v14.alloc (.cells #[.slice pA N0 cA, .slice pB N1 cB, .slice pC N2 cC, .slice (some ⟨GL, 0, none⟩) 1 1, .slice pD N4 cD, .slice pE N5 cE, .slice pF N6 cF] 22) := ⟨_, rfl⟩
         have hbY : Below v14.heap.size v14 Y := by rw [hY]; exact (Below.refl _ _).alloc (Nat.le_refl _) _
         have SY := hide ((uh S14).below hbY)
         have JJ := hide (joined7 v14 _ _ _ _ _ _ _ _ _ _ _ _ _ _ _ N EE eN (uh RA14) (uh RB14) (uh RC14) (uh RL14) (uh RD14) (uh RE14) (uh RF14) hN)
         rw [← hY] at JJ ⊢
         refine hK.out _ _ (by exact uh SY) (fun hS => ?_)
         clear hK KK hY hbY
         (try simp only [Act.put, xa, xb, xc])
         refine ry [23] ?_
         refine cn (fun KK hK => ?_) ?_
         ·refine step_call1 (by rfl) 54 _ _ (by rfl) (.slice (some ⟨v14.heap.size, 0, none⟩) 7 7) (by rfl) (fun _ => (uh HCF).1 _ _) (uh JJ) ?_
          rintro z9 Z ⟨pj, cj, rfl, oj, hbj⟩
          refine ⟨_, rfl, ?_⟩
          have FI := hide (And.intro (Own.mono (B' := w.heap.size) oj (uh BW14).size) (Below.step (uh BW14) hbj))
          refine hK.out _ _ (by exact (uh S14).below hbj) (fun hS => ?_)
          clear hK KK oj hbj
          (try simp only [Act.put, xa, xb, xc])
          refine tk 24 hS (h := ?_); simp only [Act.put, xa, xb, xc]
          refine wpAnyH_done (by kernel_rfl) ?_ _
          refine NoPanic.normal ?_
          clear hS
          go_wp2
          go_ret
          exact ⟨pj, cj, rfl, uh FI⟩
         exact AllReadyH.nil
        exact AllReadyH.nil
       exact AllReadyH.nil
      refine cn (fun KK hK => ?_) ?_
      ·refine step_call1 (by rfl) 55 _ _ (by rfl) (.int .u64 ge) (by rfl) (fun _ => (uh HCF).2.2.1 _ _) (varintN ge _ b3 N6 e6) ?_
       rintro z9 v15 ⟨pF, cF, rfl, oF, hb15⟩
       refine ⟨_, rfl, ?_⟩
       have S15 := hide ((uh S12).below hb15)
       have BW15 := hide (Below.step (uh BW12) hb15)
       have RA15 := hide ((uh RA12).below hb15)
       have RB15 := hide ((uh RB12).below hb15)
       have RC15 := hide ((uh RC12).below hb15)
       have RD15 := hide ((uh RD12).below hb15)
       have RE15 := hide ((uh RE12).below hb15)
       have RF15 := hide oF.rd
       refine hK.out _ _ (by exact uh S15) (fun hS => ?_)
       clear hK KK oF hb15
       (try simp only [Act.put, xa, xb, xc])
       refine ry [12] ?_
       refine cn (fun KK hK => ?_) ?_
       ·go_simp
        obtain ⟨v16, hv16⟩ : ∃ V, V = v15.alloc (.cells #[.int .u8 mo] 5) := ⟨_, rfl⟩
        have hb16 : Below v15.heap.size v15 v16 := by rw [hv16]; exact (Below.refl _ _).alloc (Nat.le_refl _) _
        have hp16 : v16.cell? ⟨v15.heap.size, 0, none⟩ = some (.int .u8 mo) := by rw [hv16]; simp
        rw [← hv16]
        have S16 := hide ((uh S15).below hb16)
        have BW16 := hide (Below.step (uh BW15) hb16)
        have RA16 := hide ((uh RA15).below hb16)
        have RB16 := hide ((uh RB15).below hb16)
        have RC16 := hide ((uh RC15).below hb16)
        have RD16 := hide ((uh RD15).below hb16)
        have RE16 := hide ((uh RE15).below hb16)
        have RF16 := hide ((uh RF15).below hb16)
        obtain ⟨GL, hGL⟩ : ∃ G, G = v15.heap.size := ⟨_, rfl⟩
        rw [← hGL] at hp16 ⊢
        have RL16 := hide (rdOne hp16)
        refine hK.out _ _ (by exact uh S16) (fun hS => ?_)
        clear hK KK hv16 hb16 hp16 hGL
        (try simp only [Act.put, xa, xb, xc])
        refine ry [22] ?_
        refine cn (fun KK hK => ?_) ?_
        ·go_simp
         obtain ⟨Y, hY⟩ : ∃ Y, Y = v16.alloc (.cells #[.slice pA N0 cA, .slice pB N1 cB, .slice pC N2 cC, .slice (some ⟨GL, 0, none⟩) 1 1, .slice pD N4 cD, .slice pE N5 cE, .slice pF N6 cF] 22) := ⟨_, rfl⟩
         have hbY : Below v16.heap.size v16 Y := by rw [hY]; exact (Below.refl _ _).alloc (Nat.le_refl _) _
         have SY := hide ((uh S16).below hbY)
         have JJ := hide (joined7 v16 _ _ _ _ _ _ _ _ _ _ _ _ _ _ _ N EE eN (uh RA16) (uh RB16) (uh RC16) (uh RL16) (uh RD16) (uh RE16) (uh RF16) hN)
         rw [← hY] at JJ ⊢
         refine hK.out _ _ (by exact uh SY) (fun hS => ?_)
         clear hK KK hY hbY
         (try simp only [Act.put, xa, xb, xc])
         refine ry [23] ?_
         refine cn (fun KK hK => ?_) ?_
         ·refine step_call1 (by rfl) 54 _ _ (by rfl) (.slice (some ⟨v16.heap.size, 0, none⟩) 7 7) (by rfl) (fun _ => (uh HCF).1 _ _) (uh JJ) ?_
          rintro z9 Z ⟨pj, cj, rfl, oj, hbj⟩
          refine ⟨_, rfl, ?_⟩
          have FI := hide (And.intro (Own.mono (B' := w.heap.size) oj (uh BW16).size) (Below.step (uh BW16) hbj))
          refine hK.out _ _ (by exact (uh S16).below hbj) (fun hS => ?_)
          clear hK KK oj hbj
          (try simp only [Act.put, xa, xb, xc])
          refine tk 24 hS (h := ?_); simp only [Act.put, xa, xb, xc]
          refine wpAnyH_done (by kernel_rfl) ?_ _
          refine NoPanic.normal ?_
          clear hS
          go_wp2
          go_ret
          exact ⟨pj, cj, rfl, uh FI⟩
         exact AllReadyH.nil
        exact AllReadyH.nil
       exact AllReadyH.nil
      exact AllReadyH.nil
     exact AllReadyH.nil
    exact AllReadyH.nil
   refine cn (fun KK hK => ?_) ?_
   ·go_simp
    obtain ⟨v17, hv17⟩ : ∃ V, V = v2.alloc (.cells #[.int .u8 mo] 5) := ⟨_, rfl⟩
    have hb17 : Below v2.heap.size v2 v17 := by rw [hv17]; exact (Below.refl _ _).alloc (Nat.le_refl _) _
    have hp17 : v17.cell? ⟨v2.heap.size, 0, none⟩ = some (.int .u8 mo) := by rw [hv17]; simp
    rw [← hv17]
    have S17 := hide ((uh S2).below hb17)
    have BW17 := hide (Below.step (uh BW2) hb17)
    have RA17 := hide ((uh RA2).below hb17)
    have RB17 := hide ((uh RB2).below hb17)
    obtain ⟨GL, hGL⟩ : ∃ G, G = v2.heap.size := ⟨_, rfl⟩
    rw [← hGL] at hp17 ⊢
    have RL17 := hide (rdOne hp17)
    refine hK.out _ _ (by exact uh S17) (fun hS => ?_)
    clear hK KK hv17 hb17 hp17 hGL
    (try simp only [Act.put, xa, xb, xc])
    refine ry [8] ?_
    refine cn (fun KK hK => ?_) ?_
    ·refine step_call1 (by rfl) 55 _ _ (by rfl) (.int .u64 ow) (by rfl) (fun _ => (uh HCF).2.2.1 _ _) (varintN ow _ b1 N2 e2) ?_
     rintro z9 v18 ⟨pC, cC, rfl, oC, hb18⟩
     refine ⟨_, rfl, ?_⟩
     have S18 := hide ((uh S17).below hb18)
     have BW18 := hide (Below.step (uh BW17) hb18)
     have RA18 := hide ((uh RA17).below hb18)
     have RB18 := hide ((uh RB17).below hb18)
     have RL18 := hide ((uh RL17).below hb18)
     have RC18 := hide oC.rd
     refine hK.out _ _ (by exact uh S18) (fun hS => ?_)
     clear hK KK oC hb18
     (try simp only [Act.put, xa, xb, xc])
     refine ry [15] ?_
     refine cn (fun KK hK => ?_) ?_
     ·refine step_call2 (by rfl) 101 _ _ _ (by rfl) (.slice r k f) (.func (.func 55) #[] #[]) (by rfl) (by rfl) (fun _ => (uh HCF).2.2.2 _ _) (listU_any r f k H eH _ (uh HP _ (uh BW18)).2.2 bk hu N4 e4 hN4) ?_
      rintro z9 v19 ⟨pD, cD, rfl, oD, hb19⟩
      refine ⟨_, rfl, ?_⟩
      have S19 := hide ((uh S18).below hb19)
      have BW19 := hide (Below.step (uh BW18) hb19)
      have RA19 := hide ((uh RA18).below hb19)
      have RB19 := hide ((uh RB18).below hb19)
      have RL19 := hide ((uh RL18).below hb19)
      have RC19 := hide ((uh RC18).below hb19)
      have RD19 := hide oD.rd
      refine hK.out _ _ (by exact uh S19) (fun hS => ?_)
      clear hK KK oD hb19
      (try simp only [Act.put, xa, xb, xc])
      refine ry [18] ?_
      refine cn (fun KK hK => ?_) ?_
      ·refine step_call1 (by rfl) 55 _ _ (by rfl) (.int .u64 ep) (by rfl) (fun _ => (uh HCF).2.2.1 _ _) (varintN ep _ b2 N5 e5) ?_
       rintro z9 v20 ⟨pE, cE, rfl, oE, hb20⟩
       refine ⟨_, rfl, ?_⟩
       have S20 := hide ((uh S19).below hb20)
       have BW20 := hide (Below.step (uh BW19) hb20)
       have RA20 := hide ((uh RA19).below hb20)
       have RB20 := hide ((uh RB19).below hb20)
       have RL20 := hide ((uh RL19).below hb20)
       have RC20 := hide ((uh RC19).below hb20)
       have RD20 := hide ((uh RD19).below hb20)
       have RE20 := hide oE.rd
       refine hK.out _ _ (by exact uh S20) (fun hS => ?_)
       clear hK KK oE hb20
       (try simp only [Act.put, xa, xb, xc])
       refine ry [21] ?_
       refine cn (fun KK hK => ?_) ?_
       ·refine step_call1 (by rfl) 55 _ _ (by rfl) (.int .u64 ge) (by rfl) (fun _ => (uh HCF).2.2.1 _ _) (varintN ge _ b3 N6 e6) ?_
        rintro z9 v21 ⟨pF, cF, rfl, oF, hb21⟩
        refine ⟨_, rfl, ?_⟩
        have S21 := hide ((uh S20).below hb21)
        have BW21 := hide (Below.step (uh BW20) hb21)
        have RA21 := hide ((uh RA20).below hb21)
        have RB21 := hide ((uh RB20).below hb21)
        have RL21 := hide ((uh RL20).below hb21)
        have RC21 := hide ((uh RC20).below hb21)
        have RD21 := hide ((uh RD20).below hb21)
        have RE21 := hide ((uh RE20).below hb21)
        have RF21 := hide oF.rd
        refine hK.out _ _ (by exact uh S21) (fun hS => ?_)
        clear hK KK oF hb21
        (try simp only [Act.put, xa, xb, xc])
        refine ry [22] ?_
        refine cn (fun KK hK => ?_) ?_
        ·go_simp
         obtain ⟨Y, hY⟩ : ∃ Y, Y = v21.alloc (.cells #[.slice pA N0 cA, .slice pB N1 cB, .slice pC N2 cC, .slice (some ⟨GL, 0, none⟩) 1 1, .slice pD N4 cD, .slice pE N5 cE, .slice pF N6 cF] 22) := ⟨_, rfl⟩
         have hbY : Below v21.heap.size v21 Y := by rw [hY]; exact (Below.refl _ _).alloc (Nat.le_refl _) _
         have SY := hide ((uh S21).below hbY)
         have JJ := hide (joined7 v21 _ _ _ _ _ _ _ _ _ _ _ _ _ _ _ N EE eN (uh RA21) (uh RB21) (uh RC21) (uh RL21) (uh RD21) (uh RE21) (uh RF21) hN)
         rw [← hY] at JJ ⊢
         refine hK.out _ _ (by exact uh SY) (fun hS => ?_)
         clear hK KK hY hbY
         (try simp only [Act.put, xa, xb, xc])
         refine ry [23] ?_
         refine cn (fun KK hK => ?_) ?_
         ·refine step_call1 (by rfl) 54 _ _ (by rfl) (.slice (some ⟨v21.heap.size, 0, none⟩) 7 7) (by rfl) (fun _ => (uh HCF).1 _ _) (uh JJ) ?_
          rintro z9 Z ⟨pj, cj, rfl, oj, hbj⟩
          refine ⟨_, rfl, ?_⟩
          have FI := hide (And.intro (Own.mono (B' := w.heap.size) oj (uh BW21).size) (Below.step (uh BW21) hbj))
          refine hK.out _ _ (by exact (uh S21).below hbj) (fun hS => ?_)
          clear hK KK oj hbj
          (try simp only [Act.put, xa, xb, xc])
          refine tk 24 hS (h := ?_); simp only [Act.put, xa, xb, xc]
          refine wpAnyH_done (by kernel_rfl) ?_ _
          refine NoPanic.normal ?_
          clear hS
          go_wp2
          go_ret
          exact ⟨pj, cj, rfl, uh FI⟩
         exact AllReadyH.nil
        exact AllReadyH.nil
       exact AllReadyH.nil
      exact AllReadyH.nil
     exact AllReadyH.nil
    exact AllReadyH.nil
   exact AllReadyH.nil
  refine cn (fun KK hK => ?_) ?_
  ·go_simp
   obtain ⟨v22, hv22⟩ : ∃ V, V = v1.alloc (.cells #[.int .u8 mo] 5) := ⟨_, rfl⟩
   have hb22 : Below v1.heap.size v1 v22 := by rw [hv22]; exact (Below.refl _ _).alloc (Nat.le_refl _) _
   have hp22 : v22.cell? ⟨v1.heap.size, 0, none⟩ = some (.int .u8 mo) := by rw [hv22]; simp
   rw [← hv22]
   have S22 := hide ((uh S1).below hb22)
   have BW22 := hide (Below.step (uh BW1) hb22)
   have RA22 := hide ((uh RA1).below hb22)
   obtain ⟨GL, hGL⟩ : ∃ G, G = v1.heap.size := ⟨_, rfl⟩
   rw [← hGL] at hp22 ⊢
   have RL22 := hide (rdOne hp22)
   refine hK.out _ _ (by exact uh S22) (fun hS => ?_)
   clear hK KK hv22 hb22 hp22 hGL
   (try simp only [Act.put, xa, xb, xc])
   refine ry [5] ?_
   refine cn (fun KK hK => ?_) ?_
   ·refine step_call1 (by rfl) 69 _ _ (by rfl) (.slice q m d) (by rfl) (fun _ => (uh HCF).2.1 _ _) (textBytes_any q d m V eV _ (uh HP _ (uh BW22)).2.1 bm N1 e1) ?_
    rintro z9 v23 ⟨pB, cB, rfl, oB, hb23⟩
    refine ⟨_, rfl, ?_⟩
    have S23 := hide ((uh S22).below hb23)
    have BW23 := hide (Below.step (uh BW22) hb23)
    have RA23 := hide ((uh RA22).below hb23)
    have RL23 := hide ((uh RL22).below hb23)
    have RB23 := hide oB.rd
    refine hK.out _ _ (by exact uh S23) (fun hS => ?_)
    clear hK KK oB hb23
    (try simp only [Act.put, xa, xb, xc])
    refine ry [8] ?_
    refine cn (fun KK hK => ?_) ?_
    ·refine step_call1 (by rfl) 55 _ _ (by rfl) (.int .u64 ow) (by rfl) (fun _ => (uh HCF).2.2.1 _ _) (varintN ow _ b1 N2 e2) ?_
     rintro z9 v24 ⟨pC, cC, rfl, oC, hb24⟩
     refine ⟨_, rfl, ?_⟩
     have S24 := hide ((uh S23).below hb24)
     have BW24 := hide (Below.step (uh BW23) hb24)
     have RA24 := hide ((uh RA23).below hb24)
     have RL24 := hide ((uh RL23).below hb24)
     have RB24 := hide ((uh RB23).below hb24)
     have RC24 := hide oC.rd
     refine hK.out _ _ (by exact uh S24) (fun hS => ?_)
     clear hK KK oC hb24
     (try simp only [Act.put, xa, xb, xc])
     refine ry [15] ?_
     refine cn (fun KK hK => ?_) ?_
     ·refine step_call2 (by rfl) 101 _ _ _ (by rfl) (.slice r k f) (.func (.func 55) #[] #[]) (by rfl) (by rfl) (fun _ => (uh HCF).2.2.2 _ _) (listU_any r f k H eH _ (uh HP _ (uh BW24)).2.2 bk hu N4 e4 hN4) ?_
      rintro z9 v25 ⟨pD, cD, rfl, oD, hb25⟩
      refine ⟨_, rfl, ?_⟩
      have S25 := hide ((uh S24).below hb25)
      have BW25 := hide (Below.step (uh BW24) hb25)
      have RA25 := hide ((uh RA24).below hb25)
      have RL25 := hide ((uh RL24).below hb25)
      have RB25 := hide ((uh RB24).below hb25)
      have RC25 := hide ((uh RC24).below hb25)
      have RD25 := hide oD.rd
      refine hK.out _ _ (by exact uh S25) (fun hS => ?_)
      clear hK KK oD hb25
      (try simp only [Act.put, xa, xb, xc])
      refine ry [18] ?_
      refine cn (fun KK hK => ?_) ?_
      ·refine step_call1 (by rfl) 55 _ _ (by rfl) (.int .u64 ep) (by rfl) (fun _ => (uh HCF).2.2.1 _ _) (varintN ep _ b2 N5 e5) ?_
       rintro z9 v26 ⟨pE, cE, rfl, oE, hb26⟩
       refine ⟨_, rfl, ?_⟩
       have S26 := hide ((uh S25).below hb26)
       have BW26 := hide (Below.step (uh BW25) hb26)
       have RA26 := hide ((uh RA25).below hb26)
       have RL26 := hide ((uh RL25).below hb26)
       have RB26 := hide ((uh RB25).below hb26)
       have RC26 := hide ((uh RC25).below hb26)
       have RD26 := hide ((uh RD25).below hb26)
       have RE26 := hide oE.rd
       refine hK.out _ _ (by exact uh S26) (fun hS => ?_)
       clear hK KK oE hb26
       (try simp only [Act.put, xa, xb, xc])
       refine ry [21] ?_
       refine cn (fun KK hK => ?_) ?_
       ·refine step_call1 (by rfl) 55 _ _ (by rfl) (.int .u64 ge) (by rfl) (fun _ => (uh HCF).2.2.1 _ _) (varintN ge _ b3 N6 e6) ?_
        rintro z9 v27 ⟨pF, cF, rfl, oF, hb27⟩
        refine ⟨_, rfl, ?_⟩
        have S27 := hide ((uh S26).below hb27)
        have BW27 := hide (Below.step (uh BW26) hb27)
        have RA27 := hide ((uh RA26).below hb27)
        have RL27 := hide ((uh RL26).below hb27)
        have RB27 := hide ((uh RB26).below hb27)
        have RC27 := hide ((uh RC26).below hb27)
        have RD27 := hide ((uh RD26).below hb27)
        have RE27 := hide ((uh RE26).below hb27)
        have RF27 := hide oF.rd
        refine hK.out _ _ (by exact uh S27) (fun hS => ?_)
        clear hK KK oF hb27
        (try simp only [Act.put, xa, xb, xc])
        refine ry [22] ?_
        refine cn (fun KK hK => ?_) ?_
        ·go_simp
         obtain ⟨Y, hY⟩ : ∃ Y, Y = v27.alloc (.cells #[.slice pA N0 cA, .slice pB N1 cB, .slice pC N2 cC, .slice (some ⟨GL, 0, none⟩) 1 1, .slice pD N4 cD, .slice pE N5 cE, .slice pF N6 cF] 22) := ⟨_, rfl⟩
         have hbY : Below v27.heap.size v27 Y := by rw [hY]; exact (Below.refl _ _).alloc (Nat.le_refl _) _
         have SY := hide ((uh S27).below hbY)
         have JJ := hide (joined7 v27 _ _ _ _ _ _ _ _ _ _ _ _ _ _ _ N EE eN (uh RA27) (uh RB27) (uh RC27) (uh RL27) (uh RD27) (uh RE27) (uh RF27) hN)
         rw [← hY] at JJ ⊢
         refine hK.out _ _ (by exact uh SY) (fun hS => ?_)
         clear hK KK hY hbY
         (try simp only [Act.put, xa, xb, xc])
         refine ry [23] ?_
         refine cn (fun KK hK => ?_) ?_
         ·refine step_call1 (by rfl) 54 _ _ (by rfl) (.slice (some ⟨v27.heap.size, 0, none⟩) 7 7) (by rfl) (fun _ => (uh HCF).1 _ _) (uh JJ) ?_
          rintro z9 Z ⟨pj, cj, rfl, oj, hbj⟩
          refine ⟨_, rfl, ?_⟩
          have FI := hide (And.intro (Own.mono (B' := w.heap.size) oj (uh BW27).size) (Below.step (uh BW27) hbj))
          refine hK.out _ _ (by exact (uh S27).below hbj) (fun hS => ?_)
          clear hK KK oj hbj
          (try simp only [Act.put, xa, xb, xc])
          refine tk 24 hS (h := ?_); simp only [Act.put, xa, xb, xc]
          refine wpAnyH_done (by kernel_rfl) ?_ _
          refine NoPanic.normal ?_
          clear hS
          go_wp2
          go_ret
          exact ⟨pj, cj, rfl, uh FI⟩
         exact AllReadyH.nil
        exact AllReadyH.nil
       exact AllReadyH.nil
      exact AllReadyH.nil
     exact AllReadyH.nil
    exact AllReadyH.nil
   exact AllReadyH.nil
  exact AllReadyH.nil
 refine cn (fun KK hK => ?_) ?_
 ·go_simp
  obtain ⟨v28, hv28⟩ : ∃ V, V = v0.alloc (.cells #[.int .u8 mo] 5) := ⟨_, rfl⟩
  have hb28 : Below v0.heap.size v0 v28 := by rw [hv28]; exact (Below.refl _ _).alloc (Nat.le_refl _) _
  have hp28 : v28.cell? ⟨v0.heap.size, 0, none⟩ = some (.int .u8 mo) := by rw [hv28]; simp
  rw [← hv28]
  have S28 := hide ((uh S0).below hb28)
  have BW28 := hide (Below.step (uh BW0) hb28)
  obtain ⟨GL, hGL⟩ : ∃ G, G = v0.heap.size := ⟨_, rfl⟩
  rw [← hGL] at hp28 ⊢
  have RL28 := hide (rdOne hp28)
  refine hK.out _ _ (by exact uh S28) (fun hS => ?_)
  clear hK KK hv28 hb28 hp28 hGL
  (try simp only [Act.put, xa, xb, xc])
  refine ry [2] ?_
  refine cn (fun KK hK => ?_) ?_
  ·refine step_call1 (by rfl) 69 _ _ (by rfl) (.slice p n c) (by rfl) (fun _ => (uh HCF).2.1 _ _) (textBytes_any p c n P eP _ (uh HP _ (uh BW28)).1 bn N0 e0) ?_
   rintro z9 v29 ⟨pA, cA, rfl, oA, hb29⟩
   refine ⟨_, rfl, ?_⟩
   have S29 := hide ((uh S28).below hb29)
   have BW29 := hide (Below.step (uh BW28) hb29)
   have RL29 := hide ((uh RL28).below hb29)
   have RA29 := hide oA.rd
   refine hK.out _ _ (by exact uh S29) (fun hS => ?_)
   clear hK KK oA hb29
   (try simp only [Act.put, xa, xb, xc])
   refine ry [5] ?_
   refine cn (fun KK hK => ?_) ?_
   ·refine step_call1 (by rfl) 69 _ _ (by rfl) (.slice q m d) (by rfl) (fun _ => (uh HCF).2.1 _ _) (textBytes_any q d m V eV _ (uh HP _ (uh BW29)).2.1 bm N1 e1) ?_
    rintro z9 v30 ⟨pB, cB, rfl, oB, hb30⟩
    refine ⟨_, rfl, ?_⟩
    have S30 := hide ((uh S29).below hb30)
    have BW30 := hide (Below.step (uh BW29) hb30)
    have RL30 := hide ((uh RL29).below hb30)
    have RA30 := hide ((uh RA29).below hb30)
    have RB30 := hide oB.rd
    refine hK.out _ _ (by exact uh S30) (fun hS => ?_)
    clear hK KK oB hb30
    (try simp only [Act.put, xa, xb, xc])
    refine ry [8] ?_
    refine cn (fun KK hK => ?_) ?_
    ·refine step_call1 (by rfl) 55 _ _ (by rfl) (.int .u64 ow) (by rfl) (fun _ => (uh HCF).2.2.1 _ _) (varintN ow _ b1 N2 e2) ?_
     rintro z9 v31 ⟨pC, cC, rfl, oC, hb31⟩
     refine ⟨_, rfl, ?_⟩
     have S31 := hide ((uh S30).below hb31)
     have BW31 := hide (Below.step (uh BW30) hb31)
     have RL31 := hide ((uh RL30).below hb31)
     have RA31 := hide ((uh RA30).below hb31)
     have RB31 := hide ((uh RB30).below hb31)
     have RC31 := hide oC.rd
     refine hK.out _ _ (by exact uh S31) (fun hS => ?_)
     clear hK KK oC hb31
     (try simp only [Act.put, xa, xb, xc])
     refine ry [15] ?_
     refine cn (fun KK hK => ?_) ?_
     ·refine step_call2 (by rfl) 101 _ _ _ (by rfl) (.slice r k f) (.func (.func 55) #[] #[]) (by rfl) (by rfl) (fun _ => (uh HCF).2.2.2 _ _) (listU_any r f k H eH _ (uh HP _ (uh BW31)).2.2 bk hu N4 e4 hN4) ?_
      rintro z9 v32 ⟨pD, cD, rfl, oD, hb32⟩
      refine ⟨_, rfl, ?_⟩
      have S32 := hide ((uh S31).below hb32)
      have BW32 := hide (Below.step (uh BW31) hb32)
      have RL32 := hide ((uh RL31).below hb32)
      have RA32 := hide ((uh RA31).below hb32)
      have RB32 := hide ((uh RB31).below hb32)
      have RC32 := hide ((uh RC31).below hb32)
      have RD32 := hide oD.rd
      refine hK.out _ _ (by exact uh S32) (fun hS => ?_)
      clear hK KK oD hb32
      (try simp only [Act.put, xa, xb, xc])
      refine ry [18] ?_
      refine cn (fun KK hK => ?_) ?_
      ·refine step_call1 (by rfl) 55 _ _ (by rfl) (.int .u64 ep) (by rfl) (fun _ => (uh HCF).2.2.1 _ _) (varintN ep _ b2 N5 e5) ?_
       rintro z9 v33 ⟨pE, cE, rfl, oE, hb33⟩
       refine ⟨_, rfl, ?_⟩
       have S33 := hide ((uh S32).below hb33)
       have BW33 := hide (Below.step (uh BW32) hb33)
       have RL33 := hide ((uh RL32).below hb33)
       have RA33 := hide ((uh RA32).below hb33)
       have RB33 := hide ((uh RB32).below hb33)
       have RC33 := hide ((uh RC32).below hb33)
       have RD33 := hide ((uh RD32).below hb33)
       have RE33 := hide oE.rd
       refine hK.out _ _ (by exact uh S33) (fun hS => ?_)
       clear hK KK oE hb33
       (try simp only [Act.put, xa, xb, xc])
       refine ry [21] ?_
       refine cn (fun KK hK => ?_) ?_
       ·refine step_call1 (by rfl) 55 _ _ (by rfl) (.int .u64 ge) (by rfl) (fun _ => (uh HCF).2.2.1 _ _) (varintN ge _ b3 N6 e6) ?_
        rintro z9 v34 ⟨pF, cF, rfl, oF, hb34⟩
        refine ⟨_, rfl, ?_⟩
        have S34 := hide ((uh S33).below hb34)
        have BW34 := hide (Below.step (uh BW33) hb34)
        have RL34 := hide ((uh RL33).below hb34)
        have RA34 := hide ((uh RA33).below hb34)
        have RB34 := hide ((uh RB33).below hb34)
        have RC34 := hide ((uh RC33).below hb34)
        have RD34 := hide ((uh RD33).below hb34)
        have RE34 := hide ((uh RE33).below hb34)
        have RF34 := hide oF.rd
        refine hK.out _ _ (by exact uh S34) (fun hS => ?_)
        clear hK KK oF hb34
        (try simp only [Act.put, xa, xb, xc])
        refine ry [22] ?_
        refine cn (fun KK hK => ?_) ?_
        ·go_simp
         obtain ⟨Y, hY⟩ : ∃ Y, Y = v34.alloc (.cells #[.slice pA N0 cA, .slice pB N1 cB, .slice pC N2 cC, .slice (some ⟨GL, 0, none⟩) 1 1, .slice pD N4 cD, .slice pE N5 cE, .slice pF N6 cF] 22) := ⟨_, rfl⟩
         have hbY : Below v34.heap.size v34 Y := by rw [hY]; exact (Below.refl _ _).alloc (Nat.le_refl _) _
         have SY := hide ((uh S34).below hbY)
         have JJ := hide (joined7 v34 _ _ _ _ _ _ _ _ _ _ _ _ _ _ _ N EE eN (uh RA34) (uh RB34) (uh RC34) (uh RL34) (uh RD34) (uh RE34) (uh RF34) hN)
         rw [← hY] at JJ ⊢
         refine hK.out _ _ (by exact uh SY) (fun hS => ?_)
         clear hK KK hY hbY
         (try simp only [Act.put, xa, xb, xc])
         refine ry [23] ?_
         refine cn (fun KK hK => ?_) ?_
         ·refine step_call1 (by rfl) 54 _ _ (by rfl) (.slice (some ⟨v34.heap.size, 0, none⟩) 7 7) (by rfl) (fun _ => (uh HCF).1 _ _) (uh JJ) ?_
          rintro z9 Z ⟨pj, cj, rfl, oj, hbj⟩
          refine ⟨_, rfl, ?_⟩
          have FI := hide (And.intro (Own.mono (B' := w.heap.size) oj (uh BW34).size) (Below.step (uh BW34) hbj))
          refine hK.out _ _ (by exact (uh S34).below hbj) (fun hS => ?_)
          clear hK KK oj hbj
          (try simp only [Act.put, xa, xb, xc])
          refine tk 24 hS (h := ?_); simp only [Act.put, xa, xb, xc]
          refine wpAnyH_done (by kernel_rfl) ?_ _
          refine NoPanic.normal ?_
          clear hS
          go_wp2
          go_ret
          exact ⟨pj, cj, rfl, uh FI⟩
         exact AllReadyH.nil
        exact AllReadyH.nil
       exact AllReadyH.nil
      exact AllReadyH.nil
     exact AllReadyH.nil
    exact AllReadyH.nil
   exact AllReadyH.nil
  exact AllReadyH.nil
 exact AllReadyH.nil
end Go.Proofs.YtnbgnhhnpmmloaaGreatDoor

