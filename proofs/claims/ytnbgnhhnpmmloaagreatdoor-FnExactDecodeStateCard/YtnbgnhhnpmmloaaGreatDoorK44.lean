import Derived.Test.YtnbgnhhnpmmloaaGreatDoorK43
namespace Go.Proofs.YtnbgnhhnpmmloaaGreatDoor
open Go.ChangeShapes Go.WideShapes Go.ChangeAt Go.RowKit
set_option linter.unusedVariables false
set_option linter.unusedSimpArgs false
set_option maxRecDepth 100000
theorem joinedF (X : World) (v0 v1 v2 v3 v4 : Value) (l0 l1 l2 l3 l4 lm : List Int) (N : Nat) (e : Hid (lm = cat [l0, l1, l2, l3, l4])) (en : Hid (lm.length = N)) (r0 : Rd X v0 l0) (r1 : Rd X v1 l1) (r2 : Rd X v2 l2) (r3 : Rd X v3 l3) (r4 : Rd X v4 l4) (hl : N ≤ 4194304) :
  Calls Tryz.prog 54 #[.slice (some ⟨X.heap.size, 0, none⟩) 5 5] (X.alloc (.cells #[v0, v1, v2, v3, v4] 22)) fun e w' => ∃ p' c', e = .returned (.slice p' N c') ∧ Own X.heap.size w' (.slice p' N c') lm ∧ Below X.heap.size X w' := by
 have ba : Below X.heap.size X (X.alloc (.cells #[v0, v1, v2, v3, v4] 22)) := (Below.refl _ _).alloc (Nat.le_refl _) _
 refine (joined_any X.heap.size [v0, v1, v2, v3, v4] [l0, l1, l2, l3, l4] lm N 5 rfl e en _ (parts5 (by simp) (by simp) (by simp) (by simp) (by simp) (r0.below ba) (r1.below ba) (r2.below ba) (r3.below ba) (r4.below ba)) hl (by omega)).mono ?_
 rintro e w' ⟨p', c', rfl, o, hb⟩
 exact ⟨p', c', rfl, Own.mono o (by simp), Below.step ba hb⟩
set_option maxHeartbeats 6400000 in
theorem implEnc (e g x : Nat) (t : Int) (he : e < 18446744073709551616) (hg : g < 18446744073709551616) (hx : x < 18446744073709551616) (p q : Option Addr) (c n d m : Nat) (ss : List Ses) (ns : List Nod) (en : Hid (ss.length = n)) (em : Hid (ns.length = m)) (w : World) (h : RdSc w (.slice p n c) ss) (hN : RdN w (.slice q m d) ns) (hn : n ≤ 1048576) (hm : m ≤ 1048576)
  (hbs : Hid (∀ s ∈ ss, s.2.2.length ≤ 1048576 ∧ ∀ e ∈ s.2.2, Byt e.2 ∧ e.2.length ≤ 1048576)) (hby : Hid (∀ nd ∈ ns, Byt nd.path ∧ nd.path.length ≤ 1048576 ∧ nd.value.length ≤ 1048576 ∧ nd.holders.length ≤ 1048576 ∧ nd.watchers.length ≤ 1048576))
  (hnu : Hid (∀ nd ∈ ns, (∀ i ∈ nd.holders, 0 ≤ i ∧ i < 18446744073709551616) ∧ ∀ i ∈ nd.watchers, 0 ≤ i ∧ i < 18446744073709551616))
  (hou : Hid (∀ nd ∈ ns, 0 ≤ nd.owner ∧ nd.owner < 18446744073709551616)) (hep : Hid (∀ nd ∈ ns, (0 ≤ nd.epoch ∧ nd.epoch < 18446744073709551616) ∧ 0 ≤ nd.gen ∧ nd.gen < 18446744073709551616)) (hML : ML w) (R : List Int) (eR : Hid (encR e g x t ss ns = R)) (L : Nat) (eL : Hid (R.length = L)) :
  Calls Tryz.prog 17 #[stV e g x t (.slice p n c) (.slice q m d)] w fun r w' => ∃ p' c', r = .returned (.slice p' L c') ∧ Own w.heap.size w' (.slice p' L c') R ∧ Below w.heap.size w w' := by
 have HR := hide fun (w' : World) (hb : Below w.heap.size w w') => And.intro (h.below hb) (And.intro (hN.below hb) (hML.below hb))
 clear h hN hML
 obtain ⟨B, eB⟩ : ∃ B, Hid (stOK e g x t ss ns = B) := ⟨_, (by show _ = _; rfl)⟩
 obtain ⟨W, hW⟩ : ∃ W, W = (w.alloc (.cells #[.int .u64 e, .int .u64 g, .int .u64 x, .int .i64 t, .slice p n c, .slice q m d] 27)) := ⟨_, rfl⟩
 have bW : Below w.heap.size w W := by rw [hW]; exact (Below.refl _ _).alloc (Nat.le_refl _) _
 have hc6 : St6 W w.heap.size e g x t (.slice p n c) (.slice q m d) := by rw [hW]; simp [St6]
 have HC6 := hide hc6
 go_enter Tryz.func17, Tryz.ntmps17
 go_wp2_with fail
 rw [← hW]
 clear hW hc6
 refine (implVS e g x t p q c n d m ss ns en em _ (uh HR _ bW).1 (uh HR _ bW).2.1 hn hm hbs hby hnu hou (uh HR _ bW).2.2 B eB).mono ?_
 rintro z9 w1 ⟨rfl, hb1⟩
 have b1 := Below.step bW hb1
 have C1 := hide ((uh HC6).below hb1)
 clear hb1 bW HC6
 cases B with
 | false =>
  have e1 := uh eR
  have e2 := uh eL
  rw [encR, if_neg (by rw [uh eB]; simp)] at e1
  subst e1
  have e3 : L = 0 := e2.symm
  subst e3
  clear e2
  go_wp2
  go_ret
  exact ⟨none, 0, rfl, Own.nil _ _, b1⟩
 | true =>
  obtain ⟨i0, i1, i2, i3, i4, i5⟩ := uh C1
  have hF := fine_of (uh eB) (uh hbs) (uh hby)
  have HF := hide hF
  have hS := sml_of (uh eB) (uh hnu) (uh hou) (uh hep)
  have hRR : R = stB e g x (ss.map sesF) (ns.map nodF) := by
   have := uh eR
   rw [encR, if_pos (uh eB)] at this
   rw [← this, stB_dur]
   simp
  have hS2 := hS.dur
  have lens := stB_len (e := e) (g := g) (x := x) hS2
  have hn5 : n ≤ 50 := by have := hS.n1; rw [uh en] at this; exact this
  have hm5 : m ≤ 200 := by have := hS.n2; rw [uh em] at this; exact this
  obtain ⟨sl, esl⟩ : ∃ sl, sl = ss.map sesF := ⟨_, rfl⟩
  obtain ⟨nl, enl⟩ : ∃ nl, nl = ns.map nodF := ⟨_, rfl⟩
  have en2 : Hid (sl.length = n) := by show _ = _; rw [esl, List.length_map]; exact uh en
  have em2 : Hid (nl.length = m) := by show _ = _; rw [enl, List.length_map]; exact uh em
  rw [← esl, ← enl] at hS2 hRR lens
  have EE : Hid (R = cat [vi e, vi g, vi x, liB seB sl, liB noB nl]) := hRR
  have hL : L ≤ 4194304 := by have h1 := lens.1; rw [← hRR, uh eL] at h1; omega
  obtain ⟨N0, e0⟩ : ∃ M, Hid ((vi e).length = M) := ⟨_, (by show _ = _; rfl)⟩
  obtain ⟨N1, e1⟩ : ∃ M, Hid ((vi g).length = M) := ⟨_, (by show _ = _; rfl)⟩
  obtain ⟨N2, e2⟩ : ∃ M, Hid ((vi x).length = M) := ⟨_, (by show _ = _; rfl)⟩
  obtain ⟨N3, e3⟩ : ∃ M, Hid ((liB seB sl).length = M) := ⟨_, (by show _ = _; rfl)⟩
  obtain ⟨N4, e4⟩ : ∃ M, Hid ((liB noB nl).length = M) := ⟨_, (by show _ = _; rfl)⟩
  have hN3 : N3 ≤ 4194304 := by have h1 := lens.2.1; rw [uh e3] at h1; omega
  have hN4 : N4 ≤ 4194304 := by have h1 := lens.2.2; rw [uh e4] at h1; omega
  have HS1 := hide hS2
  have HS2 : Hid (∀ s ∈ sl, 0 ≤ s.1 ∧ s.1 < 18446744073709551616) := hS2.s
  have ESL := hide esl
  have ENL := hide enl
  clear hF hS hS2 lens hRR esl enl
  have hcf1 : ∀ (vs : Array Value) (w : World), (callFunc 54 vs).run Tryz.prog w = .ok (.enter 54 vs) w := fun vs w => by kernel_rfl
  have hcf2 : ∀ (vs : Array Value) (w : World), (callFunc 55 vs).run Tryz.prog w = .ok (.enter 55 vs) w := fun vs w => by kernel_rfl
  have hcf3 : ∀ (vs : Array Value) (w : World), (callFunc 56 vs).run Tryz.prog w = .ok (.enter 56 vs) w := fun vs w => by kernel_rfl
  have hcf4 : ∀ (vs : Array Value) (w : World), (callFunc 58 vs).run Tryz.prog w = .ok (.enter 58 vs) w := fun vs w => by kernel_rfl
  have HCF := hide (And.intro hcf1 (And.intro hcf2 (And.intro hcf3 hcf4)))
  clear hcf1 hcf2 hcf3 hcf4
  go_wp2_with fail
  refine (durPart_any e g x t p q c n d m ss ns en em _ (uh HR _ b1).1 (uh HR _ b1).2.1 hn hm HF hby hnu).mono ?_
  rintro z9 w2 ⟨ps, cs, pn, dn, rfl, ow2, hb2⟩
  have b2 := Below.step b1 hb2
  obtain ⟨A1, A2, r1, r2, -⟩ := ow2
  rw [← uh ESL] at r1
  rw [← uh ENL] at r2
  clear hb2 b1 C1 i0 i1 i2 i3 i4 i5
  have R2 := hide (And.intro r1 r2)
  clear r1 r2
  go_wp2_with fail
  obtain ⟨W0, hW0⟩ : ∃ W, W = (w2.alloc (.cells #[.int .u64 e, .int .u64 g, .int .u64 x, .int .i64 0, .slice ps n cs, .slice pn m dn] 27)) := ⟨_, rfl⟩
  have bW0 : Below w2.heap.size w2 W0 := by rw [hW0]; exact (Below.refl _ _).alloc (Nat.le_refl _) _
  have hA6 : St6 W0 w2.heap.size e g x 0 (.slice ps n cs) (.slice pn m dn) := by rw [hW0]; simp [St6]
  obtain ⟨GB, hGB⟩ : ∃ G, G = w2.heap.size := ⟨_, rfl⟩
  rw [← hW0]
  rw [← hGB] at hA6 ⊢
  obtain ⟨v0, hv0⟩ : ∃ V, V = W0.drew := ⟨_, rfl⟩
  have BW0 : Hid (Below w.heap.size w v0) := by rw [hv0]; exact (Below.step b2 bW0).drew
  have S0 : Hid (St6 v0 GB e g x 0 (.slice ps n cs) (.slice pn m dn)) := by rw [hv0]; exact hA6
  have D0 : Hid (RdSc v0 (.slice ps n cs) sl ∧ RdN v0 (.slice pn m dn) nl) := by rw [hv0]; exact ⟨(uh R2).1.below bW0.drew, (uh R2).2.below bW0.drew⟩
  refine wp_region_noPanic ?_
  refine wp_region_held_drew (S := fun w' => St6 w' GB e g x 0 (.slice ps n cs) (.slice pn m dn)) (by kernel_rfl) (by rw [← hv0]; exact uh S0) (fun hS => ?_)
  rw [← hv0] at hS ⊢
  clear hv0 hW0 bW0 hA6 hGB R2 b2
  refine tk 0 hS (h := ?_); simp only [Act.put, xa, xb, xc]
  refine tk 1 hS (h := ?_); simp only [Act.put, xa, xb, xc]
  refine tk 3 hS (h := ?_); simp only [Act.put, xa, xb, xc]
  refine tk 4 hS (h := ?_); simp only [Act.put, xa, xb, xc]
  refine tk 6 hS (h := ?_); simp only [Act.put, xa, xb, xc]
  refine tk 7 hS (h := ?_); simp only [Act.put, xa, xb, xc]
  refine tk 9 hS (h := ?_); simp only [Act.put, xa, xb, xc]
  refine tk 10 hS (h := ?_); simp only [Act.put, xa, xb, xc]
  refine tk 12 hS (h := ?_); simp only [Act.put, xa, xb, xc]
  refine tk 13 hS (h := ?_); simp only [Act.put, xa, xb, xc]
  refine ry [2] ?_
  refine cn (fun KK hK => ?_) ?_
  ·refine step_call1 (by rfl) 55 _ _ (by rfl) (.int .u64 e) (by rfl) (fun _ => (uh HCF).2.1 _ _) (varintN e _ he N0 e0) ?_
   rintro z9 v1 ⟨pA, cA, rfl, oA, hb1⟩
   refine ⟨_, rfl, ?_⟩
   have S1 := hide ((uh S0).below hb1)
   have BW1 := hide (Below.step (uh BW0) hb1)
   have D1 := hide (And.intro ((uh D0).1.below hb1) ((uh D0).2.below hb1))
   have RA1 := hide oA.rd
   refine hK.out _ _ (by exact uh S1) (fun hS => ?_)
   clear hK KK oA hb1
   (try simp only [Act.put, xa, xb, xc])
   refine ry [5] ?_
   refine cn (fun KK hK => ?_) ?_
   ·refine step_call1 (by rfl) 55 _ _ (by rfl) (.int .u64 g) (by rfl) (fun _ => (uh HCF).2.1 _ _) (varintN g _ hg N1 e1) ?_
    rintro z9 v2 ⟨pB, cB, rfl, oB, hb2⟩
    refine ⟨_, rfl, ?_⟩
    have S2 := hide ((uh S1).below hb2)
    have BW2 := hide (Below.step (uh BW1) hb2)
    have D2 := hide (And.intro ((uh D1).1.below hb2) ((uh D1).2.below hb2))
    have RA2 := hide ((uh RA1).below hb2)
    have RB2 := hide oB.rd
    refine hK.out _ _ (by exact uh S2) (fun hS => ?_)
    clear hK KK oB hb2
    (try simp only [Act.put, xa, xb, xc])
    refine ry [8] ?_
    refine cn (fun KK hK => ?_) ?_
    ·refine step_call1 (by rfl) 55 _ _ (by rfl) (.int .u64 x) (by rfl) (fun _ => (uh HCF).2.1 _ _) (varintN x _ hx N2 e2) ?_
     rintro z9 v3 ⟨pC, cC, rfl, oC, hb3⟩
     refine ⟨_, rfl, ?_⟩
     have S3 := hide ((uh S2).below hb3)
     have BW3 := hide (Below.step (uh BW2) hb3)
     have D3 := hide (And.intro ((uh D2).1.below hb3) ((uh D2).2.below hb3))
     have RA3 := hide ((uh RA2).below hb3)
     have RB3 := hide ((uh RB2).below hb3)
     have RC3 := hide oC.rd
     refine hK.out _ _ (by exact uh S3) (fun hS => ?_)
     clear hK KK oC hb3
     (try simp only [Act.put, xa, xb, xc])
     refine ry [11] ?_
     refine cn (fun KK hK => ?_) ?_
     ·refine step_call2 (by rfl) 56 _ _ _ (by rfl) (.slice ps n cs) (.func (.func 57) #[] #[]) (by rfl) (by rfl) (fun _ => (uh HCF).2.2.1 _ _) (listS_any ps cs n sl en2 _ (uh D3).1 (by omega) HS2 N3 e3 hN3) ?_
      rintro z9 v4 ⟨pD, cD, rfl, oD, hb4⟩
      refine ⟨_, rfl, ?_⟩
      have S4 := hide ((uh S3).below hb4)
      have BW4 := hide (Below.step (uh BW3) hb4)
      have D4 := hide (And.intro ((uh D3).1.below hb4) ((uh D3).2.below hb4))
      have RA4 := hide ((uh RA3).below hb4)
      have RB4 := hide ((uh RB3).below hb4)
      have RC4 := hide ((uh RC3).below hb4)
      have RD4 := hide oD.rd
      refine hK.out _ _ (by exact uh S4) (fun hS => ?_)
      clear hK KK oD hb4
      (try simp only [Act.put, xa, xb, xc])
      refine ry [14] ?_
      refine cn (fun KK hK => ?_) ?_
      ·refine step_call2 (by rfl) 58 _ _ _ (by rfl) (.slice pn m dn) (.func (.func 59) #[] #[]) (by rfl) (by rfl) (fun _ => (uh HCF).2.2.2 _ _) (listN_any pn dn m nl em2 _ (uh D4).2 (by omega) sl HS1 N4 e4 hN4) ?_
       rintro z9 v5 ⟨pE, cE, rfl, oE, hb5⟩
       refine ⟨_, rfl, ?_⟩
       have S5 := hide ((uh S4).below hb5)
       have BW5 := hide (Below.step (uh BW4) hb5)
       have RA5 := hide ((uh RA4).below hb5)
       have RB5 := hide ((uh RB4).below hb5)
       have RC5 := hide ((uh RC4).below hb5)
       have RD5 := hide ((uh RD4).below hb5)
       have RE5 := hide oE.rd
       refine hK.out _ _ (by exact uh S5) (fun hS => ?_)
       clear hK KK oE hb5
       (try simp only [Act.put, xa, xb, xc])
       refine ry [15] ?_
       refine cn (fun KK hK => ?_) ?_
       ·go_simp
        obtain ⟨Y, hY⟩ : ∃ Y, Y = v5.alloc (.cells #[.slice pA N0 cA, .slice pB N1 cB, .slice pC N2 cC, .slice pD N3 cD, .slice pE N4 cE] 22) := ⟨_, rfl⟩
        have hbY : Below v5.heap.size v5 Y := by rw [hY]; exact (Below.refl _ _).alloc (Nat.le_refl _) _
        have SY := hide ((uh S5).below hbY)
        have JJ := hide (joinedF v5 _ _ _ _ _ _ _ _ _ _ _ L EE eL (uh RA5) (uh RB5) (uh RC5) (uh RD5) (uh RE5) hL)
        rw [← hY] at JJ ⊢
        refine hK.out _ _ (by exact uh SY) (fun hS => ?_)
        clear hK KK hY hbY
        (try simp only [Act.put, xa, xb, xc])
        refine ry [16] ?_
        refine cn (fun KK hK => ?_) ?_
        ·refine step_call1 (by rfl) 54 _ _ (by rfl) (.slice (some ⟨v5.heap.size, 0, none⟩) 5 5) (by rfl) (fun _ => (uh HCF).1 _ _) (uh JJ) ?_
         rintro z9 Z ⟨pj, cj, rfl, oj, hbj⟩
         refine ⟨_, rfl, ?_⟩
         have FI := hide (And.intro (Own.mono (B' := w.heap.size) oj (uh BW5).size) (Below.step (uh BW5) hbj))
         refine hK.out _ _ (by exact (uh S5).below hbj) (fun hS => ?_)
         clear hK KK oj hbj
         (try simp only [Act.put, xa, xb, xc])
         refine tk 17 hS (h := ?_); simp only [Act.put, xa, xb, xc]
         refine wpAnyH_done (by kernel_rfl) ?_ _
         refine NoPanic.normal ?_
         clear hS
         go_wp2
         go_ret
         exact ⟨pj, cj, rfl, uh FI⟩
        exact AllReadyH.nil
       exact AllReadyH.nil
      exact AllReadyH.nil
     exact AllReadyH.nil
    exact AllReadyH.nil
   exact AllReadyH.nil
  exact AllReadyH.nil
theorem encR_byt {e g x : Nat} {t : Int} (he : e < 18446744073709551616) (hg : g < 18446744073709551616) (hx : x < 18446744073709551616) {ss : List Ses} {ns : List Nod} (hr : ∀ nd ∈ ns, RgN nd) : Byt (encR e g x t ss ns) := by
 rw [encR]
 split
 ·next h => exact stB_byt (by omega) (by omega) (by omega) (rg_sml h hr) hr
 ·exact fun z hz => by simp at hz
set_option maxHeartbeats 12800000 in
theorem implDecS (p : Option Addr) (c n : Nat) (l : List Int) (en : Hid (l.length = n)) (w : World) (h : Rd w (.slice p n c) l) (hb : Hid (Byt l)) (hl : n ≤ 1048576) (hnc : n ≤ c) (hp : Hid ((p = none ∧ c = 0) ∨ ∃ b o, p = some ⟨b, o, none⟩)) (hblk : Hid (∀ b o, p = some ⟨b, o, none⟩ → b < w.heap.size)) (hML : ML w) :
  Calls Tryz.prog 8 #[.slice p n c] w fun r w' => StRes w.heap.size r w' (decD (implP l)) (decC (implP l)) ∧ Below w.heap.size w w' := by
 have HR := hide fun (w' : World) (hb : Below w.heap.size w w') => And.intro (h.below hb) (hML.below hb)
 obtain ⟨⟨e, m1, s1⟩, E1⟩ : ∃ y, Hid (sNs (l, false) = y) := ⟨_, (by show _ = _; rfl)⟩
 obtain ⟨⟨g, m2, s2⟩, E2⟩ : ∃ y, Hid (sNs (m1, s1) = y) := ⟨_, (by show _ = _; rfl)⟩
 obtain ⟨⟨x, m3, s3⟩, E3⟩ : ∃ y, Hid (sNs (m2, s2) = y) := ⟨_, (by show _ = _; rfl)⟩
 obtain ⟨⟨ss, m4, s4⟩, E4⟩ : ∃ y, Hid (lF sSe (m3, s3) = y) := ⟨_, (by show _ = _; rfl)⟩
 obtain ⟨⟨ns, m5, s5⟩, E5⟩ : ∃ y, Hid (lF sNo (m4, s4) = y) := ⟨_, (by show _ = _; rfl)⟩
 have EI : Hid (imSt l = ((e, g, x), ss, ns, m5, s5)) := by
  show _ = _
  rw [imSt]
  simp only [uh E1, uh E2, uh E3, uh E4, uh E5]
 have k1 := sNs_ok (l, false) (uh hb) (by dsimp only; rw [uh en]; exact hl)
 rw [uh E1] at k1
 obtain ⟨ue, c1, d1, -⟩ := k1
 dsimp only at ue c1 d1
 rw [uh en] at d1
 have k2 := sNs_ok (m1, s1) c1 (by dsimp only; omega)
 rw [uh E2] at k2
 obtain ⟨ug, c2, d2, -⟩ := k2
 dsimp only at ug c2 d2
 have k3 := sNs_ok (m2, s2) c2 (by dsimp only; omega)
 rw [uh E3] at k3
 obtain ⟨ux, c3, d3, -⟩ := k3
 dsimp only at ux c3 d3
 have k4 := lF_ok sSe_ok (m3, s3) c3 (by dsimp only; omega)
 rw [uh E4] at k4
 obtain ⟨hss, c4, d4, f4⟩ := k4
 dsimp only at hss c4 d4 f4
 have k5 := lF_ok sNo_ok (m4, s4) c4 (by dsimp only; omega)
 rw [uh E5] at k5
 obtain ⟨hns, c5, d5, f5⟩ := k5
 dsimp only at hns c5 d5 f5
 have B1 := hide c1
 have B2 := hide c2
 have B3 := hide c3
 have B4 := hide c4
 have g1 : m1.length ≤ 1048576 := by omega
 have g2 : m2.length ≤ 1048576 := by omega
 have g3 : m3.length ≤ 1048576 := by omega
 have g4 : m4.length ≤ 1048576 := by omega
 obtain ⟨KS, eKS⟩ : ∃ k, Hid (ss.length = k) := ⟨_, (by show _ = _; rfl)⟩
 obtain ⟨KN, eKN⟩ : ∃ k, Hid (ns.length = k) := ⟨_, (by show _ = _; rfl)⟩
 have hKS : KS ≤ 1048576 := by rw [← uh eKS]; omega
 have hKN : KN ≤ 1048576 := by rw [← uh eKN]; omega
 have HSS := hide hss
 have HNS := hide hns
 have re : 0 ≤ e ∧ e < 18446744073709551616 := ue
 have rg : 0 ≤ g ∧ g < 18446744073709551616 := ug
 have rx : 0 ≤ x ∧ x < 18446744073709551616 := ux
 obtain ⟨e, rfl⟩ : ∃ v : Nat, e = (v : Int) := ⟨e.toNat, by omega⟩
 obtain ⟨g, rfl⟩ : ∃ v : Nat, g = (v : Int) := ⟨g.toNat, by omega⟩
 obtain ⟨x, rfl⟩ : ∃ v : Nat, x = (v : Int) := ⟨x.toNat, by omega⟩
 have he : e < 18446744073709551616 := by omega
 have hg : g < 18446744073709551616 := by omega
 have hx : x < 18446744073709551616 := by omega
 clear c1 c2 c3 c4 c5 d1 d2 d3 d4 d5 f4 f5 ue ug ux hss hns re rg rx
 obtain ⟨W1, hW1⟩ : ∃ W, W = (w.alloc (.cells #[.int .u64 0, .int .u64 0, .int .u64 0, .int .i64 0, .slice none 0 0, .slice none 0 0] 27)) := ⟨_, rfl⟩
 have bW1 : Below w.heap.size w W1 := by rw [hW1]; exact (Below.refl _ _).alloc (Nat.le_refl _) _
 have zW1 : W1.heap.size = w.heap.size + 1 := by rw [hW1]; simp
 obtain ⟨W, hW⟩ : ∃ W, W = (W1.alloc (.cells #[.slice p n c, .bool false] 69)) := ⟨_, rfl⟩
 have bW2 : Below W1.heap.size W1 W := by rw [hW]; exact (Below.refl _ _).alloc (Nat.le_refl _) _
 have zW : W.heap.size = w.heap.size + 2 := by rw [hW]; simp; omega
 have bW := Below.step bW1 bW2
 obtain ⟨R, hR⟩ : ∃ R, R = w.heap.size + 1 := ⟨_, rfl⟩
 have C0 : Hid (CellsAre W w.heap.size [.int .u64 0, .int .u64 0, .int .u64 0, .int .i64 0, .slice none 0 0, .slice none 0 0]) := by
  have : CellsAre W1 w.heap.size [.int .u64 0, .int .u64 0, .int .u64 0, .int .i64 0, .slice none 0 0, .slice none 0 0] := by rw [hW1]; exact CellsAre.alloc w #[.int .u64 0, .int .u64 0, .int .u64 0, .int .i64 0, .slice none 0 0, .slice none 0 0] _
  exact this.below (by omega) bW2
 have R0 : Hid (Rdr W R l n false) := by
  have hc : CellsAre W R [.slice p n c, .bool false] := by
   rw [hW, show R = W1.heap.size by omega]; exact CellsAre.alloc W1 #[.slice p n c, .bool false] _
  refine ⟨uh en, hc.2, p, c, ⟨hc.1 0 _ rfl, hc.1 1 _ rfl⟩, ?_, hnc, uh hp⟩
  obtain ⟨p', c', ev, hd⟩ := h.below bW
  simp only [Value.slice.injEq] at ev
  rcases hd with h0 | ⟨b, o, h1, h2⟩
  ·exact .inl h0
  ·refine .inr ⟨b, o, ?_, ev.1.trans h1, h2⟩
   have := uh hblk b o (ev.1.trans h1)
   omega
 have K0 := hide (Kept.refl [blk R] W)
 have hRW : R < W.heap.size := by omega
 have hwR : w.heap.size < R := by omega
 go_enter Tryz.func8, Tryz.ntmps8
 go_wp2_with fail
 rw [← hW1, ← hW, ← hR]
 have HRR := hide hR
 clear hW1 hW h hML bW1 bW2 zW1 hR
 refine (number_any R l n false _ (uh R0) (uh hb) hl e m1 s1 E1).mono ?_
 rintro z9 y1 ⟨rfl, hr1, hk1⟩
 have C1 := hide ((uh C0).keptR hk1 (by omega) (by omega))
 have K1 := hide ((uh K0).trans hk1)
 have R1 := hide hr1
 have z1 := hk1.size
 clear hk1 hr1 C0 K0 R0
 go_wp2_with fail
 refine (number_any R m1 m1.length s1 _ (uh R1) (uh B1) g1 g m2 s2 E2).mono ?_
 rintro z9 y2 ⟨rfl, hr2, hk2⟩
 have C2 := hide ((uh C1).keptR hk2 (by omega) (by omega))
 have K2 := hide ((uh K1).trans hk2)
 have R2 := hide hr2
 have z2 := hk2.size
 clear hk2 hr2 C1 K1 R1
 go_wp2_with fail
 refine (number_any R m2 m2.length s2 _ (uh R2) (uh B2) g2 x m3 s3 E3).mono ?_
 rintro z9 y3 ⟨rfl, hr3, hk3⟩
 have C3 := hide ((uh C2).keptR hk3 (by omega) (by omega))
 have K3 := hide ((uh K2).trans hk3)
 have R3 := hide hr3
 have z3 := hk3.size
 clear hk3 hr3 C2 K2 R2
 go_wp2_with fail
 refine (lfS_any R m3 m3.length s3 _ (uh R3) (by omega) B3 g3 ss m4 s4 E4 KS eKS).mono ?_
 rintro z9 y4 ⟨pS, cS, rfl, ⟨LS, oS⟩, hr4, hk4⟩
 have hS4 := hide oS.lt
 have OS4 := hide oS
 have C4 := hide ((uh C3).keptR hk4 (by omega) (by omega))
 have K4 := hide ((uh K3).trans hk4)
 have R4 := hide hr4
 have z4 := hk4.size
 clear hk4 hr4 C3 K3 R3 oS
 go_wp2_with fail
 refine (lfN_any R m4 m4.length s4 _ (uh R4) (by omega) B4 g4 ns m5 s5 E5 KN eKN).mono ?_
 rintro z9 y5 ⟨pN, cN, rfl, ⟨LN, oN⟩, hr5, hk5⟩
 have ON5 := hide oN
 have C5 := hide ((uh C4).keptR hk5 (by omega) (by omega))
 have K5 := hide ((uh K4).trans hk5)
 have R5 := hide hr5
 have z5 := hk5.size
 have OS5 := hide ((uh OS4).keptR elSe.keep hk5 (by omega))
 clear hk5 hr5 C4 K4 R4 oN OS4
 have b5 : Below w.heap.size w y5 := below_keptR bW (uh K5) (by omega)
 have FF : Hid (StOwn W.heap.size y5 pS KS cS pN KN cN ss ns) := by
  obtain ⟨A1, q1, q2, q3⟩ := (uh OS5).seB (M := y4.heap.size) (fun a ha => ((uh hS4).2 a ha).2) (fun b hb => ((uh hS4).1 b hb).2)
  obtain ⟨rn, A2, q4, q5⟩ := (uh ON5).no
  exact ⟨A1, A2, (uh OS5).se.1, rn, q1, q4, (q2.mono (by omega)).app q5 (by omega) q3⟩
 clear OS5 ON5 hS4
 obtain ⟨V, hV⟩ : ∃ V, V = y5.alloc (.cells #[.int .u64 e, .int .u64 g, .int .u64 x, .int .i64 0, .slice pS KS cS, .slice pN KN cN] 27) := ⟨_, rfl⟩
 have hbV : Below y5.heap.size y5 V := by rw [hV]; exact (Below.refl _ _).alloc (Nat.le_refl _) _
 have CV := hide ((uh C5).below (by omega) hbV)
 have RV := hide ((uh R5).below hbV (by omega))
 have bV := Below.step b5 hbV
 have FV := hide ((uh FF).below hbV)
 obtain ⟨sb, hsb⟩ : ∃ s, s = y5.heap.size := ⟨_, rfl⟩
 have CS : Hid (CellsAre V sb [.int .u64 e, .int .u64 g, .int .u64 x, .int .i64 0, .slice pS KS cS, .slice pN KN cN]) := by
  show CellsAre _ _ _
  rw [hV, hsb]; exact CellsAre.alloc y5 #[.int .u64 e, .int .u64 g, .int .u64 x, .int .i64 0, .slice pS KS cS, .slice pN KN cN] _
 have zV : V.heap.size = sb + 1 := by rw [hV]; simp; omega
 have hsw : w.heap.size < sb := by omega
 obtain ⟨-, -, -, -, ⟨-, gsh⟩, -⟩ := uh RV
 rw [hV] at gsh
 have HV := hide hV
 have HSB := hide hsb
 clear hV hbV C5 R5 FF hsb
 cases s5 with
 | true =>
  have hV := uh HV
  have CV2 := CV
  have bV2 := bV
  rw [hV] at CV2 bV2
  have hP : implP l = none := by
   rw [implP, uh EI]
   rw [if_neg (fun hh => by cases hh.1)]
  have HD : Hid (decD (implP l) = stD0 ∧ decC (implP l) = 13) := by rw [hP]; exact ⟨rfl, rfl⟩
  clear hP
  have r0 := (uh CV2).1 0 _ rfl
  have r1 := (uh CV2).1 1 _ rfl
  have r2 := (uh CV2).1 2 _ rfl
  have r3 := (uh CV2).1 3 _ rfl
  have r4 := (uh CV2).1 4 _ rfl
  have r5 := (uh CV2).1 5 _ rfl
  have rf := (uh CV2).2
  clear hV
  have BB := bV2
  go_wp2
  refine bodyPost_ret (v := .tuple #[stV 0 0 0 0 (.slice none 0 0) (.slice none 0 0), .int .i64 13]) (by simp [results, Tryz.results8, go_sem, r0, r1, r2, r3, r4, r5]) rfl ⟨?_, ?_⟩
  ·rw [(uh HD).1, (uh HD).2]
   exact ⟨none, 0, none, 0, rfl, StOwn.zero _ _⟩
  ·exact (((((BB.setCell (by simp) _).setCell (by simp) _).setCell (by simp) _).setCell (by simp) _).setCell (by simp) _).setCell (by simp) _
 | false =>
  obtain ⟨RL, eRL⟩ : ∃ L, Hid (encR e g x 0 ss ns = L) := ⟨_, (by show _ = _; rfl)⟩
  obtain ⟨L, eL⟩ : ∃ k, Hid (RL.length = k) := ⟨_, (by show _ = _; rfl)⟩
  have hbs : Hid (∀ s ∈ ss, s.2.2.length ≤ 1048576 ∧ ∀ e ∈ s.2.2, Byt e.2 ∧ e.2.length ≤ 1048576) := fun s hs => by
   rw [(uh HSS s hs).2]
   exact ⟨Nat.zero_le _, fun e he => by simp at he⟩
  have hby : Hid (∀ nd ∈ ns, Byt nd.path ∧ nd.path.length ≤ 1048576 ∧ nd.value.length ≤ 1048576 ∧ nd.holders.length ≤ 1048576 ∧ nd.watchers.length ≤ 1048576) := fun nd hnd => by
   have := uh HNS nd hnd
   exact ⟨this.by0, this.l0, this.l1, this.l4, by rw [this.l7]; exact Nat.zero_le _⟩
  have hnu : Hid (∀ nd ∈ ns, (∀ i ∈ nd.holders, 0 ≤ i ∧ i < 18446744073709551616) ∧ ∀ i ∈ nd.watchers, 0 ≤ i ∧ i < 18446744073709551616) := fun nd hnd => ⟨(uh HNS nd hnd).ho, fun i hi => by rw [(uh HNS nd hnd).l7] at hi; simp at hi⟩
  have hou : Hid (∀ nd ∈ ns, 0 ≤ nd.owner ∧ nd.owner < 18446744073709551616) := fun nd hnd => (uh HNS nd hnd).ow
  have hep : Hid (∀ nd ∈ ns, (0 ≤ nd.epoch ∧ nd.epoch < 18446744073709551616) ∧ 0 ≤ nd.gen ∧ nd.gen < 18446744073709551616) := fun nd hnd => ⟨(uh HNS nd hnd).ep, (uh HNS nd hnd).ge⟩
  go_wp2_with fail
  rw [← uh HV]
  have RRV : Hid (RdSc V (.slice pS KS cS) ss ∧ RdN V (.slice pN KN cN) ns) := by
   obtain ⟨-, -, q1, q2, -⟩ := uh FV
   exact ⟨q1, q2⟩
  refine (implEnc e g x 0 he hg hx pS pN cS KS cN KN ss ns eKS eKN _ (uh RRV).1 (uh RRV).2 hKS hKN hbs hby hnu hou hep (uh HR _ bV).2 RL eRL L eL).mono ?_
  rintro z9 u1 ⟨pE, cE, rfl, oE, hu1⟩
  have b6 := Below.step bV hu1
  have C6 := hide ((uh CV).below (by omega) hu1)
  have S6 := hide ((uh CS).below (by omega) hu1)
  have F6 := hide ((uh FV).below hu1)
  have RE := hide oE.rd
  have zu1 := hu1.size
  clear oE hu1 gsh
  go_wp2_with fail
  refine (bytesEqual_any pE p cE c L n RL l eL en _ (uh RE) (uh HR _ b6).1 (by rw [← uh eRL]; exact encR_byt he hg hx (uh HNS)) (uh hb)).mono ?_
  rintro z9 u2 ⟨rfl, hu2⟩
  have b7 := Below.step b6 hu2
  have C7 := hide ((uh C6).below (by omega) hu2)
  have S7 := hide ((uh S6).below (by omega) hu2)
  have F7 := hide ((uh F6).below hu2)
  have zu2 := hu2.size
  clear hu2
  by_cases hEq : RL = l
  ·have hd : decide (RL = l) = true := by simpa using hEq
   have hP : implP l = some (((e : Int), (g : Int), (x : Int)), ss, ns) := by
    rw [implP, uh EI]
    rw [if_pos ⟨rfl, (uh eRL).trans hEq⟩]
   have HD : Hid (decD (implP l) = ⟨e, g, x, 0, ss, ns⟩ ∧ decC (implP l) = 0) := by rw [hP]; exact ⟨rfl, rfl⟩
   rw [hd]
   have r0 := (uh C7).1 0 _ rfl
   have r1 := (uh C7).1 1 _ rfl
   have r2 := (uh C7).1 2 _ rfl
   have r3 := (uh C7).1 3 _ rfl
   have r4 := (uh C7).1 4 _ rfl
   have r5 := (uh C7).1 5 _ rfl
   have rf := (uh C7).2
   have k0 := (uh S7).1 0 _ rfl
   have k1 := (uh S7).1 1 _ rfl
   have k2 := (uh S7).1 2 _ rfl
   have k3 := (uh S7).1 3 _ rfl
   have k4 := (uh S7).1 4 _ rfl
   have k5 := (uh S7).1 5 _ rfl
   have q1 : ¬ w.heap.size = sb := by omega
   have q2 : ¬ sb = w.heap.size := by omega
   clear hP hd hEq
   rw [← uh HSB]
   go_wp2
   obtain ⟨Z, hZ⟩ : ∃ Z, Z = ((((((u2.setCell ⟨w.heap.size, 0, none⟩ (.int .u64 e)).setCell ⟨w.heap.size, 1, none⟩ (.int .u64 g)).setCell ⟨w.heap.size, 2, none⟩ (.int .u64 x)).setCell ⟨w.heap.size, 3, none⟩ (.int .i64 0)).setCell ⟨w.heap.size, 4, none⟩ (.slice pS KS cS)).setCell ⟨w.heap.size, 5, none⟩ (.slice pN KN cN)) := ⟨_, rfl⟩
   have hkZ : ∀ z, z ≠ w.heap.size → Z.heap[z]? = u2.heap[z]? := fun z hz => by
    rw [hZ]
    iterate 6 rw [RowKit.Below.heap_setCell _ _ _ _ hz]
   refine bodyPost_ret (v := .tuple #[stV e g x 0 (.slice pS KS cS) (.slice pN KN cN), .int .i64 0]) (by simp [results, Tryz.results8, go_sem, r0, r1, r2, r3, r4, r5]) rfl ⟨?_, ?_⟩
   ·rw [← hZ, (uh HD).1, (uh HD).2]
    have f := ((uh F7).keep (w' := Z) (fun z hz _ => hkZ z (by omega))).mono (B' := w.heap.size) (by omega)
    rw [← uh eKS, ← uh eKN] at f ⊢
    exact ⟨pS, cS, pN, cN, rfl, f⟩
   ·exact (((((b7.setCell (by simp) _).setCell (by simp) _).setCell (by simp) _).setCell (by simp) _).setCell (by simp) _).setCell (by simp) _
  ·have hd : decide (RL = l) = false := by simpa using hEq
   rw [hd]
   have hP : implP l = none := by
    rw [implP, uh EI]
    rw [if_neg (fun hh => hEq ((uh eRL).symm.trans hh.2))]
   have HD : Hid (decD (implP l) = stD0 ∧ decC (implP l) = 13) := by rw [hP]; exact ⟨rfl, rfl⟩
   clear hP
   have r0 := (uh C7).1 0 _ rfl
   have r1 := (uh C7).1 1 _ rfl
   have r2 := (uh C7).1 2 _ rfl
   have r3 := (uh C7).1 3 _ rfl
   have r4 := (uh C7).1 4 _ rfl
   have r5 := (uh C7).1 5 _ rfl
   have rf := (uh C7).2
   have BB := b7
   go_wp2
   refine bodyPost_ret (v := .tuple #[stV 0 0 0 0 (.slice none 0 0) (.slice none 0 0), .int .i64 13]) (by simp [results, Tryz.results8, go_sem, r0, r1, r2, r3, r4, r5]) rfl ⟨?_, ?_⟩
   ·rw [(uh HD).1, (uh HD).2]
    exact ⟨none, 0, none, 0, rfl, StOwn.zero _ _⟩
   ·exact (((((BB.setCell (by simp) _).setCell (by simp) _).setCell (by simp) _).setCell (by simp) _).setCell (by simp) _).setCell (by simp) _
end Go.Proofs.YtnbgnhhnpmmloaaGreatDoor
