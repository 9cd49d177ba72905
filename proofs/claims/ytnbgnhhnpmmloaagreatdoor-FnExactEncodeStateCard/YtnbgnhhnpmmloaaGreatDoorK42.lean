import Derived.Test.YtnbgnhhnpmmloaaGreatDoorK41
namespace Go.Proofs.YtnbgnhhnpmmloaaGreatDoor
open Go.ChangeShapes Go.WideShapes Go.ChangeAt Go.RowKit
set_option linter.unusedVariables false
set_option linter.unusedSimpArgs false
set_option maxRecDepth 100000
theorem joinedF (X : World) (v0 v1 v2 v3 v4 : Value) (l0 l1 l2 l3 l4 lm : List Int) (N : Nat) (e : Hid (lm = cat [l0, l1, l2, l3, l4])) (en : Hid (lm.length = N)) (r0 : Rd X v0 l0) (r1 : Rd X v1 l1) (r2 : Rd X v2 l2) (r3 : Rd X v3 l3) (r4 : Rd X v4 l4) (hl : N ≤ 4194304) :
  Calls Tryz.prog 54 #[.slice (some ⟨X.heap.size, 0, none⟩) 5 5] (X.alloc (.cells #[v0, v1, v2, v3, v4] 22)) fun e w' => ∃ p' c', e = .returned (.slice p' N c') ∧ Own X.heap.size w' (.slice p' N c') lm ∧ Below X.heap.size X w' := by
 have ba : Below X.heap.size X (X.alloc (.cells #[v0, v1, v2, v3, v4] 22)) := (Below.refl _ _).alloc (Nat.le_refl _) _
 refine (joined_any X.heap.size [v0, v1, v2, v3, v4] [l0, l1, l2, l3, l4] lm N 5 rfl e en _ (parts5 (by simp) (by simp) (by simp) (by simp) (by simp) (r0.below ba) (r1.below ba) (r2.below ba) (r3.below ba) (r4.below ba)) hl (by omega)).mono ?_
 rintro e w' ⟨p', c', rfl, o, hb⟩
 exact ⟨p', c', rfl, Own.mono o (by simp), Below.step ba hb⟩
set_option maxHeartbeats 6400000 in
theorem implEnc (e g x : Nat) (t : Int) (he : e < 18446744073709551616) (hg : g < 18446744073709551616) (hx : x < 18446744073709551616) (p q : Option Addr) (c n d m : Nat) (ss : List Ses) (ns : List Nod) (en : Hid (ss.length = n)) (em : Hid (ns.length = m)) (w : World) (h : RdSc w (.slice p n c) ss) (hN : RdN w (.slice q m d) ns) (hn : n ≤ 1048576) (hm : m ≤ 1048576)
  (hbs : Hid (∀ s ∈ ss, s.2.2.length ≤ 1048576 ∧ ∀ e ∈ s.2.2, Byt e.2 ∧ e.2.length ≤ 1048576)) (hby : Hid (∀ nd ∈ ns, Byt nd.path ∧ nd.path.length ≤ 1048576 ∧ nd.value.length ≤ 1048576 ∧ nd.holders.length ≤ 1048576 ∧ nd.watchers.length ≤ 1048576))
  (hnu : Hid (∀ nd ∈ ns, (∀ i ∈ nd.holders, 0 ≤ i ∧ i < 18446744073709551616) ∧ ∀ i ∈ nd.watchers, 0 ≤ i ∧ i < 18446744073709551616))
  (hou : Hid (∀ nd ∈ ns, 0 ≤ nd.owner ∧ nd.owner < 18446744073709551616)) (hep : Hid (∀ nd ∈ ns, (0 ≤ nd.epoch ∧ nd.epoch < 18446744073709551616) ∧ 0 ≤ nd.gen ∧ nd.gen < 18446744073709551616)) (hML : ML w) (R : List Int) (eR : Hid (encR e g x t ss ns = R)) (L : Nat) (eL : Hid (R.length = L)) :
  Calls Tryz.prog 17 #[stV e g x t (.slice p n c) (.slice q m d)] w fun r w' => ∃ p' c', r = .returned (.slice p' L c') ∧ Own w.heap.size w' (.slice p' L c') R ∧ Below w.heap.size w w' := by
 have HR := hide fun (w' : World) (hb : Below w.heap.size w w') => And.intro (h.below hb) (And.intro (hN.below hb) (hML.below hb))
 clear h hN hML
 obtain ⟨B, eB⟩ : ∃ B, Hid (stOK e g x t ss ns = B) := ⟨_, (by show _ = _; rfl)⟩
 obtain ⟨W, hW⟩ : ∃ W, W = (w.alloc (.cells #[.int .u64 e, .int .u64 g, .int .u64 x, .int .i64 t, .slice p n c, .slice q m d] 27)) := ⟨_, rfl⟩
 have bW : Below w.heap.size w W := by rw [hW]; exact (Below.refl _ _).alloc (Nat.le_refl _) _
 have hc6 : St6 W w.heap.size e g x t (.slice p n c) (.slice q m d) := by rw [hW]; simp [St6]
 have HC6 := hide hc6
 go_enter Tryz.func17, Tryz.ntmps17
 go_wp2_with fail
 rw [← hW]
 clear hW hc6
 refine (implVS e g x t p q c n d m ss ns en em _ (unhide HR _ bW).1 (unhide HR _ bW).2.1 hn hm hbs hby hnu hou (unhide HR _ bW).2.2 B eB).mono ?_
 rintro z9 w1 ⟨rfl, hb1⟩
 have b1 := Below.step bW hb1
 have C1 := hide ((unhide HC6).below hb1)
 clear hb1 bW HC6
 cases B with
 | false =>
  have e1 := unhide eR
  have e2 := unhide eL
  rw [encR, if_neg (by rw [unhide eB]; simp)] at e1
  subst e1
  have e3 : L = 0 := e2.symm
  subst e3
  clear e2
  go_wp2
  go_ret
  exact ⟨none, 0, rfl, Own.nil _ _, b1⟩
 | true =>
  obtain ⟨i0, i1, i2, i3, i4, i5⟩ := unhide C1
  have hF := fine_of (unhide eB) (unhide hbs) (unhide hby)
  have HF := hide hF
  have hS := sml_of (unhide eB) (unhide hnu) (unhide hou) (unhide hep)
  have hRR : R = stB e g x (ss.map sesF) (ns.map nodF) := by
   have := unhide eR
   rw [encR, if_pos (unhide eB)] at this
   rw [← this, stB_dur]
   simp
  have hS2 := hS.dur
  have lens := stB_len (e := e) (g := g) (x := x) hS2
  have hn5 : n ≤ 50 := by have := hS.n1; rw [unhide en] at this; exact this
  have hm5 : m ≤ 200 := by have := hS.n2; rw [unhide em] at this; exact this
  obtain ⟨sl, esl⟩ : ∃ sl, sl = ss.map sesF := ⟨_, rfl⟩
  obtain ⟨nl, enl⟩ : ∃ nl, nl = ns.map nodF := ⟨_, rfl⟩
  have en2 : Hid (sl.length = n) := by show _ = _; rw [esl, List.length_map]; exact unhide en
  have em2 : Hid (nl.length = m) := by show _ = _; rw [enl, List.length_map]; exact unhide em
  rw [← esl, ← enl] at hS2 hRR lens
  have EE : Hid (R = cat [vi e, vi g, vi x, liB seB sl, liB noB nl]) := hRR
  have hL : L ≤ 4194304 := by have h1 := lens.1; rw [← hRR, unhide eL] at h1; omega
  obtain ⟨N0, e0⟩ : ∃ M, Hid ((vi e).length = M) := ⟨_, (by show _ = _; rfl)⟩
  obtain ⟨N1, e1⟩ : ∃ M, Hid ((vi g).length = M) := ⟨_, (by show _ = _; rfl)⟩
  obtain ⟨N2, e2⟩ : ∃ M, Hid ((vi x).length = M) := ⟨_, (by show _ = _; rfl)⟩
  obtain ⟨N3, e3⟩ : ∃ M, Hid ((liB seB sl).length = M) := ⟨_, (by show _ = _; rfl)⟩
  obtain ⟨N4, e4⟩ : ∃ M, Hid ((liB noB nl).length = M) := ⟨_, (by show _ = _; rfl)⟩
  have hN3 : N3 ≤ 4194304 := by have h1 := lens.2.1; rw [unhide e3] at h1; omega
  have hN4 : N4 ≤ 4194304 := by have h1 := lens.2.2; rw [unhide e4] at h1; omega
  have HS1 := hide hS2
  have HS2 : Hid (∀ s ∈ sl, 0 ≤ s.1 ∧ s.1 < 18446744073709551616) := hS2.s
  have ESL := hide esl
  have ENL := hide enl
  clear hF hS hS2 lens hRR esl enl
  have hcf1 : ∀ (vs : Array Value) (w : World), (callFunc 54 vs).run Tryz.prog w = .ok (.enter 54 vs) w := fun vs w => by kernel_rfl
  have hcf2 : ∀ (vs : Array Value) (w : World), (callFunc 55 vs).run Tryz.prog w = .ok (.enter 55 vs) w := fun vs w => by kernel_rfl
  have hcf3 : ∀ (vs : Array Value) (w : World), (callFunc 56 vs).run Tryz.prog w = .ok (.enter 56 vs) w := fun vs w => by kernel_rfl
  have hcf4 : ∀ (vs : Array Value) (w : World), (callFunc 58 vs).run Tryz.prog w = .ok (.enter 58 vs) w := fun vs w => by kernel_rfl
  have HCF := hide (And.intro hcf1 (And.intro hcf2 (And.intro hcf3 hcf4)))
  clear hcf1 hcf2 hcf3 hcf4
  go_wp2_with fail
  refine (durPart_any e g x t p q c n d m ss ns en em _ (unhide HR _ b1).1 (unhide HR _ b1).2.1 hn hm HF hby hnu).mono ?_
  rintro z9 w2 ⟨ps, cs, pn, dn, rfl, ow2, hb2⟩
  have b2 := Below.step b1 hb2
  obtain ⟨A1, A2, r1, r2, -⟩ := ow2
  rw [← unhide ESL] at r1
  rw [← unhide ENL] at r2
  clear hb2 b1 C1 i0 i1 i2 i3 i4 i5
  have R2 := hide (And.intro r1 r2)
  clear r1 r2
  go_wp2_with fail
  obtain ⟨W0, hW0⟩ : ∃ W, W = (w2.alloc (.cells #[.int .u64 e, .int .u64 g, .int .u64 x, .int .i64 0, .slice ps n cs, .slice pn m dn] 27)) := ⟨_, rfl⟩
  have bW0 : Below w2.heap.size w2 W0 := by rw [hW0]; exact (Below.refl _ _).alloc (Nat.le_refl _) _
  have hA6 : St6 W0 w2.heap.size e g x 0 (.slice ps n cs) (.slice pn m dn) := by rw [hW0]; simp [St6]
  obtain ⟨GB, hGB⟩ : ∃ G, G = w2.heap.size := ⟨_, rfl⟩
  rw [← hW0]
  rw [← hGB] at hA6 ⊢
  obtain ⟨v0, hv0⟩ : ∃ V, V = W0.drew := ⟨_, rfl⟩
  have BW0 : Hid (Below w.heap.size w v0) := by rw [hv0]; exact (Below.step b2 bW0).drew
  have S0 : Hid (St6 v0 GB e g x 0 (.slice ps n cs) (.slice pn m dn)) := by rw [hv0]; exact hA6
  have D0 : Hid (RdSc v0 (.slice ps n cs) sl ∧ RdN v0 (.slice pn m dn) nl) := by rw [hv0]; exact ⟨(unhide R2).1.below bW0.drew, (unhide R2).2.below bW0.drew⟩
  refine wp_region_noPanic ?_
  refine wp_region_held_drew (S := fun w' => St6 w' GB e g x 0 (.slice ps n cs) (.slice pn m dn)) (by kernel_rfl) (by rw [← hv0]; exact unhide S0) (fun hS => ?_)
  rw [← hv0] at hS ⊢
  clear hv0 hW0 bW0 hA6 hGB R2 b2
  refine tk 0 hS (h := ?_); simp only [Act.put, xa, xb, xc]
  refine tk 1 hS (h := ?_); simp only [Act.put, xa, xb, xc]
  refine tk 3 hS (h := ?_); simp only [Act.put, xa, xb, xc]
  refine tk 4 hS (h := ?_); simp only [Act.put, xa, xb, xc]
  refine tk 6 hS (h := ?_); simp only [Act.put, xa, xb, xc]
  refine tk 7 hS (h := ?_); simp only [Act.put, xa, xb, xc]
  refine tk 9 hS (h := ?_); simp only [Act.put, xa, xb, xc]
  refine tk 10 hS (h := ?_); simp only [Act.put, xa, xb, xc]
  refine tk 12 hS (h := ?_); simp only [Act.put, xa, xb, xc]
  refine tk 13 hS (h := ?_); simp only [Act.put, xa, xb, xc]
  refine ry [2] ?_
  refine cn (fun KK hK => ?_) ?_
  ·refine step_call1 (by rfl) 55 _ _ (by rfl) (.int .u64 e) (by rfl) (fun _ => (unhide HCF).2.1 _ _) (varintN e _ he N0 e0) ?_
   rintro z9 v1 ⟨pA, cA, rfl, oA, hb1⟩
   refine ⟨_, rfl, ?_⟩
   have S1 := hide ((unhide S0).below hb1)
   have BW1 := hide (Below.step (unhide BW0) hb1)
   have D1 := hide (And.intro ((unhide D0).1.below hb1) ((unhide D0).2.below hb1))
   have RA1 := hide oA.rd
   refine hK.out _ _ (by exact unhide S1) (fun hS => ?_)
   clear hK KK oA hb1
   (try simp only [Act.put, xa, xb, xc])
   refine ry [5] ?_
   refine cn (fun KK hK => ?_) ?_
   ·refine step_call1 (by rfl) 55 _ _ (by rfl) (.int .u64 g) (by rfl) (fun _ => (unhide HCF).2.1 _ _) (varintN g _ hg N1 e1) ?_
    rintro z9 v2 ⟨pB, cB, rfl, oB, hb2⟩
    refine ⟨_, rfl, ?_⟩
    have S2 := hide ((unhide S1).below hb2)
    have BW2 := hide (Below.step (unhide BW1) hb2)
    have D2 := hide (And.intro ((unhide D1).1.below hb2) ((unhide D1).2.below hb2))
    have RA2 := hide ((unhide RA1).below hb2)
    have RB2 := hide oB.rd
    refine hK.out _ _ (by exact unhide S2) (fun hS => ?_)
    clear hK KK oB hb2
    (try simp only [Act.put, xa, xb, xc])
    refine ry [8] ?_
    refine cn (fun KK hK => ?_) ?_
    ·refine step_call1 (by rfl) 55 _ _ (by rfl) (.int .u64 x) (by rfl) (fun _ => (unhide HCF).2.1 _ _) (varintN x _ hx N2 e2) ?_
     rintro z9 v3 ⟨pC, cC, rfl, oC, hb3⟩
     refine ⟨_, rfl, ?_⟩
     have S3 := hide ((unhide S2).below hb3)
     have BW3 := hide (Below.step (unhide BW2) hb3)
     have D3 := hide (And.intro ((unhide D2).1.below hb3) ((unhide D2).2.below hb3))
     have RA3 := hide ((unhide RA2).below hb3)
     have RB3 := hide ((unhide RB2).below hb3)
     have RC3 := hide oC.rd
     refine hK.out _ _ (by exact unhide S3) (fun hS => ?_)
     clear hK KK oC hb3
     (try simp only [Act.put, xa, xb, xc])
     refine ry [11] ?_
     refine cn (fun KK hK => ?_) ?_
     ·refine step_call2 (by rfl) 56 _ _ _ (by rfl) (.slice ps n cs) (.func (.func 57) #[] #[]) (by rfl) (by rfl) (fun _ => (unhide HCF).2.2.1 _ _) (listS_any ps cs n sl en2 _ (unhide D3).1 (by omega) HS2 N3 e3 hN3) ?_
      rintro z9 v4 ⟨pD, cD, rfl, oD, hb4⟩
      refine ⟨_, rfl, ?_⟩
      have S4 := hide ((unhide S3).below hb4)
      have BW4 := hide (Below.step (unhide BW3) hb4)
      have D4 := hide (And.intro ((unhide D3).1.below hb4) ((unhide D3).2.below hb4))
      have RA4 := hide ((unhide RA3).below hb4)
      have RB4 := hide ((unhide RB3).below hb4)
      have RC4 := hide ((unhide RC3).below hb4)
      have RD4 := hide oD.rd
      refine hK.out _ _ (by exact unhide S4) (fun hS => ?_)
      clear hK KK oD hb4
      (try simp only [Act.put, xa, xb, xc])
      refine ry [14] ?_
      refine cn (fun KK hK => ?_) ?_
      ·refine step_call2 (by rfl) 58 _ _ _ (by rfl) (.slice pn m dn) (.func (.func 59) #[] #[]) (by rfl) (by rfl) (fun _ => (unhide HCF).2.2.2 _ _) (listN_any pn dn m nl em2 _ (unhide D4).2 (by omega) sl HS1 N4 e4 hN4) ?_
       rintro z9 v5 ⟨pE, cE, rfl, oE, hb5⟩
       refine ⟨_, rfl, ?_⟩
       have S5 := hide ((unhide S4).below hb5)
       have BW5 := hide (Below.step (unhide BW4) hb5)
       have RA5 := hide ((unhide RA4).below hb5)
       have RB5 := hide ((unhide RB4).below hb5)
       have RC5 := hide ((unhide RC4).below hb5)
       have RD5 := hide ((unhide RD4).below hb5)
       have RE5 := hide oE.rd
       refine hK.out _ _ (by exact unhide S5) (fun hS => ?_)
       clear hK KK oE hb5
       (try simp only [Act.put, xa, xb, xc])
       refine ry [15] ?_
       refine cn (fun KK hK => ?_) ?_
       ·go_simp
        obtain ⟨Y, hY⟩ : ∃ Y, Y = v5.alloc (.cells #[.slice pA N0 cA, .slice pB N1 cB, .slice pC N2 cC, .slice pD N3 cD, .slice pE N4 cE] 22) := ⟨_, rfl⟩
        have hbY : Below v5.heap.size v5 Y := by rw [hY]; exact (Below.refl _ _).alloc (Nat.le_refl _) _
        have SY := hide ((unhide S5).below hbY)
        have JJ := hide (joinedF v5 _ _ _ _ _ _ _ _ _ _ _ L EE eL (unhide RA5) (unhide RB5) (unhide RC5) (unhide RD5) (unhide RE5) hL)
        rw [← hY] at JJ ⊢
        refine hK.out _ _ (by exact unhide SY) (fun hS => ?_)
        clear hK KK hY hbY
        (try simp only [Act.put, xa, xb, xc])
        refine ry [16] ?_
        refine cn (fun KK hK => ?_) ?_
        ·refine step_call1 (by rfl) 54 _ _ (by rfl) (.slice (some ⟨v5.heap.size, 0, none⟩) 5 5) (by rfl) (fun _ => (unhide HCF).1 _ _) (unhide JJ) ?_
         rintro z9 Z ⟨pj, cj, rfl, oj, hbj⟩
         refine ⟨_, rfl, ?_⟩
         have FI := hide (And.intro (Own.mono (B' := w.heap.size) oj (unhide BW5).size) (Below.step (unhide BW5) hbj))
         refine hK.out _ _ (by exact (unhide S5).below hbj) (fun hS => ?_)
         clear hK KK oj hbj
         (try simp only [Act.put, xa, xb, xc])
         refine tk 17 hS (h := ?_); simp only [Act.put, xa, xb, xc]
         refine wpAnyH_done (by kernel_rfl) ?_ _
         refine NoPanic.normal ?_
         clear hS
         go_wp2
         go_ret
         exact ⟨pj, cj, rfl, unhide FI⟩
        exact AllReadyH.nil
       exact AllReadyH.nil
      exact AllReadyH.nil
     exact AllReadyH.nil
    exact AllReadyH.nil
   exact AllReadyH.nil
  exact AllReadyH.nil
theorem blk_below {w w' : World} {b : Nat} {o : Obj} (h : w.heap[b]? = some o) (hb : Below w.heap.size w w') : w'.heap[b]? = some o := (hb.block b (Array.getElem?_eq_some_iff.1 h).1).trans h
theorem blk_new (w : World) (o : Obj) : (w.alloc o).heap[w.heap.size]? = some o := by unfold World.alloc; simp
theorem blk_grown {w w' : World} {B : Nat} {v : Value} {l : List Int} (ho : Own B w v l) (hg : w.grownBy w' v.ownBlock) : ∀ (b : Nat) (cs : Array Value) (t : TypeId), t ≠ 5 → w.heap[b]? = some (.cells cs t) → w'.heap[b]? = some (.cells cs t) := fun b cs t ht h => by
 refine (hg.block b (Array.getElem?_eq_some_iff.1 h).1 fun e => ?_).trans h
 rcases ho.2 with ⟨rfl, -⟩ | ⟨g, cap, cur, rfl, -, hh, -⟩
 ·simp [Value.ownBlock] at e
 ·simp only [Value.ownBlock, Option.some.injEq] at e
  subst e
  rw [h] at hh
  simp only [Option.some.injEq, Obj.cells.injEq] at hh
  exact ht hh.2.1
def KeptB (w w' : World) : Prop := ∀ (b : Nat) (cs : Array Value) (t : TypeId), t ≠ 5 → w.heap[b]? = some (.cells cs t) → w'.heap[b]? = some (.cells cs t)
theorem wpList_app {w0 w : World} {ops : Array Oper} {rest : List Oper} {o : Oper} {a : Act} {Q : Exit → Act → World → Prop} (hgd : o.guard = none) (s x : Operand)
  (ho : o.op = .call { callee := .builtin .append, args := #[s, x], argTypes := #[22, 22] })
  (hB : Hid (Below w0.heap.size w0 w)) (v : Value) (l m lm : List Int) (elm : Hid (lm = l ++ m)) (p : Option Addr) (c k : Nat) (hk : Hid (m.length = k)) (L : Nat) (eL : Hid (l.length = L)) (L' : Nat) (eL' : Hid (L' = L + k)) (hs : a.eval s = v) (hx : a.eval x = .slice p k c) (hown : Hid (Own w0.heap.size w v l)) (hr : Hid (Rd w (.slice p k c) m))
  (hl : L + k ≤ 4194304)
  (hK : ∀ p' c' w', Hid (Own w0.heap.size w' (.slice p' L' c') lm) → Hid (lm.length = L') → Hid (Below w0.heap.size w0 w') → Hid (KeptB w w') → wpList Tryz.prog ops Q rest (a.put o.dst (.slice p' L' c')) w') : wpList Tryz.prog ops Q (o :: rest) a w := by
 have e1 : lm.length = L' := by rw [unhide elm, List.length_append, unhide eL, unhide hk, unhide eL']
 refine wpList_append_rdn hgd s x ho w0.heap.size v l m lm elm p c k hk hs hx (unhide hown) (unhide hr) (by rw [unhide eL, unhide hk]; exact hl) (unhide hB).size ?_
 intro p' c' w' h1 h2
 rw [e1] at h1 ⊢
 exact hK p' c' w' h1 e1 (below_grown (unhide hB) h2 (unhide hown) (Nat.le_refl _) (unhide hB).size) (blk_grown (unhide hown) h2)
theorem wpList_appb {w0 u : World} {ops : Array Oper} {rest : List Oper} {o : Oper} {a : Act} {Q : Exit → Act → World → Prop} (hgd : o.guard = none) (s x : Operand)
  (ho : o.op = .call { callee := .builtin .append, args := #[s, x], argTypes := #[22, 22] })
  (hB : Hid (Below w0.heap.size w0 u)) (v : Value) (l lm : List Int) (y : Int) (elm : Hid (lm = l ++ [y])) (L : Nat) (eL : Hid (l.length = L)) (L' : Nat) (eL' : Hid (L' = L + 1)) (hs : a.eval s = v) (hx : a.eval x = .slice (some ⟨u.heap.size, 0, none⟩) 1 1) (hown : Hid (Own w0.heap.size u v l))
  (hl : L < 4194304)
  (hK : ∀ p' c' w', Hid (Own w0.heap.size w' (.slice p' L' c') lm) → Hid (lm.length = L') → Hid (Below w0.heap.size w0 w') → Hid (KeptB u w') → wpList Tryz.prog ops Q rest (a.put o.dst (.slice p' L' c')) w') : wpList Tryz.prog ops Q (o :: rest) a (u.alloc (.cells #[.int .u8 y] 5)) := by
 have e1 : lm.length = L' := by rw [unhide elm, List.length_append, unhide eL, unhide eL']; rfl
 have hb : Below u.heap.size u (u.alloc (.cells #[.int .u8 y] 5)) := (Below.refl _ _).alloc (Nat.le_refl _) _
 have ho2 := (unhide hown).below hb
 have hB2 := Below.step (unhide hB) hb
 refine wpList_append_byte hgd s x ho w0.heap.size v l lm y elm u.heap.size hs hx ho2 (by simp) (by rw [unhide eL]; exact hl) hB2.size ?_
 intro p' c' w' h1 h2
 rw [e1] at h1 ⊢
 exact hK p' c' w' h1 e1 (below_grown hB2 h2 ho2 (Nat.le_refl _) hB2.size) fun b cs t ht h => blk_grown ho2 h2 b cs t ht (blk_below h hb)
theorem St6.of_blk {w : World} {b : Nat} {e g x t : Int} {S N : Value} {ty : TypeId} (h : w.heap[b]? = some (.cells #[.int .u64 e, .int .u64 g, .int .u64 x, .int .i64 t, S, N] ty)) : St6 w b e g x t S N := ⟨cells_at h 0, cells_at h 1, cells_at h 2, cells_at h 3, cells_at h 4, cells_at h 5⟩
theorem At8.of_blk {w : World} {b : Nat} {v0 v1 v2 v3 v4 v5 v6 v7 : Value} {ty : TypeId} (h : w.heap[b]? = some (.cells #[v0, v1, v2, v3, v4, v5, v6, v7] ty)) : At8 w b v0 v1 v2 v3 v4 v5 v6 v7 := ⟨cells_at h 0, cells_at h 1, cells_at h 2, cells_at h 3, cells_at h 4, cells_at h 5, cells_at h 6, cells_at h 7⟩
theorem l3varN (v : Nat) (w : World) (h64 : v < 18446744073709551616) (M : Nat) (eM : Hid ((vi v).length = M)) :
  Calls Tryz.prog 79 #[.int .u64 v] w fun e w' => ∃ p' c', e = .returned (.slice p' M c') ∧ Own w.heap.size w' (.slice p' M c') (vi v) ∧ Below w.heap.size w w' := l3var_any 9 v w (by omega) h64 (by omega) M eM
end Go.Proofs.YtnbgnhhnpmmloaaGreatDoor
