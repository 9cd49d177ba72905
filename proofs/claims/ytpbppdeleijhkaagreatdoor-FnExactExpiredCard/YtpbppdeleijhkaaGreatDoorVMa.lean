import Derived.Test.YtpbppdeleijhkaaGreatDoorVM9
namespace Go.Proofs.YtpbppdeleijhkaaGreatDoor
open Go.ChangeShapes Go.WideShapes Go.ChangeAt Go.RowKit Go.Maps
set_option linter.unusedVariables false
set_option linter.unusedSimpArgs false
set_option maxRecDepth 100000

set_option maxHeartbeats 1600000 in
theorem implVS (e g x t : Int) (p q : Option Addr) (c n d m : Nat) (ss : List Ses) (ns : List Nod) (en : Hid (ss.length = n)) (em : Hid (ns.length = m)) (w : World) (h : RdSc w (.slice p n c) ss) (hN : RdN w (.slice q m d) ns) (hn : n ≤ 1048576) (hm : m ≤ 1048576)
    (hbs : Hid (∀ s ∈ ss, s.2.2.length ≤ 1048576 ∧ ∀ e ∈ s.2.2, Byt e.2 ∧ e.2.length ≤ 1048576))
    (hby : Hid (∀ nd ∈ ns, Byt nd.path ∧ nd.path.length ≤ 1048576 ∧ nd.value.length ≤ 1048576 ∧ nd.holders.length ≤ 1048576 ∧ nd.watchers.length ≤ 1048576))
    (hnu : Hid (∀ nd ∈ ns, (∀ i ∈ nd.holders, 0 ≤ i ∧ i < 18446744073709551616) ∧ ∀ i ∈ nd.watchers, 0 ≤ i ∧ i < 18446744073709551616))
    (hou : Hid (∀ nd ∈ ns, 0 ≤ nd.owner ∧ nd.owner < 18446744073709551616)) (hML : ML w) (B : Bool) (eB : Hid (stOK e g x t ss ns = B)) :
    Calls Tryz.prog 64 #[stV e g x t (.slice p n c) (.slice q m d)] w fun r w' => r = .returned (.bool B) ∧ Below w.heap.size w w' := by
  have HR := hide fun (w' : World) (hb : Below w.heap.size w w') => And.intro (h.below hb) (And.intro (hN.below hb) (hML.below hb))
  clear h hN hML
  have HI : Hid (B = true ↔ limOK e g x t n m = true ∧ sesAll x ss = true ∧ nodAll e g ns = true ∧ ns.all (fun nd => canPar ns (parL nd.path)) = true ∧ ∀ nd ∈ ns, ∀ i, Named nd i → live ss i = true) := by
    show _ ↔ _
    rw [← unhide eB, stOK_iff, unhide en, unhide em]
  clear eB
  obtain ⟨T1, E1⟩ : ∃ T, Hid (limOK e g x t n m = T) := ⟨_, (by show _ = _; rfl)⟩
  obtain ⟨T2, E2⟩ : ∃ T, Hid (sesAll x ss = T) := ⟨_, (by show _ = _; rfl)⟩
  obtain ⟨T3, E3⟩ : ∃ T, Hid (nodAll e g ns = T) := ⟨_, (by show _ = _; rfl)⟩
  obtain ⟨T4, E4⟩ : ∃ T, Hid (ns.all (fun nd => canPar ns (parL nd.path)) = T) := ⟨_, (by show _ = _; rfl)⟩
  obtain ⟨W, hW⟩ : ∃ W, W = (w.alloc (.cells #[.int .u64 e, .int .u64 g, .int .u64 x, .int .i64 t, .slice p n c, .slice q m d] 27)) := ⟨_, rfl⟩
  have bW : Below w.heap.size w W := by rw [hW]; exact (Below.refl _ _).alloc (Nat.le_refl _) _
  have hc6 : St6 W w.heap.size e g x t (.slice p n c) (.slice q m d) := by rw [hW]; simp [St6]
  have HC6 := hide hc6
  go_enter Tryz.func64, Tryz.ntmps64
  go_wp2_with fail
  rw [← hW]
  clear hW hc6
  refine (limits_any e g x t p q c n d m _ hn hm T1 E1).mono ?_
  rintro r w1 ⟨rfl, hb1⟩
  have b1 := Below.step bW hb1
  cases T1 with
  | false =>
    have eF : B = false := by rw [Bool.eq_false_iff]; intro hB; have := ((unhide HI).1 hB).1; rw [unhide E1] at this; cases this
    subst eF
    go_wp2
    go_ret
    exact ⟨rfl, b1⟩
  | true =>
    obtain ⟨i0, i1, i2, i3, i4, i5⟩ := (unhide HC6).below hb1
    go_wp2_with fail
    refine (validSessions_any e g x t p c n _ ss en _ (unhide HR _ b1).1 hn hbs (unhide HR _ b1).2.2 T2 E2).mono ?_
    rintro r w2 ⟨rfl, hb2⟩
    have b2 := Below.step b1 hb2
    cases T2 with
    | false =>
      have eF : B = false := by rw [Bool.eq_false_iff]; intro hB; have := ((unhide HI).1 hB).2.1; rw [unhide E2] at this; cases this
      subst eF
      clear i0 i1 i2 i3 i4 i5
      go_wp2
      go_ret
      exact ⟨rfl, b2⟩
    | true =>
      replace i0 := cell_below i0 hb2
      replace i1 := cell_below i1 hb2
      replace i2 := cell_below i2 hb2
      replace i3 := cell_below i3 hb2
      replace i4 := cell_below i4 hb2
      replace i5 := cell_below i5 hb2
      go_wp2_with fail
      refine (validNodes_any e g x t _ q d m ns em _ (unhide HR _ b2).2.1 hm hby (unhide HR _ b2).2.2 T3 E3).mono ?_
      rintro r w3 ⟨rfl, hb3⟩
      have b3 := Below.step b2 hb3
      cases T3 with
      | false =>
        have eF : B = false := by rw [Bool.eq_false_iff]; intro hB; have := ((unhide HI).1 hB).2.2.1; rw [unhide E3] at this; cases this
        subst eF
        clear i0 i1 i2 i3 i4 i5
        go_wp2
        go_ret
        exact ⟨rfl, b3⟩
      | true =>
        replace i0 := cell_below i0 hb3
        replace i1 := cell_below i1 hb3
        replace i2 := cell_below i2 hb3
        replace i3 := cell_below i3 hb3
        replace i4 := cell_below i4 hb3
        replace i5 := cell_below i5 hb3
        have hx : x ≤ 4611686018427387904 := by have := unhide E1; simp only [limOK, decide_eq_true_eq] at this; exact this.2.2.1
        have H1 := hide (ses_u64 (unhide E2) hx)
        have H2 := hide (ses_apart (unhide E2))
        have H3 := hide (nod_apart (unhide E3))
        clear hx
        go_wp2_with fail
        refine (storeOf_any e g x t p q c n d m ss ns en em _ (unhide HR _ b3).1 (unhide HR _ b3).2.1 hn hm H1 H2 hby hnu H3).mono ?_
        rintro r w4 ⟨b, bs, bn, SB, NB, HB, UB, rfl, hst, hb4⟩
        have b4 := Below.step b3 hb4
        have HST := hide hst
        clear hst hb4 i0 i1 i2 i3 i4 i5
        go_wp2_with fail
        refine (hasAll_any _ HST (fun nd hnd => ⟨(unhide hby nd hnd).1, (unhide hby nd hnd).2.1⟩) T4 E4).mono ?_
        rintro r w5 ⟨rfl, hb5⟩
        have b5 := Below.step b4 hb5
        cases T4 with
        | false =>
          have eF : B = false := by rw [Bool.eq_false_iff]; intro hB; have := ((unhide HI).1 hB).2.2.2.1; rw [unhide E4] at this; cases this
          subst eF
          go_wp2
          go_ret
          exact ⟨rfl, b5⟩
        | true =>
          have HST5 := hide ((unhide HST).below hb5)
          go_wp2_with fail
          refine (strangers_any _ HST5 (fun nd hnd => ⟨(unhide hby nd hnd).1, (unhide hby nd hnd).2.2.2⟩) hou m em hm n en).mono ?_
          rintro r w6 ⟨nb, k, D, s, rfl, oD, sD, hs, hb6⟩
          have b6 := Below.step b5 hb6
          have hlen : ∀ ty, (Builtin.len_ #[135] ty #[.map (some nb)]).run Tryz.prog w6 = .ok (.int .i64 (Maps.size D)) w6 := fun ty => oD.len Tryz.underlying135 ty
          have hsz : Maps.size D = 0 ↔ s = [] := sD.size0 oD.isMap (fun es ee p hp => by
            obtain ⟨es', e', _, hk⟩ := oD.entries keyU
            rw [ee] at e'
            cases e'
            exact hk p hp)
          have hB : B = true ↔ s = [] := by
            rw [unhide HI]
            constructor
            · rintro ⟨_, _, _, _, h5⟩
              apply List.eq_nil_iff_forall_not_mem.2
              intro i hi
              obtain ⟨⟨nd, hnd, hN⟩, hno⟩ := (hs i).1 hi
              exact hno ((live_iff ss i).1 (h5 nd hnd i hN))
            · intro hs0
              refine ⟨unhide E1, unhide E2, unhide E3, unhide E4, fun nd hnd i hN => ?_⟩
              rw [live_iff]
              by_cases hh : ∃ z ∈ ss, z.1 = i
              · exact hh
              · have := (hs i).2 ⟨⟨nd, hnd, hN⟩, hh⟩
                rw [hs0] at this
                cases this
          have hb : ((Maps.size D : Int) == 0) = B := by
            rw [Bool.eq_iff_iff, hB, ← hsz]
            simp
          clear hsz hB sD oD hs hb6
          go_wp2
          go_ret
          exact ⟨rfl, b6⟩
end Go.Proofs.YtpbppdeleijhkaaGreatDoor
