import Derived.Test.YtipeflnkcjkoeaaJDr
import Derived.Test.YtipeflnkcjkoeaaJLRL
namespace Go.Proofs.Ytipeflnkcjkoeaa
open Go.ChangeShapes Go.WideShapes Go.ChangeAt Go.RowKit
set_option linter.unusedVariables false
set_option linter.unusedSimpArgs false

/-- a record whose length is too great, with its checksum -/
def badR : List Int := sm (le 1001 2 ++ List.replicate 1009 1)
theorem badR_length : badR.length = 1015 := by rw [badR, sm_length, List.length_append, le_length, List.length_replicate]
theorem badR_byt : Byt badR := sm_byt ((le_byt _ _).append (fun z hz => by have := List.eq_of_mem_replicate hz; omega))
/-- a round of the drawing of a log -/
def dlStep (cd : List Int) (x : Nat × Int × List Int) : Nat × Int × List Int :=
  (x.1 + 1 + (dB cd x.1).length + 1,
   (if cd.getD (x.1 + 1 + (dB cd x.1).length) 0 = 7 then ((x.2.1 + 1) % 18446744073709551616 + 1) % 18446744073709551616 else (x.2.1 + 1) % 18446744073709551616),
   (if cd.getD (x.1 + 1 + (dB cd x.1).length) 0 = 8 then x.2.2 ++ recB x.2.1 (dB cd x.1) ++ badR else x.2.2 ++ recB x.2.1 (dB cd x.1)))
def dlAt (cd : List Int) : Nat → Nat × Int × List Int
  | 0 => (2, dSeq (cd.getD 1 0), [])
  | n + 1 => dlStep cd (dlAt cd n)
theorem dlStep_eq {cd : List Int} {k T m : Nat} {Sq x : Int} {O bd : List Int} (h : dlAt cd k = (T, Sq, O)) (hb : dB cd T = bd) (hm : bd.length = m) (hx : cd.getD (T + 1 + m) 0 = x) : dlAt cd (k + 1) = (T + 1 + m + 1, (if x = 7 then ((Sq + 1) % 18446744073709551616 + 1) % 18446744073709551616 else (Sq + 1) % 18446744073709551616), (if x = 8 then O ++ recB Sq bd ++ badR else O ++ recB Sq bd)) := by
  simp only [dlAt, h, dlStep, hb, hm, hx]
theorem dlAt_inv {cd : List Int} (hb : Byt cd) (n : Nat) : (0 ≤ (dlAt cd n).2.1 ∧ (dlAt cd n).2.1 < 18446744073709551616) ∧ Byt (dlAt cd n).2.2 ∧ (dlAt cd n).2.2.length ≤ 1042 * n := by
  induction n with
  | zero => exact ⟨dSeq_range _ (getD_range cd hb 1).1, by intro z hz; simp [dlAt] at hz, by simp [dlAt]⟩
  | succ n ih =>
    obtain ⟨h1, h2, h3⟩ := ih
    have h4 := dB_le cd (dlAt cd n).1
    have h5 := dB_byt hb (dlAt cd n).1
    simp only [dlAt, dlStep]
    refine ⟨by split <;> omega, ?_, ?_⟩
    · split
      · exact (h2.append (recB_byt h5)).append badR_byt
      · exact h2.append (recB_byt h5)
    · split
      · rw [List.length_append, List.length_append, recB_length, badR_length]; omega
      · rw [List.length_append, recB_length]; omega

/-- what the drawing makes of its log at the end -/
theorem Rd.pre {w : World} {p : Option Addr} {c n : Nat} {l : List Int} (h : Rd w (.slice p n c) l) (en : l.length = n) (j : Nat) (hj : j ≤ n) : Rd w (.slice p j c) (l.take j) := by
  subst en
  obtain ⟨q, d, e, hh⟩ := h
  simp only [Value.slice.injEq] at e
  obtain ⟨rfl, -, rfl⟩ := e
  refine ⟨p, c, by rw [List.length_take, Nat.min_eq_left hj], ?_⟩
  rcases hh with rfl | ⟨b, o, rfl, hc⟩
  · left; simp
  · right
    refine ⟨b, o, rfl, fun i hi => ?_⟩
    rw [List.length_take] at hi
    rw [hc i (by omega)]
    simp [List.getD, List.getElem?_take, show i < j by omega]
def XX (a b : Int) : Int := bits BinOp.xor IntKind.u8 a (2 ^ b.toNat % 256)
/-- the end -/
def dEnd (O : List Int) (kf v : Int) : List Int :=
  if kf % 4 = 0 then O.take (v.toNat % O.length)
  else if kf % 4 = 1 then O.set (v.toNat % O.length) (XX (O.getD (v.toNat % O.length) 0) (kf / 4 % 8))
  else if kf % 8 = 2 then O ++ List.replicate (kf / 8).toNat (v % 256) else O
def dLog (cd : List Int) : List Int :=
  dEnd (dlAt cd (cd.getD 0 0 % 7).toNat).2.2 (cd.getD (dlAt cd (cd.getD 0 0 % 7).toNat).1 0) (cd.getD ((dlAt cd (cd.getD 0 0 % 7).toNat).1 + 1) 0 * 256 + 1 + cd.getD ((dlAt cd (cd.getD 0 0 % 7).toNat).1 + 1 + 1) 0)
theorem dLog_eq {cd : List Int} {k T : Nat} {x0 Sq kf y1 y2 v : Int} {O : List Int} (e0 : x0 = cd.getD 0 0) (en : x0 % 7 = k) (h : dlAt cd k = (T, Sq, O)) (e1 : cd.getD T 0 = kf) (e2 : cd.getD (T + 1) 0 = y1) (e3 : cd.getD (T + 1 + 1) 0 = y2) (ev : y1 * 256 + 1 + y2 = v) : dLog cd = dEnd O kf v := by
  have : (cd.getD 0 0 % 7).toNat = k := by rw [← e0]; omega
  rw [dLog, this, h]
  dsimp only
  rw [e1, e2, e3, ev]

set_option maxHeartbeats 2000000 in
theorem drawLog_any (p : Option Addr) (c : Nat) (code : List Int) (w : World) (h : Rd w (.slice p code.length c) code) (hB : Byt code) (hl : code.length ≤ 1048576) (hc : code.length ≤ c) (cd : List Int) (ecd : Hid (code.take 500 = cd)) (L : List Int) (eL : Hid (dLog cd = L)) :
    Calls Try.prog 33 #[.slice p code.length c] w fun e w' => ∃ p' c', e = .returned (.slice p' L.length c') ∧ Rd w' (.slice p' L.length c') L ∧ L.length ≤ c' ∧ c' ≤ maxLen ∧ ((p' = none ∧ c' = 0) ∨ ∃ b o, p' = some ⟨b, o, none⟩) ∧ Below w.heap.size w w' := by
  have hBt : Byt cd := by rw [← unhide ecd]; exact fun z hz => hB z (List.mem_of_mem_take hz)
  have hlt : cd.length ≤ 500 := by rw [← unhide ecd]; simp; omega
  go_enter Try.func33, Try.ntmps33
  go_wp2_with fail
  refine (l1open_any p c code _ hl hc).mono ?_
  rintro e w1 ⟨rfl, hw1⟩
  have b1 : Below w.heap.size w w1 := by rw [hw1]; exact (Below.refl _ _).alloc (Nat.le_refl _) _
  have z1 : w1.heap.size = w.heap.size + 1 := by rw [hw1]; simp
  have hR1 : Rdr w1 w.heap.size p (code.take 500) c 0 := opened (o := .cells #[] 0) h b1 w.heap.size (Nat.le_refl _) (by rw [hw1]; simp) (by rw [hw1]; simp) (by intro o; rw [hw1]; simp)
  rw [unhide ecd] at hR1
  clear hw1 h hB hl hc
  have hr0 := getD_range cd hBt 0
  go_wp2_with fail
  refine (next_any w.heap.size p cd c 0 _ hR1 hBt hlt).mono ?_
  rintro e w2 ⟨rfl, hR2, k2⟩
  have z2 := k2.size
  obtain ⟨x0, ex0⟩ : ∃ x0, x0 = cd.getD 0 0 := ⟨_, rfl⟩
  rw [← ex0] at hr0 ⊢
  have EX := hide ex0
  clear ex0
  obtain ⟨n, en⟩ : ∃ n : Nat, x0 % 7 = (n : Int) := ⟨(x0 % 7).toNat, by omega⟩
  have hn : n ≤ 6 := by omega
  go_wp2_with fail
  refine (drawSeq_any w.heap.size p cd c 1 _ hR2 hBt hlt).mono ?_
  rintro e w3 ⟨rfl, hR3, k3⟩
  have z3 := k3.size
  have K3 := k2.trans k3
  have hi0 := dlAt_inv hBt 0
  obtain ⟨q0, eq0⟩ : ∃ q0, q0 = dSeq (cd.getD 1 0) := ⟨_, rfl⟩
  rw [← eq0]
  have EQ := hide eq0
  clear eq0 hi0 hR2 k2 k3
  have HR1 := hide hR1
  clear hR1
  go_wp2
  go_loopw [5, 6, 7] (fun sv ov i wr => ∃ (k T N : Nat) (Sq : Int) (O : List Int) (pv : Option Addr) (cv : Nat), k ≤ n ∧ i = .int .i64 k ∧ sv = .int .u64 Sq ∧ ov = .slice pv N cv ∧ Hid (dlAt cd k = (T, Sq, O)) ∧ Hid (O.length = N) ∧ Own w1.heap.size wr (.slice pv N cv) O ∧ Rdr wr w.heap.size p cd c T ∧ Kept [blk w.heap.size] w1 wr) (fun _ _ i _ => n - (intOf i).toNat)
  case atStart => exact ⟨0, 2, 0, q0, [], none, 0, Nat.zero_le _, rfl, rfl, rfl, by show _ = _; rw [unhide EQ]; rfl, rfl, World.ownsRow_nil _ _ _ _, hR3, K3⟩
  case round =>
    obtain ⟨k, T, N, Sq, O, pv, cv, hk, rfl, rfl, rfl, eD, eN, ho, hR, hK⟩ := hrel
    have hI := dlAt_inv hBt k
    rw [unhide eD] at hI
    obtain ⟨⟨hs0, hs1⟩, hOB, hOl⟩ := hI
    dsimp only at hs0 hs1 hOB hOl
    rw [unhide eN] at hOl
    have HOB := hide hOB
    clear hOB hR3 K3
    have hzk := hK.size
    by_cases hlt2 : k < n
    · go_wp2_with fail
      refine (drawBytes_any w.heap.size p cd c T _ hR hBt hlt).mono ?_
      rintro e w4 ⟨p4, c4, rfl, o4, hR4, k4⟩
      obtain ⟨bd, ebd⟩ : ∃ bd, dB cd T = bd := ⟨_, rfl⟩
      obtain ⟨m, em⟩ : ∃ m, bd.length = m := ⟨_, rfl⟩
      have hm13 : m ≤ 13 := by rw [← em, ← ebd]; exact dB_le _ _
      have hbB : Byt bd := by rw [← ebd]; exact dB_byt hBt T
      rw [ebd, em] at o4 hR4 ⊢
      have EBD := hide ebd
      have EM := hide em
      have HBB := hide hbB
      have ho4 := Own.keptBlk ho k4 (by omega)
      have K4 := hK.trans k4
      have z4 := k4.size
      clear ebd em hbB ho hR hK k4
      go_wp2_with fail
      refine (specEncRec Sq p4 c4 m bd EM _ o4.rd (unhide HBB) (by omega) hs0 hs1).mono ?_
      rintro e w5 ⟨p5, c5, rfl, o5, hb5⟩
      have ho5 := Own.below ho4 hb5
      have hR5 := hR4.below hb5
      have K5 := K4.trans (Kept.of_below hb5)
      have z5 := hb5.size
      have r5 := o5.rd
      have el6 : (O ++ recB Sq bd).length = N + (m + 14) := by rw [List.length_append, unhide eN, recB_length, unhide EM]
      clear o4 o5 ho4 hR4 K4 hb5
      go_wp2_with (at_builtin; refine wpList_append_rdn rfl _ _ rfl w1.heap.size (.slice pv N cv) O (recB Sq bd) (O ++ recB Sq bd) (by show _ = _; rfl) p5 c5 (m + 14) (by show _ = _; rw [recB_length, unhide EM]) rfl rfl ho5 r5 (by rw [unhide eN, recB_length, unhide EM]; omega) (by omega) ?_)
      intro p6 c6 w6 ho6 hg6
      try rw [el6] at ho6 ⊢
      have K6 := K5.grown hg6 (fun b e => (ho5.lt b e).1)
      have hR6 : Rdr w6 w.heap.size p cd c (T + 1 + m) := (unhide HR1).again K6 hR5 (hg6.block _ (by omega) (fun e => by have := (ho5.lt _ e.symm).1; omega))
      have z6 := hg6.size
      have EL6 := hide el6
      clear el6 hg6 ho5 hR5 K5 r5
      go_wp2_with fail
      refine (next_any w.heap.size p cd c (T + 1 + m) _ hR6 hBt hlt).mono ?_
      rintro e w7 ⟨rfl, hR7, k7⟩
      have hx7 := getD_range cd hBt (T + 1 + m)
      obtain ⟨x7, ex7⟩ : ∃ x7, cd.getD (T + 1 + m) 0 = x7 := ⟨_, rfl⟩
      rw [ex7] at hx7 ⊢
      have hst := dlStep_eq (unhide eD) (unhide EBD) (unhide EM) ex7
      have HST := hide hst
      have ho7 := Own.keptBlk ho6 k7 (by omega)
      have K7 := K6.trans k7
      have z7 := k7.size
      have t7 := ho7.btw
      clear ex7 hst ho6 hR6 K6 k7
      by_cases h7 : x7 = 7
      · have h7' : (x7 == 7) = true := by simp [h7]
        have h8' : (x7 == 8) = false := by simp [h7]
        have HD : Hid (dlAt cd (k + 1) = (T + 1 + m + 1, ((Sq + 1) % 18446744073709551616 + 1) % 18446744073709551616, O ++ recB Sq bd)) := by show _ = _; rw [unhide HST, if_pos h7, if_neg (by omega)]
        clear h7 HST
        go_wp2
        go_roundw
        case rel => exact ⟨k + 1, T + 1 + m + 1, N + (m + 14), _, O ++ recB Sq bd, p6, c6, by omega, by go_num, by first | rfl | (rw [IntKind.wrap_u64, IntKind.wrap_u64]), rfl, HD, EL6, by rw [z1]; exact ho7, hR7, K7⟩
        case measure => simp [intOf]; omega
      · have h7' : (x7 == 7) = false := by simp [h7]
        by_cases h8 : x7 = 8
        · have h8' : (x7 == 8) = true := by simp [h8]
          have HD : Hid (dlAt cd (k + 1) = (T + 1 + m + 1, (Sq + 1) % 18446744073709551616, O ++ recB Sq bd ++ badR)) := by show _ = _; rw [unhide HST, if_neg h7, if_pos h8]
          clear h7 h8 HST
          go_wp2_with fail
          refine (little_any 2 1001 _ (by omega) (by omega) (by omega)).mono ?_
          rintro e w8 ⟨p8, c8, rfl, o8, hb8⟩
          have ho8 := Own.below ho7 hb8
          have hR8 := hR7.below hb8
          have K8 := K7.trans (Kept.of_below hb8)
          have z8 := hb8.size
          clear ho7 hR7 K7 hb8
          go_wp2_with fail
          refine (l1fill_any 1 1009 _ (by omega)).mono ?_
          rintro e w9 ⟨p9, c9, rfl, o9, hb9⟩
          have ho9 := Own.below ho8 hb9
          have hR9 := hR8.below hb9
          have K9 := K8.trans (Kept.of_below hb9)
          have q8 := Own.below o8 hb9
          have r9 := o9.rd
          have z9 := hb9.size
          clear ho8 hR8 K8 hb9 o8 o9
          have lr : (List.replicate 1009 (1 : Int)).length = 1009 := List.length_replicate
          have LR := hide lr
          have el10 : (le 1001 2 ++ List.replicate 1009 (1 : Int)).length = 1011 := by rw [List.length_append, le_length, lr]
          have EL10 := hide el10
          clear lr el10
          generalize hrp : List.replicate 1009 (1 : Int) = rp at *
          go_wp2_with (at_builtin; refine wpList_append_rdn rfl _ _ rfl w7.heap.size (.slice p8 2 c8) (le 1001 2) rp (le 1001 2 ++ rp) (by show _ = _; rfl) p9 c9 1009 LR rfl rfl q8 r9 (by rw [le_length, unhide LR]; omega) (by omega) ?_)
          intro p10 c10 w10 o10 hg10
          rw [le_length, unhide LR] at o10 ⊢
          have K10 := K9.grown hg10 (fun b e => by have := (q8.lt b e).1; omega)
          have hR10 : Rdr w10 w.heap.size p cd c (T + 1 + m + 1) := (unhide HR1).again K10 hR9 (hg10.block _ (by omega) (fun e => by have := (q8.lt _ e.symm).1; omega))
          have ho10 : Own w1.heap.size w10 (.slice p6 (N + (m + 14)) c6) (O ++ recB Sq bd) := by
            rw [z1]
            refine Own.keptBy (vs := [.slice p8 2 c8]) ho9 (Kept.of_grown hg10 (by simp)) ?_
            intro y hy b e1 e2
            simp only [List.mem_singleton] at hy
            subst hy
            have := (q8.lt b e2).1
            have := (t7 b e1).2
            omega
          have z10 := hg10.size
          have hbr : Byt (le 1001 2 ++ rp) := (le_byt _ _).append (fun z hz => by rw [← hrp] at hz; have := List.eq_of_mem_replicate hz; omega)
          have hbad : badR = sm (le 1001 2 ++ rp) := by rw [← hrp]; rfl
          have HBR := hide (And.intro hbr hbad)
          clear hg10 K9 hR9 ho9 q8 r9 hbr hbad hrp
          have LS : Hid ((le 1001 2 ++ rp).length = 2 + 1009) := by show _ = _; rw [List.length_append, le_length, unhide LR]
          go_wp2_with fail
          refine (summed_any p10 c10 _ (le 1001 2 ++ rp) LS _ o10.rd (unhide HBR).1 (by omega)).mono ?_
          rintro e w11 ⟨p11, c11, rfl, o11, hb11⟩
          rw [← (unhide HBR).2] at o11
          have ho11 := Own.below ho10 hb11
          have hR11 := hR10.below hb11
          have K11 := K10.trans (Kept.of_below hb11)
          have r11 := o11.rd
          have z11 := hb11.size
          have el12 : (O ++ recB Sq bd ++ badR).length = N + (m + 14) + 1015 := by rw [List.length_append, unhide EL6, badR_length]
          have EL12 := hide el12
          clear ho10 hR10 K10 hb11 o11 o10 el12
          go_wp2_with (at_builtin; refine wpList_append_rdn rfl _ _ rfl w1.heap.size (.slice p6 (N + (m + 14)) c6) (O ++ recB Sq bd) badR (O ++ recB Sq bd ++ badR) (by show _ = _; rfl) p11 c11 _ (by show _ = _; exact badR_length) rfl rfl ho11 r11 (by rw [unhide EL6, badR_length]; omega) (by omega) ?_)
          intro p12 c12 w12 ho12 hg12
          have K12 := K11.grown hg12 (fun b e => (ho11.lt b e).1)
          have hR12 : Rdr w12 w.heap.size p cd c (T + 1 + m + 1) := (unhide HR1).again K12 hR11 (hg12.block _ (by omega) (fun e => by have := (ho11.lt _ e.symm).1; omega))
          have e12 : O.length + ((recB Sq bd).length + badR.length) = N + (m + 14) + 1015 := by rw [unhide eN, recB_length, unhide EM, badR_length]; omega
          rw [e12] at ho12 ⊢
          clear e12 hg12 K11 hR11 ho11 r11 t7 LS HBR EL10 LR
          go_wp2
          go_roundw
          case rel => exact ⟨k + 1, T + 1 + m + 1, N + (m + 14) + 1015, _, O ++ recB Sq bd ++ badR, p12, c12, by omega, by go_num, by first | rfl | (rw [IntKind.wrap_u64]), rfl, HD, EL12, by rw [z1, List.append_assoc]; exact ho12, hR12, K12⟩
          case measure => simp [intOf]; omega
        · have h8' : (x7 == 8) = false := by simp [h8]
          have HD : Hid (dlAt cd (k + 1) = (T + 1 + m + 1, (Sq + 1) % 18446744073709551616, O ++ recB Sq bd)) := by show _ = _; rw [unhide HST, if_neg h7, if_neg h8]
          clear h7 h8 HST
          go_wp2
          go_roundw
          case rel => exact ⟨k + 1, T + 1 + m + 1, N + (m + 14), _, O ++ recB Sq bd, p6, c6, by omega, by go_num, by first | rfl | (rw [IntKind.wrap_u64]), rfl, HD, EL6, by rw [z1]; exact ho7, hR7, K7⟩
          case measure => simp [intOf]; omega
    · have ekn : k = n := by omega
      subst ekn
      go_wp2_with fail
      refine (next_any w.heap.size p cd c T _ hR hBt hlt).mono ?_
      rintro e w4 ⟨rfl, hR4, k4⟩
      have hxf := getD_range cd hBt T
      obtain ⟨kf, ekf⟩ : ∃ kf, cd.getD T 0 = kf := ⟨_, rfl⟩
      rw [ekf] at hxf ⊢
      have EKF := hide ekf
      have ho4 := Own.keptBlk ho k4 (by omega)
      have K4 := hK.trans k4
      have z4 := k4.size
      clear ekf ho hR hK k4
      go_wp2_with fail
      refine (next_any w.heap.size p cd c (T + 1) _ hR4 hBt hlt).mono ?_
      rintro e w5 ⟨rfl, hR5, k5⟩
      have hy1 := getD_range cd hBt (T + 1)
      obtain ⟨y1, ey1⟩ : ∃ y1, cd.getD (T + 1) 0 = y1 := ⟨_, rfl⟩
      rw [ey1] at hy1 ⊢
      have EY1 := hide ey1
      have ho5 := Own.keptBlk ho4 k5 (by omega)
      have K5 := K4.trans k5
      have z5 := k5.size
      clear ey1 ho4 hR4 K4 k5
      go_wp2_with fail
      refine (next_any w.heap.size p cd c (T + 1 + 1) _ hR5 hBt hlt).mono ?_
      rintro e w6 ⟨rfl, hR6, k6⟩
      have hy2 := getD_range cd hBt (T + 1 + 1)
      obtain ⟨y2, ey2⟩ : ∃ y2, cd.getD (T + 1 + 1) 0 = y2 := ⟨_, rfl⟩
      rw [ey2] at hy2 ⊢
      have EY2 := hide ey2
      have ho6 := Own.keptBlk ho5 k6 (by omega)
      have K6 := K5.trans k6
      have z6 := k6.size
      clear ey2 ho5 hR5 K5 k6 hR6
      have b6 : Below w.heap.size w w6 := b1.trans (K6.below (by omega) (by intro v hv b e; simp only [List.mem_singleton] at hv; subst hv; simp [blk_own] at e; omega))
      obtain ⟨v, ev⟩ : ∃ v : Int, y1 * 256 + 1 + y2 = v := ⟨_, rfl⟩
      have hv0 : 0 ≤ v := by omega
      have hv1 : v < 100000 := by omega
      have EV := hide ev
      have hNs : N ≤ 6252 := by omega
      have HL : Hid (dEnd O kf v = L) := by show _ = _; rw [← unhide eL]; exact (dLog_eq (unhide EX) en (unhide eD) (unhide EKF) (unhide EY1) (unhide EY2) ev).symm
      have hcN := ho6.cap
      have hcM := ho6.capMax
      have hcA := ho6.addr
      have HC := hide hcM
      have HA := hide hcA
      clear hcM hcA
      by_cases q2 : kf % 8 = 2
      · obtain ⟨F, eF⟩ : ∃ F : Nat, kf / 8 = (F : Int) := ⟨(kf / 8).toNat, by omega⟩
        have hF : F ≤ 31 := by omega
        have eLO : L = O ++ List.replicate F (v % 256) := by rw [← unhide HL, dEnd, if_neg (by omega), if_neg (by omega), if_pos q2, eF]; rfl
        have ELO := hide eLO
        have h0 : ((kf % 8) == 2) = true := by simp [q2]
        have h1 : ((kf % 4) == 0) = false := by simp; omega
        have h2 : ((kf % 4) == 1) = false := by simp; omega
        clear eLO ev
        have t6 := ho6.btw
        rcases Nat.eq_zero_or_pos N with rfl | hN0
        all_goals (
        go_wp2_with fail
        refine (l1fill_any _ F _ (by omega)).mono ?_
        rintro e w7 ⟨p7, c7, rfl, o7, hb7⟩
        rw [unhide EV] at o7
        have ho7 := Own.below ho6 hb7
        have b7 := Below.step b6 hb7
        have r7 := o7.rd
        have z7 := hb7.size
        have elr : (List.replicate F (v % 256)).length = F := List.length_replicate
        have ELR := hide elr
        clear ho6 o7 hb7 elr
        generalize hrp : List.replicate F (v % 256) = rp at *
        have HRP := hide hrp
        clear hrp
        go_wp2_with (at_builtin; refine wpList_append_rdn rfl _ _ rfl w1.heap.size (.slice pv _ cv) O rp (O ++ rp) (by show _ = _; rfl) p7 c7 F ELR rfl rfl ho7 r7 (by rw [unhide eN, unhide ELR]; omega) (by omega) ?_)
        intro p8 c8 w8 ho8 hg8
        have b8 : Below w.heap.size w w8 := below_grown b7 hg8 ho7 (by omega) (by omega)
        have eo8 : O.length + rp.length = L.length := by rw [unhide ELO, List.length_append]
        rw [eo8] at ho8 ⊢
        clear ho7 r7 hg8 b7 eo8
        go_wp2
        go_ret
        refine ⟨p8, c8, rfl, ?_, ho8.cap, ho8.capMax, ho8.addr, b8⟩
        rw [unhide ELO] at ho8 ⊢
        exact ho8.rd)
      · by_cases hN0 : N = 0
        · have hO0 : O = [] := List.eq_nil_of_length_eq_zero ((unhide eN).trans hN0)
          have eLO : L = O := by
            rw [← unhide HL, hO0, dEnd, List.take_nil, List.set_nil, if_neg q2]
            simp
          have ELO := hide eLO
          clear ev eLO hO0
          subst hN0
          have h0 : ((kf % 8) == 2) = false := by simp [q2]
          go_wp2
          go_ret
          refine ⟨pv, cv, by rw [unhide ELO, unhide eN]; rfl, ?_, by rw [unhide ELO, unhide eN]; exact hcN, unhide HC, unhide HA, b6⟩
          rw [unhide ELO, unhide eN]; exact ho6.rd
        · obtain ⟨J, eJ⟩ : ∃ J : Nat, (y1 * 256 + 1 + y2) % (N : Int) = (J : Int) := ⟨((y1 * 256 + 1 + y2) % (N : Int)).toNat, by have := Int.emod_nonneg (y1 * 256 + 1 + y2) (show (N : Int) ≠ 0 by omega); omega⟩
          have hJ : J < N := by have := Int.emod_lt_of_pos (y1 * 256 + 1 + y2) (show (0 : Int) < N by omega); omega
          have eJ2 : v.toNat % O.length = J := by
            rw [unhide eN]
            have h := eJ
            rw [ev] at h
            have h3 : ((v.toNat % N : Nat) : Int) = (J : Int) := by rw [Int.natCast_emod, Int.toNat_of_nonneg hv0]; exact h
            exact_mod_cast h3
          have EJ2 := hide eJ2
          clear eJ2 ev
          by_cases q0 : kf % 4 = 0
          · have eLO : L = O.take J := by rw [← unhide HL, dEnd, if_pos q0, unhide EJ2]
            have ELO := hide eLO
            have elJ : L.length = J := by rw [eLO, List.length_take, unhide eN]; omega
            have ELJ := hide elJ
            clear eLO elJ
            have hJc : (J : Int) ≤ (cv : Int) := by omega
            have hmx : max (J : Int) 0 = (J : Int) := by omega
            by_cases hJ0 : J = 0
            all_goals (
            go_wp2
            go_ret
            refine ⟨pv, cv, by rw [unhide ELJ]; first | rfl | (rw [hJ0]; rfl), ?_, by rw [unhide ELJ]; omega, unhide HC, unhide HA, b6⟩
            rw [unhide ELJ, unhide ELO]; exact Rd.pre ho6.rd (unhide eN) J (by omega))
          · by_cases q1 : kf % 4 = 1
            · obtain ⟨g, rfl⟩ : ∃ g, pv = some ⟨g, 0, none⟩ := by
                rcases ho6.2 with ⟨e, h0⟩ | ⟨g, cap, cur, e, _⟩
                · simp at e; omega
                · simp at e; exact ⟨g, e.1⟩
              have ho6 : w6.ownsRow w1.heap.size 5 1 (.slice (some ⟨g, 0, none⟩) N cv) N (U O) := by have h := ho6; unfold Own at h; rw [unhide eN] at h; exact h
              have hfz := ho6.frozenAt J
              have hcu : w6.cell? ⟨g, J, none⟩ = some (.int .u8 (O.getD J 0)) := by
                rw [ho6.cellAt J (by omega)]
                simp [List.getD, List.getElem?_eq_getElem (show J < O.length by rw [unhide eN]; exact hJ)]
              obtain ⟨a, ea⟩ : ∃ a, O.getD J 0 = a := ⟨_, rfl⟩
              rw [ea] at hcu
              have hst := ho6.stored J (.int .u8 (bits BinOp.xor IntKind.u8 a (2 ^ (kf / 4 % 8).toNat % 256)))
              have eLO : L = O.set J (bits BinOp.xor IntKind.u8 a (2 ^ (kf / 4 % 8).toNat % 256)) := by rw [← unhide HL, dEnd, if_neg q0, if_pos q1, unhide EJ2, XX, ea]
              have eU : (U O).set J (.int .u8 (bits BinOp.xor IntKind.u8 a (2 ^ (kf / 4 % 8).toNat % 256))) = U L := by rw [eLO]; simp [U, List.map_set]
              rw [eU] at hst
              have eLN : L.length = N := by rw [eLO, List.length_set, unhide eN]
              have hoL : Own w1.heap.size (w6.setCell ⟨g, J, none⟩ (.int .u8 (bits BinOp.xor IntKind.u8 a (2 ^ (kf / 4 % 8).toNat % 256)))) (.slice (some ⟨g, 0, none⟩) N cv) L := by unfold Own; rw [eLN]; simpa using hst.1
              have bL : Below w.heap.size w (w6.setCell ⟨g, J, none⟩ (.int .u8 (bits BinOp.xor IntKind.u8 a (2 ^ (kf / 4 % 8).toNat % 256)))) := b6.grown (by simpa using hst.2) (by omega) (fun k hk => by have := (World.ownsRow.lt ho6 k hk).1; omega)
              have HO := hide (And.intro hoL (And.intro bL eLN))
              clear ho6 hst eLO eU eLN hoL bL ea
              go_wp2
              go_ret
              have hX := unhide HO
              refine ⟨some ⟨g, 0, none⟩, cv, by rw [hX.2.2]; rfl, ?_, by rw [hX.2.2]; omega, unhide HC, .inr ⟨g, 0, rfl⟩, hX.2.1⟩
              rw [hX.2.2]
              exact hX.1.rd
            · · have eLO : L = O := by rw [← unhide HL, dEnd, if_neg q0, if_neg q1, if_neg q2]
                have ELO := hide eLO
                clear eLO
                have h0 : ((kf % 8) == 2) = false := by simp [q2]
                have h1 : ((kf % 4) == 0) = false := by simp [q0]
                have h2 : ((kf % 4) == 1) = false := by simp [q1]
                go_wp2
                go_ret
                refine ⟨pv, cv, by rw [unhide ELO, unhide eN]; rfl, ?_, by rw [unhide ELO, unhide eN]; exact hcN, unhide HC, unhide HA, b6⟩
                rw [unhide ELO, unhide eN]; exact ho6.rd
end Go.Proofs.Ytipeflnkcjkoeaa
