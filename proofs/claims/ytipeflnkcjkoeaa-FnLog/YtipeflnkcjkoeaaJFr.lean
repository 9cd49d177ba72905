import Derived.Test.YtipeflnkcjkoeaaJDS
import Derived.Test.YtipeflnkcjkoeaaJER
import Derived.Test.YtipeflnkcjkoeaaJRm
import Derived.Deep.DeepCutAuto
namespace Go.Proofs.Ytipeflnkcjkoeaa
open Go.ChangeShapes Go.WideShapes Go.ChangeAt Go.RowKit
set_option linter.unusedVariables false
set_option linter.unusedSimpArgs false

/-- the length field of the bytes, as a number -/
def len1 (l : List Int) : Nat := (num (sub l 0 2)).toNat
/-- the record at the beginning of the bytes, if a whole one stands there -/
def rec1 (l : List Int) : Option R1 :=
  if l.length < 14 + len1 l ∨ 1000 < len1 l then none
  else if recB (num (sub l 2 10)) (sub l 10 (10 + len1 l)) = sub l 0 (14 + len1 l) then some (num (sub l 2 10), sub l 10 (10 + len1 l)) else none
theorem len1_eq {l : List Int} (h : Byt l) : num (sub l 0 2) = (len1 l : Int) ∧ len1 l < 65536 := by
  have hb := h.sub 0 2
  obtain ⟨h0, h1⟩ := num_bounds hb
  have hl : (sub l 0 2).length ≤ 2 := by simp [sub]; omega
  have h2 : (256 : Int) ^ (sub l 0 2).length ≤ 65536 := by
    rcases (by omega : (sub l 0 2).length = 0 ∨ (sub l 0 2).length = 1 ∨ (sub l 0 2).length = 2) with e | e | e <;> rw [e] <;> decide
  unfold len1
  omega
theorem rec1_some {l : List Int} (hB : Byt l) {s : Int} {b : List Int} (h : rec1 l = some (s, b)) : b.length + 14 ≤ l.length ∧ b.length ≤ 1000 ∧ len1 l = b.length ∧ s = num (sub l 2 10) ∧ b = sub l 10 (10 + b.length) ∧ recB s b = sub l 0 (14 + b.length) := by
  unfold rec1 at h
  split at h
  · simp at h
  · split at h
    · rename_i h1 h2
      simp only [Option.some.injEq, Prod.mk.injEq] at h
      obtain ⟨e1, e2⟩ := h
      have hl : b.length = len1 l := by rw [← e2, sub_length (by omega)]; omega
      refine ⟨by omega, by omega, hl.symm, e1.symm, by rw [hl, e2], by rw [hl, ← e1, ← e2]; exact h2⟩
    · simp at h

/-- what firstRecord hands back -/
def FrPost (w : World) (b o c : Nat) (l : List Int) (e : Ending) (w' : World) : Prop :=
  Below w.heap.size w w' ∧ match rec1 l with
    | none => e = .returned (.tuple #[recV 0 (.slice none 0 0), .int .i64 0])
    | some r => e = .returned (.tuple #[recV r.1 (.slice (some ⟨b, o + 10, none⟩) r.2.length (c - 10)), .int .i64 ((r.2.length + 14 : Nat) : Int)])

set_option maxHeartbeats 800000 in
theorem first_short (p : Option Addr) (c n : Nat) (w : World) (hn : n < 10) :
    Calls Try.prog 54 #[.slice p n c] w fun e w' => e = .returned (.tuple #[recV 0 (.slice none 0 0), .int .i64 0]) ∧ Below w.heap.size w w' := by
  have hn' : (n : Int) < 10 := by omega
  go_enter Try.func54, Try.ntmps54
  go_wp2
  refine bodyPost_ret (v := .tuple #[recV 0 (.slice none 0 0), .int .i64 0]) (by simp [results, Try.results54, go_sem]) rfl ⟨rfl, (Below.refl _ _).alloc (Nat.le_refl _) _⟩

set_option maxHeartbeats 800000 in
theorem first_any (b o c n : Nat) (l : List Int) (en : Hid (l.length = n)) (w : World) (h : Rd w (.slice (some ⟨b, o, none⟩) n c) l) (hb : Byt l) (hn : 10 ≤ n) (hm : n ≤ 2097152) (hc : n ≤ c) (hcm : c ≤ maxLen) :
    Calls Try.prog 54 #[.slice (some ⟨b, o, none⟩) n c] w (FrPost w b o c l) := by
  have hn' : ¬ (n : Int) < 10 := by omega
  have g1 : (n : Int) ≤ (c : Int) := by omega
  have g2 : (10 : Int) ≤ (c : Int) := by omega
  have g3 : (2 : Int) ≤ (c : Int) := by omega
  have g5 : c ≠ 2 := by omega
  have g6 : c ≠ 0 := by omega
  obtain ⟨N, eN⟩ : ∃ N, N = len1 l := ⟨_, rfl⟩
  obtain ⟨eK, hK⟩ := len1_eq hb
  rw [← eN] at eK hK
  have HN := hide eN
  clear eN
  have enn := unhide en
  have sub1 : (sub l 0 2).length = 2 := sub_length (by omega)
  have r1 : ∀ (d : Nat) (w' : World), Below w.heap.size w w' → Rd w' (.slice (some ⟨b, o, none⟩) 2 d) (sub l 0 2) := fun d w' hb' => (h.below hb').cut 0 2 (by omega) (by omega) _ (.inr rfl) d _ rfl
  have HR1 := hide r1
  have H1 := hide sub1
  have HB := hide hb
  have EK := hide eK
  clear r1 sub1 hb eK
  obtain ⟨M, eM⟩ : ∃ M : Nat, (10 : Int) + (N : Int) = (M : Int) := ⟨10 + N, by omega⟩
  obtain ⟨Z, eZ⟩ : ∃ Z : Nat, (M : Int) + 4 = (Z : Int) := ⟨M + 4, by omega⟩
  have hZN : Z = 14 + N := by omega
  have hMN : M = 10 + N := by omega
  have HZ := hide (And.intro hZN hMN)
  clear hZN hMN
  by_cases hs : n < Z
  · have hs' : (n : Int) < (Z : Int) := by omega
    go_enter Try.func54, Try.ntmps54
    go_wp2_with fail
    refine (numberOf_any (sub l 0 2) _ _ 2 H1 _ (unhide HR1 _ _ (by exact (Below.refl _ _).alloc (Nat.le_refl _) _)) ((unhide HB).sub 0 2) (by omega) (by omega)).mono ?_
    rintro e w1 ⟨rfl, hb1⟩
    rw [unhide EK]
    have c0 : w1.cell? ⟨w.heap.size, 0, none⟩ = some (.int .u64 0) := cell_below (by simp) hb1
    have c1 : w1.cell? ⟨w.heap.size, 1, none⟩ = some (.slice none 0 0) := cell_below (by simp) hb1
    have f1 : ∀ o, w1.frozen? ⟨w.heap.size, o, none⟩ = false := frozen_below (by simp) hb1 (by simp)
    have b1 : Below w.heap.size w w1 := Below.step ((Below.refl _ _).alloc (Nat.le_refl _) _) hb1
    clear hb1
    go_wp2
    refine bodyPost_ret (v := .tuple #[recV 0 (.slice none 0 0), .int .i64 0]) (by simp [results, Try.results54, go_sem, c0, c1]) rfl ?_
    refine ⟨?_, ?_⟩
    · repeat (refine Below.setCell ?_ (by simp) _)
      exact b1
    · have e : rec1 l = none := by
        unfold rec1
        have := unhide HZ
        have := unhide HN
        rw [if_pos (by omega)]
      rw [e]
  · have hs' : ¬ (n : Int) < (Z : Int) := by omega
    have q1 : (M : Int) ≤ (c : Int) := by omega
    have q2 : (Z : Int) ≤ (c : Int) := by omega
    have q3 : (10 : Int) ≤ (M : Int) := by omega
    have q4 : c ≠ 10 := by omega
    have q5 : (0 : Int) ≤ (Z : Int) := by omega
    have sub2 : (sub l 2 10).length = 8 := sub_length (by omega)
    have sub3 : (sub l 10 M).length = N := by rw [sub_length (by omega)]; have := unhide HZ; omega
    have sub4 : (sub l 0 Z).length = Z := by rw [sub_length (by omega)]; omega
    have eMN : M - 10 = N := by have := unhide HZ; omega
    have r2 : ∀ (d : Nat) (w' : World), Below w.heap.size w w' → Rd w' (.slice (some ⟨b, o + 2, none⟩) 8 d) (sub l 2 10) := fun d w' hb' => (h.below hb').cut 2 10 (by omega) (by omega) _ (.inr rfl) d _ rfl
    have r3 : ∀ (d : Nat) (w' : World), Below w.heap.size w w' → Rd w' (.slice (some ⟨b, o + 10, none⟩) (M - 10) d) (sub l 10 M) := fun d w' hb' => (h.below hb').cut 10 M (by omega) (by omega) _ (.inr rfl) d _ rfl
    have r4 : ∀ (d : Nat) (w' : World), Below w.heap.size w w' → Rd w' (.slice (some ⟨b, o, none⟩) Z d) (sub l 0 Z) := fun d w' hb' => (h.below hb').cut 0 Z (by omega) (by omega) _ (.inr rfl) d _ rfl
    obtain ⟨s0, s1⟩ := num_lt8 ((unhide HB).sub 2 10) (by omega)
    have HR2 := hide r2
    have HR3 := hide r3
    have HR4 := hide r4
    have H2 := hide sub2
    have H3 := hide sub3
    have H4 := hide sub4
    clear r2 r3 r4 sub2 sub3 sub4
    go_enter Try.func54, Try.ntmps54
    go_wp2_with fail
    refine (numberOf_any (sub l 0 2) _ _ 2 H1 _ (unhide HR1 _ _ (by exact (Below.refl _ _).alloc (Nat.le_refl _) _)) ((unhide HB).sub 0 2) (by omega) (by omega)).mono ?_
    rintro e w1 ⟨rfl, hb1⟩
    rw [unhide EK]
    have c0 : w1.cell? ⟨w.heap.size, 0, none⟩ = some (.int .u64 0) := cell_below (by simp) hb1
    have c1 : w1.cell? ⟨w.heap.size, 1, none⟩ = some (.slice none 0 0) := cell_below (by simp) hb1
    have f1 : ∀ o, w1.frozen? ⟨w.heap.size, o, none⟩ = false := frozen_below (by simp) hb1 (by simp)
    have b1 : Below w.heap.size w w1 := Below.step ((Below.refl _ _).alloc (Nat.le_refl _) _) hb1
    clear hb1
    have hcf : ∀ (vs : Array Value) (w : World), (callFunc 41 vs).run Try.prog w = .ok (.enter 41 vs) w := fun vs w => by kernel_rfl
    go_upto_region 7 with fail
    go_cut [6] (fun rp wc => ∃ R, rp = .pointer (some ⟨R, 0, none⟩) ∧ w1.heap.size ≤ R ∧ At2 wc R (.int .u64 (num (sub l 2 10))) (.slice (some ⟨b, o + 10, none⟩) N (c - 10)) ∧ Below w1.heap.size w1 wc)
    case first =>
      go_region_law (first
        | (refine step_call1 (by rfl) 41 _ _ (by rfl) (.slice (some ⟨b, o + 2, none⟩) 8 (c - 2)) (by rfl) (fun _ => hcf _ _) (numberOf_any (sub l 2 10) _ _ 8 H2 _ (unhide HR2 _ _ (by first | exact (b1.alloc b1.size _).drew | exact b1.drew.alloc b1.size _)) ((unhide HB).sub 2 10) (by omega) (by omega)) ?_; rintro e w2 ⟨rfl, hb2⟩; refine ⟨_, rfl, ?_⟩; have m0 : w2.cell? ⟨w1.heap.size, 0, none⟩ = some (.int .u64 0) := cell_below (by simp) hb2; have m1 : w2.cell? ⟨w1.heap.size, 1, none⟩ = some (.slice none 0 0) := cell_below (by simp) hb2; have mf : ∀ o, w2.frozen? ⟨w1.heap.size, o, none⟩ = false := frozen_below (by simp) hb2 (by simp); have hbB : Below w1.heap.size w1 w2 := Below.step (by first | exact ((Below.refl _ _).alloc (Nat.le_refl _) _).drew | exact (Below.refl _ _).drew.alloc (Nat.le_refl _) _) hb2)
        | (refine step_call1 (by rfl) 41 _ _ (by rfl) (.slice (some ⟨b, o + 2, none⟩) 8 (c - 2)) (by rfl) (fun _ => hcf _ _) (numberOf_any (sub l 2 10) _ _ 8 H2 _ (unhide HR2 _ _ (by exact b1.drew)) ((unhide HB).sub 2 10) (by omega) (by omega)) ?_; rintro e w2 ⟨rfl, hb2⟩; refine ⟨_, rfl, ?_⟩; have hbB : Below w1.heap.size w1 w2 := Below.step (Below.refl w1.heap.size w1).drew hb2))
      · go_wp2_with fail
        go_meet
        exact ⟨w2.heap.size, rfl, hbB.size, by simp [At2], hbB.alloc hbB.size _⟩
      · go_wp2_with fail
        go_meet
        refine ⟨w1.heap.size, rfl, Nat.le_refl _, ⟨?_, ?_⟩, (hbB.setCell (by simp) _).setCell (by simp) _⟩
        · simp [go_sem, m0, m1]
        · simp [go_sem, m0, m1]
    case rest =>
      obtain ⟨R, rfl, hR, A0, hbc⟩ := hcut
      have cc0 := cell_below c0 hbc
      have cc1 := cell_below c1 hbc
      have ff := frozen_below f1 hbc (World.block_lt_of_cell? w1 _ c0)
      have bc := Below.step b1 hbc
      have hRw : w.heap.size < R := Nat.lt_of_lt_of_le (World.block_lt_of_cell? w1 _ c0) hR
      clear c0 c1 f1 hbc b1 HR1 hcf HR2 H1 H2
      obtain ⟨K, E, eE, bE, hC, hrec⟩ : ∃ (K : Nat) (E : List Int), E.length = K ∧ Byt E ∧ (∀ w' : World, Below w.heap.size w w' → Calls Try.prog 22 #[recV (num (sub l 2 10)) (.slice (some ⟨b, o + 10, none⟩) N (c - 10))] w' fun e w'' => ∃ p' c', e = .returned (.slice p' K c') ∧ Own w'.heap.size w'' (.slice p' K c') E ∧ Below w'.heap.size w' w'') ∧ (rec1 l = if E = sub l 0 Z then some (num (sub l 2 10), sub l 10 M) else none) := by
        obtain ⟨hz1, hz2⟩ := unhide HZ
        have hN := unhide HN
        by_cases hbig : N ≤ 1000
        · refine ⟨N + 14, recB (num (sub l 2 10)) (sub l 10 M), by rw [recB_length, unhide H3], recB_byt ((unhide HB).sub 10 M), fun w' hb' => ?_, ?_⟩
          · have hr := unhide HR3 (c - 10) w' hb'
            rw [eMN] at hr
            exact implEncRec _ _ _ N (sub l 10 M) H3 w' hr ((unhide HB).sub 10 M) hbig s0 s1
          · unfold rec1
            rw [← hN, ← hz2, ← hz1, if_neg (by omega)]
        · refine ⟨0, [], rfl, by intro z hz; simp at hz, fun w' hb' => ?_, ?_⟩
          · refine (implEncRec_long _ _ _ N w' (by omega)).mono ?_
            rintro e w'' ⟨rfl, hb''⟩
            exact ⟨none, 0, rfl, World.ownsRow_nil _ _ _ _, hb''⟩
          · have hne : ¬ [] = sub l 0 Z := by
              intro e
              have := congrArg List.length e
              rw [unhide H4] at this
              simp at this
              omega
            unfold rec1
            rw [← hN, if_pos (by omega), if_neg hne]
      have HC := hide hC
      have HE := hide (And.intro eE (And.intro bE hrec))
      clear hC eE bE hrec
      go_wp2_with fail
      go_region_held3 (fun w' => At2 w' R (.int .u64 (num (sub l 2 10))) (.slice (some ⟨b, o + 10, none⟩) N (c - 10))) (first | exact A0 | exact A1 | exact A2)
        (first
          | (go_at_call 22; refine (unhide HC _ (by exact bc.drew)).mono ?_; rintro e w2 ⟨p2, c2, rfl, o2, hb2'⟩; have hb2 : Below wc.heap.size wc w2 := Below.step (Below.refl wc.heap.size wc).drew hb2'; have A1 := A0.below hb2)
          | (go_at_call 42; refine (bytesEqual_any _ _ _ _ K Z E (sub l 0 Z) (unhide HE).1 H4 _ (by exact o2.rd) (by exact unhide HR4 _ _ (Below.step bc hb2)) (unhide HE).2.1 ((unhide HB).sub 0 Z)).mono ?_; rintro e w3 ⟨rfl, hb3⟩; have A2 := A1.below hb3))
      have hb23 := Below.step hb2 hb3
      have b3 := Below.step bc hb23
      have d0 := cell_below cc0 hb23
      have d1 := cell_below cc1 hb23
      have df := frozen_below ff hb23 (World.block_lt_of_cell? wc _ cc0)
      obtain ⟨-, -, hrec⟩ := unhide HE
      clear A0 A1 cc0 cc1 ff bc hb2 hb2' hb3 hb23 o2 HC HE HR3 HR4
      by_cases hq : E = sub l 0 Z
      · rw [if_pos hq] at hrec
        have hd : decide (E = sub l 0 Z) = true := by simp [hq]
        rw [hd]
        have HREC := hide hrec
        have HQ := hide hq
        obtain ⟨A3, A4⟩ := A2
        clear hd hq hrec
        go_wp2
        have hne : w.heap.size ≠ R := by omega
        refine bodyPost_ret (v := .tuple #[recV (num (sub l 2 10)) (.slice (some ⟨b, o + 10, none⟩) N (c - 10)), .int .i64 Z]) (by simp [results, Try.results54, go_sem, d0, d1, A3, A4, hne]) rfl ?_
        refine ⟨?_, ?_⟩
        · repeat (refine Below.setCell ?_ (by simp) _)
          exact b3
        · rw [unhide HREC]
          obtain ⟨hz1, hz2⟩ := unhide HZ
          simp only [unhide H3]
          rw [show N + 14 = Z by omega]
      · rw [if_neg hq] at hrec
        have hd : decide (E = sub l 0 Z) = false := by simp [hq]
        rw [hd]
        have HREC := hide hrec
        clear hd hq hrec A2
        go_wp2
        refine bodyPost_ret (v := .tuple #[recV 0 (.slice none 0 0), .int .i64 0]) (by simp [results, Try.results54, go_sem, d0, d1]) rfl ?_
        refine ⟨?_, ?_⟩
        · repeat (refine Below.setCell ?_ (by simp) _)
          exact b3
        · rw [unhide HREC]
end Go.Proofs.Ytipeflnkcjkoeaa
