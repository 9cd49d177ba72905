import Derived.Test.YtipeflnkcjkoeaaJNo
import Derived.Test.YtipeflnkcjkoeaaJES
import Derived.Test.YtipeflnkcjkoeaaJB
namespace Go.Proofs.Ytipeflnkcjkoeaa
open Go.ChangeShapes Go.WideShapes Go.ChangeAt Go.RowKit
set_option linter.unusedVariables false
set_option linter.unusedSimpArgs false

/-- the bytes from i on, below j -/
def sub (l : List Int) (i j : Nat) : List Int := (l.take j).drop i
theorem sub_length {l : List Int} {i j : Nat} (hj : j ≤ l.length) : (sub l i j).length = j - i := by simp [sub]; omega
theorem Byt.sub {l : List Int} (h : Byt l) (i j : Nat) : Byt (sub l i j) := fun z hz => h z (List.mem_of_mem_take (List.mem_of_mem_drop hz))

theorem parts1 {w : World} {g : Nat} {v0 : Value} {l0 : List Int} (c0 : w.cell? ⟨g, 0, none⟩ = some v0) (r0 : Rd w v0 l0) : Parts w g [v0] [l0] := by
  refine ⟨rfl, fun j v x e1 e2 => ?_⟩
  match j, e1, e2 with
  | 0, e1, e2 => simp at e1 e2; subst e1 e2; exact ⟨c0, r0⟩
theorem l1copy_n (p : Option Addr) (c n : Nat) (l : List Int) (en : Hid (l.length = n)) (w : World) (h : Rd w (.slice p n c) l) (hl : n ≤ 2097152) :
    Calls Try.prog 40 #[.slice p n c] w fun e w' => ∃ p' c', e = .returned (.slice p' n c') ∧ Own w.heap.size w' (.slice p' n c') l ∧ Below w.heap.size w w' := by
  have e := unhide en
  subst e
  exact l1copy_any p c l w h hl

/-- what a decoder of snapshots hands back -/
def DecRes (w : World) (S : Int) (R : List Int) (N : Nat) (code : Int) (e : Ending) (w' : World) : Prop :=
  ∃ p c, e = .returned (.tuple #[.int .u64 S, .slice p N c, .int .i64 code]) ∧ Own w.heap.size w' (.slice p N c) R ∧ Below w.heap.size w w'

/-- what it hands back of bytes that are not too few -/
def DecPost (w : World) (l : List Int) (n : Nat) (e : Ending) (w' : World) : Prop :=
  if snapB (num (sub l 4 12)) (sub l 16 (n - 4)) = l then DecRes w (num (sub l 4 12)) (sub l 16 (n - 4)) (n - 20) 0 e w' else DecRes w 0 [] 0 13 e w'

set_option maxHeartbeats 400000 in
theorem implDec_short (p : Option Addr) (c n : Nat) (w : World) (hn : n < 20) : Calls Try.prog 18 #[.slice p n c] w (DecRes w 0 [] 0 13) := by
  have hn' : (n : Int) < 20 := by omega
  go_enter Try.func18, Try.ntmps18
  go_wp2
  refine bodyPost_ret (v := .tuple #[.int .u64 0, .slice none 0 0, .int .i64 13]) (by simp [results, Try.results18, go_sem]) rfl ⟨none, 0, rfl, World.ownsRow_nil _ _ _ _, Below.refl _ _⟩

set_option maxHeartbeats 400000 in
theorem specDec_short (p : Option Addr) (c n : Nat) (w : World) (hn : n < 20) : Calls Try.prog 17 #[.slice p n c] w (DecRes w 0 [] 0 13) := by
  have hn' : (n : Int) < 20 := by omega
  go_enter Try.func17, Try.ntmps17
  go_wp2
  refine bodyPost_ret (v := .tuple #[.int .u64 0, .slice none 0 0, .int .i64 13]) (by simp [results, Try.results17, go_sem]) rfl ⟨none, 0, rfl, World.ownsRow_nil _ _ _ _, Below.refl _ _⟩

set_option maxHeartbeats 800000 in
theorem implDec (b o c n : Nat) (l : List Int) (en : Hid (l.length = n)) (w : World) (h : Rd w (.slice (some ⟨b, o, none⟩) n c) l) (hb : Byt l) (hn : 20 ≤ n) (hm : n ≤ 1048576) (hc : n ≤ c) (hcm : c ≤ maxLen) :
    Calls Try.prog 18 #[.slice (some ⟨b, o, none⟩) n c] w (DecPost w l n) := by
  have hn' : ¬ (n : Int) < 20 := by omega
  obtain ⟨k, ek⟩ : ∃ k : Nat, (n : Int) - 4 = (k : Int) := ⟨n - 4, by omega⟩
  have g1 : (n : Int) ≤ (c : Int) := by omega
  have g2 : (12 : Int) ≤ (c : Int) := by omega
  have g3 : (k : Int) ≤ (c : Int) := by omega
  have g4 : (16 : Int) ≤ (k : Int) := by omega
  have g5 : c ≠ 4 := by omega
  have g6 : c ≠ 16 := by omega
  have enn := unhide en
  have ekn : n = k + 4 := by omega
  have sub1 : (sub l 4 12).length = 8 := sub_length (by omega)
  have sub2 : (sub l 16 k).length = k - 16 := sub_length (by omega)
  have r1 : ∀ (d : Nat) (w' : World), Below w.heap.size w w' → Rd w' (.slice (some ⟨b, o + 4, none⟩) 8 d) (sub l 4 12) := fun d w' hb' => (h.below hb').cut 4 12 (by omega) (by omega) _ (.inr rfl) d _ rfl
  have r2 : ∀ (d : Nat) (w' : World), Below w.heap.size w w' → Rd w' (.slice (some ⟨b, o + 16, none⟩) (k - 16) d) (sub l 16 k) := fun d w' hb' => (h.below hb').cut 16 k (by omega) (by omega) _ (.inr rfl) d _ rfl
  obtain ⟨s0, s1⟩ := num_lt8 (hb.sub 4 12) (by omega)
  have HB := hide hb
  have H1 := hide sub1
  have H2 := hide sub2
  have HK := hide ekn
  have HR1 := hide r1
  have HR2 := hide r2
  have HH := hide h
  have eb : snapB (num (sub l 4 12)) (sub l 16 (n - 4)) = snapB (num (sub l 4 12)) (sub l 16 k) := by rw [ekn]; rfl
  have HE := hide eb
  clear hb sub1 sub2 r1 r2 h enn ekn eb
  go_enter Try.func18, Try.ntmps18
  go_wp2_with fail
  refine (numberOf_any (sub l 4 12) _ _ 8 H1 _ (unhide HR1 _ _ (Below.refl _ _)) ((unhide HB).sub 4 12) (by omega) (by omega)).mono ?_
  rintro e w1 ⟨rfl, b1⟩
  go_wp2_with fail
  refine (implEncSnap (num (sub l 4 12)) _ _ (k - 16) (sub l 16 k) H2 _ (unhide HR2 _ _ b1) ((unhide HB).sub 16 k) (by omega) s0 s1).mono ?_
  rintro e w2 ⟨p2, c2, rfl, o2, hb2⟩
  have b2 := Below.step b1 hb2
  clear b1 hb2
  go_wp2_with fail
  refine (bytesEqual_any _ _ _ _ _ n (snapB (num (sub l 4 12)) (sub l 16 k)) l (by show _ = _; rw [snapB_length, unhide H2]) en _ o2.rd ((unhide HH).below b2) (snapB_byt ((unhide HB).sub 16 k)) (unhide HB)).mono ?_
  rintro e w3 ⟨rfl, hb3⟩
  have b3 := Below.step b2 hb3
  clear b2 hb3 o2
  by_cases hq : snapB (num (sub l 4 12)) (sub l 16 k) = l
  · have hd : decide (snapB (num (sub l 4 12)) (sub l 16 k) = l) = true := by simp [hq]
    rw [hd]
    have HQ := hide hq
    clear hq hd
    go_wp2_with fail
    refine (joined_any w3.heap.size [.slice (some ⟨b, o + 16, none⟩) (k - 16) (c - 16)] [sub l 16 k] (sub l 16 k) (k - 16) 1 rfl (by show _ = _; rw [cat_one]) H2 _ (parts1 (by simp) ((unhide HR2 _ _ b3).below ((Below.refl _ _).alloc (Nat.le_refl _) _))) (by omega) (by omega)).mono ?_
    rintro e w4 ⟨p4, c4, rfl, o4, hb4⟩
    have b4 := Below.step (b3.alloc b3.size _) hb4
    have o5 : Own w.heap.size w4 (.slice p4 (k - 16) c4) (sub l 16 k) := Own.mono o4 (by have := b3.size; simp; omega)
    clear b3 hb4 o4
    go_wp2
    refine bodyPost_ret (v := .tuple #[.int .u64 (num (sub l 4 12)), .slice p4 (k - 16) c4, .int .i64 0]) (by simp [results, Try.results18, go_sem]) rfl ?_
    unfold DecPost
    rw [unhide HE, if_pos (unhide HQ)]
    have e1 : n - 20 = k - 16 := by have := unhide HK; omega
    have e2 : n - 4 = k := by have := unhide HK; omega
    rw [e1, e2]
    exact ⟨p4, c4, rfl, o5, b4⟩
  · have hd : decide (snapB (num (sub l 4 12)) (sub l 16 k) = l) = false := by simp [hq]
    rw [hd]
    have HQ := hide hq
    clear hq hd
    go_wp2
    refine bodyPost_ret (v := .tuple #[.int .u64 0, .slice none 0 0, .int .i64 13]) (by simp [results, Try.results18, go_sem]) rfl ?_
    unfold DecPost
    rw [unhide HE, if_neg (unhide HQ)]
    exact ⟨none, 0, rfl, World.ownsRow_nil _ _ _ _, b3⟩

set_option maxHeartbeats 800000 in
theorem specDec (b o c n : Nat) (l : List Int) (en : Hid (l.length = n)) (w : World) (h : Rd w (.slice (some ⟨b, o, none⟩) n c) l) (hb : Byt l) (hn : 20 ≤ n) (hm : n ≤ 1048576) (hc : n ≤ c) (hcm : c ≤ maxLen) :
    Calls Try.prog 17 #[.slice (some ⟨b, o, none⟩) n c] w (DecPost w l n) := by
  have hn' : ¬ (n : Int) < 20 := by omega
  obtain ⟨k, ek⟩ : ∃ k : Nat, (n : Int) - 4 = (k : Int) := ⟨n - 4, by omega⟩
  have g1 : (n : Int) ≤ (c : Int) := by omega
  have g2 : (12 : Int) ≤ (c : Int) := by omega
  have g3 : (k : Int) ≤ (c : Int) := by omega
  have g4 : (16 : Int) ≤ (k : Int) := by omega
  have g5 : c ≠ 4 := by omega
  have g6 : c ≠ 16 := by omega
  have enn := unhide en
  have ekn : n = k + 4 := by omega
  have sub1 : (sub l 4 12).length = 8 := sub_length (by omega)
  have sub2 : (sub l 16 k).length = k - 16 := sub_length (by omega)
  have r1 : ∀ (d : Nat) (w' : World), Below w.heap.size w w' → Rd w' (.slice (some ⟨b, o + 4, none⟩) 8 d) (sub l 4 12) := fun d w' hb' => (h.below hb').cut 4 12 (by omega) (by omega) _ (.inr rfl) d _ rfl
  have r2 : ∀ (d : Nat) (w' : World), Below w.heap.size w w' → Rd w' (.slice (some ⟨b, o + 16, none⟩) (k - 16) d) (sub l 16 k) := fun d w' hb' => (h.below hb').cut 16 k (by omega) (by omega) _ (.inr rfl) d _ rfl
  obtain ⟨s0, s1⟩ := num_lt8 (hb.sub 4 12) (by omega)
  have HB := hide hb
  have H1 := hide sub1
  have H2 := hide sub2
  have HK := hide ekn
  have HR1 := hide r1
  have HR2 := hide r2
  have HH := hide h
  have eb : snapB (num (sub l 4 12)) (sub l 16 (n - 4)) = snapB (num (sub l 4 12)) (sub l 16 k) := by rw [ekn]; rfl
  have HE := hide eb
  clear hb sub1 sub2 r1 r2 h enn ekn eb
  go_enter Try.func17, Try.ntmps17
  go_wp2_with fail
  refine (l2number_any (sub l 4 12) _ _ 8 H1 _ (unhide HR1 _ _ (Below.refl _ _)) ((unhide HB).sub 4 12) (by omega) (by omega) (by omega)).mono ?_
  rintro e w1 ⟨rfl, b1⟩
  go_wp2_with fail
  refine (l1copy_n _ _ (k - 16) (sub l 16 k) H2 _ (unhide HR2 _ _ b1) (by omega)).mono ?_
  rintro e w2 ⟨p2, c2, rfl, o2, hb2⟩
  have b2 := Below.step b1 hb2
  have z2 := b1.size
  clear b1 hb2
  go_wp2_with fail
  have hcf : ∀ (vs : Array Value) (w : World), (callFunc 13 vs).run Try.prog w = .ok (.enter 13 vs) w := fun vs w => by kernel_rfl
  have u2 := run_conv (unhide en) ((unhide HH).below b2)
  have u2d := run_conv (unhide en) ((unhide HH).below b2.drew)
  have r2d : Rd w2.drew (.slice p2 (k - 16) c2) (sub l 16 k) := o2.rd.below (Below.refl _ _).drew
  have HC := hide (bstr_eq (snapB_byt (s := num (sub l 4 12)) ((unhide HB).sub 16 k)) (unhide HB))
  go_region_law (first
    | (refine step_call2 (by rfl) 13 _ _ _ (by rfl) (.int .u64 (num (sub l 4 12))) (.slice p2 (k - 16) c2) (by rfl) (by rfl) (fun _ => hcf _ _) (specEncSnap (num (sub l 4 12)) _ _ (k - 16) (sub l 16 k) H2 _ r2d ((unhide HB).sub 16 k) (by omega) s0 s1) ?_; rintro e w3 ⟨p3, c3, rfl, o3, hb3'⟩; refine ⟨_, rfl, ?_⟩; have hb3 : Below w2.heap.size w2 w3 := Below.step (Below.refl w2.heap.size w2).drew hb3'; have u3 := run_conv (unhide en) ((unhide HH).below (Below.step b2 hb3)); have e1 := run_conv (l := snapB (num (sub l 4 12)) (sub l 16 k)) (by rw [snapB_length, unhide H2]) o3.rd))
  all_goals
    have b3 := Below.step b2 hb3
    have q3 : Own w.heap.size w3 (.slice p2 (k - 16) c2) (sub l 16 k) := Own.mono (Own.below o2 hb3) z2
    clear b2 hb3 hb3' o2 o3 z2 u2 u2d r2d
    go_wp2
    · rename_i hd
      have hq : ¬ snapB (num (sub l 4 12)) (sub l 16 k) = l := by intro e; rw [unhide HC, decide_eq_true e] at hd; cases hd
      refine bodyPost_ret (v := .tuple #[.int .u64 0, .slice none 0 0, .int .i64 13]) (by simp [results, Try.results17, go_sem]) rfl ?_
      unfold DecPost
      rw [unhide HE, if_neg hq]
      exact ⟨none, 0, rfl, World.ownsRow_nil _ _ _ _, b3⟩
    · rename_i hd
      have hq : snapB (num (sub l 4 12)) (sub l 16 k) = l := by
        by_cases e : snapB (num (sub l 4 12)) (sub l 16 k) = l
        · exact e
        · rw [unhide HC, decide_eq_false e] at hd; cases hd
      refine bodyPost_ret (v := .tuple #[.int .u64 (num (sub l 4 12)), .slice p2 (k - 16) c2, .int .i64 0]) (by simp [results, Try.results17, go_sem]) rfl ?_
      unfold DecPost
      rw [unhide HE, if_pos hq]
      have e1 : n - 20 = k - 16 := by have := unhide HK; omega
      have e2 : n - 4 = k := by have := unhide HK; omega
      rw [e1, e2]
      exact ⟨p2, c2, rfl, q3, b3⟩
end Go.Proofs.Ytipeflnkcjkoeaa
