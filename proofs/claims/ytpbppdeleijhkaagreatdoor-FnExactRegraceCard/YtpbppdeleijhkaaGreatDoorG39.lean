import Derived.Test.YtpbppdeleijhkaaGreatDoorG11
import Derived.Test.YtpbppdeleijhkaaGreatDoorST4
import Derived.Test.YtpbppdeleijhkaaGreatDoorG38
namespace Go.Proofs.YtpbppdeleijhkaaGreatDoor
open Go.ChangeShapes Go.WideShapes Go.ChangeAt Go.RowKit
set_option linter.unusedVariables false
set_option linter.unusedSimpArgs false
set_option maxRecDepth 100000
set_option maxHeartbeats 3200000 in
theorem markNodeS_lv (p : Option Addr) (c n : Nat) (xs : List Nod) (A : List Lf) (k : Int) (w : World) (h : LvN w (.slice p n c) xs A) (hA : LvIn w A) (k0 : 0 ≤ k) (k1 : k + A.length ≤ 100000000) :
  Calls Tryz.prog 57 #[.slice p n c, .int .i64 k] w fun e w' => e = .returned (.int .i64 (k + A.length)) ∧ Mk w w' A k := by
 have hnA := h.len (fun x b a l hl => hl.pos)
 obtain ⟨Ls, en, lL, eA, hat⟩ := h.at
 have HAT := hide hat
 have HA := hide hA
 have EA := hide eA
 have K1 : k + (Ls.flatten.length : Int) ≤ 100000000 := by rw [← eA]; exact k1
 have hn : n ≤ 100000000 := by omega
 have LL := hide lL
 clear h hat hA eA en lL hnA
 go_enter Tryz.func57, Tryz.ntmps57
 go_wp2
 go_loopw [1, 5] (fun kk i wr => ∃ j : Nat, j ≤ n ∧ i = .int .i64 j ∧ kk = .int .i64 (k + (((Ls.take j).flatten.length : Nat) : Int)) ∧ Hid (Mk w wr (Ls.take j).flatten k)) (fun _ i _ => n - (intOf i).toNat)
 case atStart => exact ⟨0, Nat.zero_le _, rfl, by simp, Mk.refl _ _⟩
 case round =>
  obtain ⟨j, hj, rfl, rfl, hM⟩ := hrel
  have hle := flatten_take_le Ls j
  by_cases hlt : j < n
  ·have hlt' : (j : Int) < (n : Int) := by omega
   obtain ⟨b, o, x, l, rfl, hx, hl, hP, hfl, hsub⟩ := unhide HAT j hlt
   have hpre : LvIn w (Ls.take j).flatten := (unhide HA).sub (fun a ha => by rw [unhide EA]; exact mem_flatten_take ha)
   have hlw : LvIn w l := (unhide HA).sub hsub
   have hin : LvIn wr l := hlw.mk (unhide hM) hpre
   have hP' := hP.mk (unhide hM) hpre
   have hTl : (Ls.take (j + 1)).flatten.length = (Ls.take j).flatten.length + l.length := by rw [hfl, List.length_append]
   have hle1 : k + ((Ls.take j).flatten.length : Int) + (l.length : Int) ≤ 100000000 := by
    have := flatten_take_le Ls (j + 1)
    omega
   have HT := hide hTl
   have HPW : Hid (∀ w', Mk wr w' l (k + ((Ls.take j).flatten.length : Int)) → Mk w w' (Ls.take (j + 1)).flatten k) := by
    intro w' hw'
    rw [hfl]
    exact (unhide hM).trans hw' hpre hlw
   generalize hT : (Ls.take j).flatten.length = T at *
   clear hT hx hl hP hfl hsub hpre hM hTl hlw
   have hT0 : 0 ≤ k + (T : Int) := by omega
   obtain ⟨p0, c0, p1, c1, p4, c4, p7, c7, l0, l1, l4, l7, rfl, ⟨h1, h2⟩, ⟨h3, h4⟩, ⟨h5, h6⟩, ⟨h7, h8⟩⟩ := hP'
   have HD := hide (And.intro h1 (And.intro h3 (And.intro h5 h7)))
   have HLV := hide (And.intro h2 (And.intro h4 (And.intro h6 h8)))
   clear h1 h2 h3 h4 h5 h6 h7 h8
   have hlen : k + (T : Int) + (4 + (l0.length : Int) + (l1.length : Int) + (l4.length : Int) + (l7.length : Int)) ≤ 100000000 := by simp only [List.length_append, List.length_cons] at hle1; omega
   clear hle1
   have HIN := hide hin
   have AC0 : Hid (Mk wr wr [] (k + (T : Int))) := Mk.refl _ _
   clear hin
   have IN0 : LvIn wr (l0 ++ (l1 ++ (⟨b, o + j * 8 + 2, .u64⟩ :: ⟨b, o + j * 8 + 3, .i64⟩ :: (l4 ++ (⟨b, o + j * 8 + 5, .u64⟩ :: ⟨b, o + j * 8 + 6, .u64⟩ :: l7))))) := (unhide HIN).mk (unhide AC0) ((unhide HIN).sub (by intro a ha; first | (simp at ha; done) | (simp only [List.mem_append, List.mem_cons, List.not_mem_nil, List.nil_append, or_false] at ha ⊢; grind)))
   have hh0 : wr.cell? ⟨b, o + j * 8, none⟩ = some (.slice p0 x.path.length c0) := (unhide AC0).head ((unhide HIN).sub (by intro a ha; first | (simp at ha; done) | (simp only [List.mem_append, List.mem_cons, List.not_mem_nil, List.nil_append, or_false] at ha ⊢; grind))) (unhide HD).1
   have AX0 : Hid (Mk wr wr [] (k + (T : Int))) := (unhide AC0)
   have HV0 : Hid (LvIn wr l0) := ((unhide HIN).sub (by intro a ha; simp [ha])).mk (unhide AX0) ((unhide HIN).sub (by intro a ha; first | (simp at ha; done) | (simp only [List.mem_append, List.mem_cons, List.not_mem_nil, List.nil_append, or_false] at ha ⊢; grind)))
   clear IN0
   go_wp2_with fail
   clear hh0
   refine (markByteS_lv p0 c0 x.path.length (x.path) l0 (k + (T : Int)) _ (unhide HLV).1 (unhide HV0) (by omega) (by omega)).mono ?_
   rintro e v0 ⟨rfl, N0⟩
   have AC1 : Hid (Mk wr v0 ([] ++ l0) (k + (T : Int))) := Mk.call (unhide AX0) N0 (unhide HIN) (by intro a ha; first | (simp at ha; done) | (simp only [List.mem_append, List.mem_cons, List.not_mem_nil, List.nil_append, or_false] at ha ⊢; grind)) (by intro a ha; simp [ha]) (by simp; try omega)
   clear N0 AX0 HV0
   have IN1 : LvIn v0 (l0 ++ (l1 ++ (⟨b, o + j * 8 + 2, .u64⟩ :: ⟨b, o + j * 8 + 3, .i64⟩ :: (l4 ++ (⟨b, o + j * 8 + 5, .u64⟩ :: ⟨b, o + j * 8 + 6, .u64⟩ :: l7))))) := (unhide HIN).mk (unhide AC1) ((unhide HIN).sub (by intro a ha; first | (simp at ha; done) | (simp only [List.mem_append, List.mem_cons, List.not_mem_nil, List.nil_append, or_false] at ha ⊢; grind)))
   have hh1 : v0.cell? ⟨b, o + j * 8 + 1, none⟩ = some (.slice p1 x.value.length c1) := (unhide AC1).head ((unhide HIN).sub (by intro a ha; first | (simp at ha; done) | (simp only [List.mem_append, List.mem_cons, List.not_mem_nil, List.nil_append, or_false] at ha ⊢; grind))) (unhide HD).2.1
   have AX1 : Hid (Mk wr v0 ([] ++ l0) (k + (T : Int))) := (unhide AC1)
   have HV1 : Hid (LvIn v0 l1) := ((unhide HIN).sub (by intro a ha; simp [ha])).mk (unhide AX1) ((unhide HIN).sub (by intro a ha; first | (simp at ha; done) | (simp only [List.mem_append, List.mem_cons, List.not_mem_nil, List.nil_append, or_false] at ha ⊢; grind)))
   clear IN1
   go_wp2_with fail
   clear hh1
   refine (markByteS_lv p1 c1 x.value.length (x.value) l1 (k + (T : Int) + (l0.length : Int)) _ (unhide HLV).2.1 (unhide HV1) (by omega) (by omega)).mono ?_
   rintro e v1 ⟨rfl, N1⟩
   have AC2 : Hid (Mk wr v1 (([] ++ l0) ++ l1) (k + (T : Int))) := Mk.call (unhide AX1) N1 (unhide HIN) (by intro a ha; first | (simp at ha; done) | (simp only [List.mem_append, List.mem_cons, List.not_mem_nil, List.nil_append, or_false] at ha ⊢; grind)) (by intro a ha; simp [ha]) (by simp; try omega)
   clear N1 AX1 HV1
   have IN2 : LvIn v1 (l0 ++ (l1 ++ (⟨b, o + j * 8 + 2, .u64⟩ :: ⟨b, o + j * 8 + 3, .i64⟩ :: (l4 ++ (⟨b, o + j * 8 + 5, .u64⟩ :: ⟨b, o + j * 8 + 6, .u64⟩ :: l7))))) := (unhide HIN).mk (unhide AC2) ((unhide HIN).sub (by intro a ha; first | (simp at ha; done) | (simp only [List.mem_append, List.mem_cons, List.not_mem_nil, List.nil_append, or_false] at ha ⊢; grind)))
   obtain ⟨⟨m2, hc2⟩, hf2⟩ := IN2 ⟨b, o + j * 8 + 2, .u64⟩ (by simp)
   obtain ⟨⟨m3, hc3⟩, hf3⟩ := IN2 ⟨b, o + j * 8 + 3, .i64⟩ (by simp)
   dsimp only at hc2 hf2 hc3 hf3
   have hh4 : v1.cell? ⟨b, o + j * 8 + 4, none⟩ = some (.slice p4 x.holders.length c4) := (unhide AC2).head ((unhide HIN).sub (by intro a ha; first | (simp at ha; done) | (simp only [List.mem_append, List.mem_cons, List.not_mem_nil, List.nil_append, or_false] at ha ⊢; grind))) (unhide HD).2.2.1
   have AX2 : Hid (Mk wr ((v1.setCell ⟨b, o + j * 8 + 2, none⟩ (.int .u64 (k + (T : Int) + (l0.length : Int) + (l1.length : Int)))).setCell ⟨b, o + j * 8 + 3, none⟩ (.int .i64 (k + (T : Int) + (l0.length : Int) + (l1.length : Int) + 1))) (((([] ++ l0) ++ l1) ++ [⟨b, o + j * 8 + 2, .u64⟩]) ++ [⟨b, o + j * 8 + 3, .i64⟩]) (k + (T : Int))) := (Mk.set (Mk.set (unhide AC2) (unhide HIN) (by intro a ha; first | (simp at ha; done) | (simp only [List.mem_append, List.mem_cons, List.not_mem_nil, List.nil_append, or_false] at ha ⊢; grind)) (b := b) (o := o + j * 8 + 2) (kd := .u64) (by simp) (K := k + (T : Int) + (l0.length : Int) + (l1.length : Int)) (by simp; try omega)) (unhide HIN) (by intro a ha; first | (simp at ha; done) | (simp only [List.mem_append, List.mem_cons, List.not_mem_nil, List.nil_append, or_false] at ha ⊢; grind)) (b := b) (o := o + j * 8 + 3) (kd := .i64) (by simp) (K := k + (T : Int) + (l0.length : Int) + (l1.length : Int) + 1) (by simp; try omega))
   have HV2 : Hid (LvIn ((v1.setCell ⟨b, o + j * 8 + 2, none⟩ (.int .u64 (k + (T : Int) + (l0.length : Int) + (l1.length : Int)))).setCell ⟨b, o + j * 8 + 3, none⟩ (.int .i64 (k + (T : Int) + (l0.length : Int) + (l1.length : Int) + 1))) l4) := ((unhide HIN).sub (by intro a ha; simp [ha])).mk (unhide AX2) ((unhide HIN).sub (by intro a ha; first | (simp at ha; done) | (simp only [List.mem_append, List.mem_cons, List.not_mem_nil, List.nil_append, or_false] at ha ⊢; grind)))
   clear IN2
   go_wp2_with fail
   clear hc2 hf2 hc3 hf3 hh4
   refine (markUint64S_lv p4 c4 x.holders.length (x.holders) l4 (k + (T : Int) + (l0.length : Int) + (l1.length : Int) + 1 + 1) _ (unhide HLV).2.2.1 (unhide HV2) (by omega) (by omega)).mono ?_
   rintro e v2 ⟨rfl, N2⟩
   have AC3 : Hid (Mk wr v2 ((((([] ++ l0) ++ l1) ++ [⟨b, o + j * 8 + 2, .u64⟩]) ++ [⟨b, o + j * 8 + 3, .i64⟩]) ++ l4) (k + (T : Int))) := Mk.call (unhide AX2) N2 (unhide HIN) (by intro a ha; first | (simp at ha; done) | (simp only [List.mem_append, List.mem_cons, List.not_mem_nil, List.nil_append, or_false] at ha ⊢; grind)) (by intro a ha; simp [ha]) (by simp; try omega)
   clear N2 AX2 HV2
   have IN3 : LvIn v2 (l0 ++ (l1 ++ (⟨b, o + j * 8 + 2, .u64⟩ :: ⟨b, o + j * 8 + 3, .i64⟩ :: (l4 ++ (⟨b, o + j * 8 + 5, .u64⟩ :: ⟨b, o + j * 8 + 6, .u64⟩ :: l7))))) := (unhide HIN).mk (unhide AC3) ((unhide HIN).sub (by intro a ha; first | (simp at ha; done) | (simp only [List.mem_append, List.mem_cons, List.not_mem_nil, List.nil_append, or_false] at ha ⊢; grind)))
   obtain ⟨⟨m5, hc5⟩, hf5⟩ := IN3 ⟨b, o + j * 8 + 5, .u64⟩ (by simp)
   obtain ⟨⟨m6, hc6⟩, hf6⟩ := IN3 ⟨b, o + j * 8 + 6, .u64⟩ (by simp)
   dsimp only at hc5 hf5 hc6 hf6
   have hh7 : v2.cell? ⟨b, o + j * 8 + 7, none⟩ = some (.slice p7 x.watchers.length c7) := (unhide AC3).head ((unhide HIN).sub (by intro a ha; first | (simp at ha; done) | (simp only [List.mem_append, List.mem_cons, List.not_mem_nil, List.nil_append, or_false] at ha ⊢; grind))) (unhide HD).2.2.2
   have AX3 : Hid (Mk wr ((v2.setCell ⟨b, o + j * 8 + 5, none⟩ (.int .u64 (k + (T : Int) + (l0.length : Int) + (l1.length : Int) + 1 + 1 + (l4.length : Int)))).setCell ⟨b, o + j * 8 + 6, none⟩ (.int .u64 (k + (T : Int) + (l0.length : Int) + (l1.length : Int) + 1 + 1 + (l4.length : Int) + 1))) ((((((([] ++ l0) ++ l1) ++ [⟨b, o + j * 8 + 2, .u64⟩]) ++ [⟨b, o + j * 8 + 3, .i64⟩]) ++ l4) ++ [⟨b, o + j * 8 + 5, .u64⟩]) ++ [⟨b, o + j * 8 + 6, .u64⟩]) (k + (T : Int))) := (Mk.set (Mk.set (unhide AC3) (unhide HIN) (by intro a ha; first | (simp at ha; done) | (simp only [List.mem_append, List.mem_cons, List.not_mem_nil, List.nil_append, or_false] at ha ⊢; grind)) (b := b) (o := o + j * 8 + 5) (kd := .u64) (by simp) (K := k + (T : Int) + (l0.length : Int) + (l1.length : Int) + 1 + 1 + (l4.length : Int)) (by simp; try omega)) (unhide HIN) (by intro a ha; first | (simp at ha; done) | (simp only [List.mem_append, List.mem_cons, List.not_mem_nil, List.nil_append, or_false] at ha ⊢; grind)) (b := b) (o := o + j * 8 + 6) (kd := .u64) (by simp) (K := k + (T : Int) + (l0.length : Int) + (l1.length : Int) + 1 + 1 + (l4.length : Int) + 1) (by simp; try omega))
   have HV3 : Hid (LvIn ((v2.setCell ⟨b, o + j * 8 + 5, none⟩ (.int .u64 (k + (T : Int) + (l0.length : Int) + (l1.length : Int) + 1 + 1 + (l4.length : Int)))).setCell ⟨b, o + j * 8 + 6, none⟩ (.int .u64 (k + (T : Int) + (l0.length : Int) + (l1.length : Int) + 1 + 1 + (l4.length : Int) + 1))) l7) := ((unhide HIN).sub (by intro a ha; simp [ha])).mk (unhide AX3) ((unhide HIN).sub (by intro a ha; first | (simp at ha; done) | (simp only [List.mem_append, List.mem_cons, List.not_mem_nil, List.nil_append, or_false] at ha ⊢; grind)))
   clear IN3
   go_wp2_with fail
   clear hc5 hf5 hc6 hf6 hh7
   refine (markUint64S_lv p7 c7 x.watchers.length (x.watchers) l7 (k + (T : Int) + (l0.length : Int) + (l1.length : Int) + 1 + 1 + (l4.length : Int) + 1 + 1) _ (unhide HLV).2.2.2 (unhide HV3) (by omega) (by omega)).mono ?_
   rintro e v3 ⟨rfl, N3⟩
   have AC4 : Hid (Mk wr v3 (((((((([] ++ l0) ++ l1) ++ [⟨b, o + j * 8 + 2, .u64⟩]) ++ [⟨b, o + j * 8 + 3, .i64⟩]) ++ l4) ++ [⟨b, o + j * 8 + 5, .u64⟩]) ++ [⟨b, o + j * 8 + 6, .u64⟩]) ++ l7) (k + (T : Int))) := Mk.call (unhide AX3) N3 (unhide HIN) (by intro a ha; first | (simp at ha; done) | (simp only [List.mem_append, List.mem_cons, List.not_mem_nil, List.nil_append, or_false] at ha ⊢; grind)) (by intro a ha; simp [ha]) (by simp; try omega)
   clear N3 AX3 HV3
   have FIN := hide (unhide HPW _ (by simpa using unhide AC4))
   go_wp2
   go_roundw
   case rel => exact ⟨j + 1, by omega, by go_num, by rw [unhide HT]; first | (simp; omega) | (congr 1; simp; omega), FIN⟩
   case measure => simp [intOf]; omega
  ·have e : j = n := by omega
   subst e
   have e2 : (Ls.take j).flatten = A := by rw [← unhide LL, List.take_length]; exact (unhide EA).symm
   rw [e2] at hM ⊢
   clear hle HAT HA
   go_wp2
   go_ret
   exact ⟨rfl, unhide hM⟩
end Go.Proofs.YtpbppdeleijhkaaGreatDoor
namespace Go.Proofs.YtpbppdeleijhkaaGreatDoor
open Go.ChangeShapes Go.WideShapes Go.ChangeAt Go.RowKit Go.Maps
set_option linter.unusedVariables false
set_option linter.unusedSimpArgs false
set_option maxRecDepth 100000
theorem pw_of {α : Type} {R : α → α → Prop} {l : List α} (h : ∀ (i j : Nat) (a b : α), l[i]? = some a → l[j]? = some b → i < j → R a b) : l.Pairwise R := by
 rw [List.pairwise_iff_getElem]
 intro i j hi hj hij
 exact h i j _ _ (List.getElem?_eq_getElem hi) (List.getElem?_eq_getElem hj) hij
theorem ses_asc {x : Int} {ss : List Ses} (h : sesAll x ss = true) : ss.Pairwise (fun s s' => s.1 < s'.1) := by
 refine pw_of fun i j s s' hi hj hij => ?_
 rw [sesAll, Bool.and_eq_true] at h
 have := asc_far h.2 (fun i j k h1 h2 => by simp at h1 h2 ⊢; omega) j i (List.getElem?_eq_some_iff.1 hj).1 hij
 simpa only [List.getD_eq_getElem?_getD, hi, hj, Option.getD_some, decide_eq_true_eq] using this
theorem nod_asc {e g : Int} {ns : List Nod} (h : nodAll e g ns = true) : (ns.map fun nd => byS nd.path).Pairwise (· < ·) := by
 rw [List.pairwise_map]
 refine pw_of fun i j s s' hi hj hij => ?_
 rw [nodAll, Bool.and_eq_true] at h
 have := asc_far h.2 (fun i j k h1 h2 => not_leB.2 (bl_trans (not_leB.1 h1) (not_leB.1 h2))) j i (List.getElem?_eq_some_iff.1 hj).1 hij
 simp only [List.getD_eq_getElem?_getD, hi, hj, Option.getD_some] at this
 rw [not_leB, T.bytesLess_is, decide_eq_true_eq, bstr_list, bstr_list] at this
 exact this
theorem ascI_asc {l : List Int} (h : ascI l = true) : l.Pairwise (· < ·) := by
 refine pw_of fun i j s s' hi hj hij => ?_
 rw [ascI] at h
 have := asc_far h (fun i j k h1 h2 => by simp at h1 h2 ⊢; omega) j i (List.getElem?_eq_some_iff.1 hj).1 hij
 simpa only [List.getD_eq_getElem?_getD, hi, hj, Option.getD_some, decide_eq_true_eq] using this
theorem nod_each {e g : Int} {ns : List Nod} (h : nodAll e g ns = true) : ∀ nd ∈ ns, nd.holders.Pairwise (· < ·) ∧ nd.watchers.Pairwise (· < ·) := by
 intro nd hnd
 rw [nodAll, Bool.and_eq_true] at h
 have h1 : ∀ y ∈ ns, nodV e g y = true := (all_idx ns nod0 (nodV e g)).1 fun i hi => List.all_eq_true.1 h.1 i (List.mem_range.2 hi)
 have := h1 nd hnd
 simp only [nodV, Bool.and_eq_true] at this
 exact ⟨ascI_asc this.2.2.2.1, ascI_asc this.2.2.2.2⟩
structure Fine (ss : List Ses) (ns : List Nod) : Prop where
 s1 : ss.Pairwise (fun s s' => s.1 < s'.1)
 n1 : (ns.map fun nd => byS nd.path).Pairwise (· < ·)
 s2 : ∀ s ∈ ss, (0 ≤ s.1 ∧ s.1 < 18446744073709551616) ∧ s.2.2.length ≤ 1048576 ∧ ∀ e ∈ s.2.2, e.2.length ≤ 1048576
 n2 : ∀ nd ∈ ns, Byt nd.path ∧ nd.path.length ≤ 1048576 ∧ nd.value.length ≤ 1048576 ∧ nd.holders.length ≤ 1048576 ∧ nd.watchers.length ≤ 1048576 ∧ nd.holders.Pairwise (· < ·) ∧ nd.watchers.Pairwise (· < ·)
 s3 : ∀ (i j : Nat) (s s' : Ses), ss[i]? = some s → ss[j]? = some s' → i < j → s.1 ≠ s'.1
 n3 : ∀ (i j : Nat) (z z' : Nod), ns[i]? = some z → ns[j]? = some z' → i < j → z.path ≠ z'.path
theorem fine_of {e g x t : Int} {ss : List Ses} {ns : List Nod} (h : stOK e g x t ss ns = true) (hbs : ∀ s ∈ ss, s.2.2.length ≤ 1048576 ∧ ∀ e ∈ s.2.2, Byt e.2 ∧ e.2.length ≤ 1048576)
  (hby : ∀ nd ∈ ns, Byt nd.path ∧ nd.path.length ≤ 1048576 ∧ nd.value.length ≤ 1048576 ∧ nd.holders.length ≤ 1048576 ∧ nd.watchers.length ≤ 1048576) : Fine ss ns := by
 obtain ⟨h1, h2, h3, h4, h5⟩ := (stOK_iff e g x t ss ns).1 h
 have hx : x ≤ 4611686018427387904 := by simp only [limOK, decide_eq_true_eq] at h1; exact h1.2.2.1
 refine ⟨ses_asc h2, nod_asc h3, fun s hs => ⟨ses_u64 h2 hx s hs, (hbs s hs).1, fun e he => ((hbs s hs).2 e he).2⟩, fun nd hnd => ?_, ses_apart h2, nod_apart h3⟩
 obtain ⟨a, b, c, d, f⟩ := hby nd hnd
 exact ⟨a, b, c, d, f, (nod_each h3 nd hnd).1, (nod_each h3 nd hnd).2⟩
theorem sto_of {w0 w : World} {b bs bn : Nat} {e g x t : Int} {ss : List Ses} {ns : List Nod} {SB NB HB UB : List Nat} (h : StoreAt w0 w b bs bn e g x t ss ns SB NB HB UB) (hb : Below w0.heap.size w0 w) (l1 : ss.length ≤ 1048576) (l2 : ns.length ≤ 1048576) : Sto w b bs bn e g x t ss ns SB NB := by
 refine ⟨h.hd, ⟨h.ses.len, ?_, fun i s gb hs hg => ?_⟩, ⟨h.nod.len, ?_, fun i nd gb hs hg => ?_⟩⟩
 ·obtain ⟨D, o, m⟩ := h.ses.own
  exact ⟨D, _, o, l1, m⟩
 ·obtain ⟨-, u, q1, q2⟩ := h.ses.blk i s gb hs hg
  exact ⟨u, q1, q2.below hb⟩
 ·obtain ⟨D, o, m⟩ := h.nod.own
  exact ⟨D, _, o, l2, m⟩
 ·have hi := (List.getElem?_eq_some_iff.1 hs).1
  obtain ⟨hh, hhe⟩ : ∃ y, HB[i]? = some y := ⟨_, List.getElem?_eq_getElem (by rw [h.nod.lenH]; exact hi)⟩
  obtain ⟨uu, hue⟩ : ∃ y, UB[i]? = some y := ⟨_, List.getElem?_eq_getElem (by rw [h.nod.lenU]; exact hi)⟩
  obtain ⟨-, -, -, ⟨V, q1, q2⟩, q3, q4⟩ := h.nod.blk i nd gb hh uu hs hg hhe hue
  exact ⟨V, hh, uu, q1, q2.below hb, q3, q4⟩
structure StD where
 e : Int
 g : Int
 x : Int
 t : Int
 ss : List Ses
 ns : List Nod
def stD0 : StD := ⟨0, 0, 0, 0, [], []⟩
def StOwn (B : Nat) (w : World) (p : Option Addr) (n c : Nat) (q : Option Addr) (m d : Nat) (ss : List Ses) (ns : List Nod) : Prop :=
 ∃ A1 A2, RdSc w (.slice p n c) ss ∧ RdN w (.slice q m d) ns ∧ LvS w (.slice p n c) ss A1 ∧ LvN w (.slice q m d) ns A2 ∧ Apt B w (A1 ++ A2)
theorem StOwn.zero (B : Nat) (w : World) : StOwn B w none 0 0 none 0 0 [] [] :=
 ⟨[], [], ⟨none, 0, rfl, .inl rfl⟩, ⟨none, 0, rfl, .inl rfl⟩, ⟨none, 0, [], rfl, rfl, rfl, .inl rfl⟩, ⟨none, 0, [], rfl, rfl, rfl, .inl rfl⟩, Apt.nil _ _⟩
theorem StOwn.keep {B : Nat} {w w' : World} {p q : Option Addr} {n c m d : Nat} {ss : List Ses} {ns : List Nod} (h : StOwn B w p n c q m d ss ns) (hk : ∀ b, B ≤ b → b < w.heap.size → w'.heap[b]? = w.heap[b]?) : StOwn B w' p n c q m d ss ns := by
 obtain ⟨A1, A2, h1, h2, h3, h4, h5⟩ := h
 have k : ∀ a ∈ A1 ++ A2, w'.heap[a.b]? = w.heap[a.b]? := fun a ha => hk _ (h5.lo a ha) (h5.inn.lt ha)
 have k1 : ∀ a ∈ A1, w'.heap[a.b]? = w.heap[a.b]? := fun a ha => k a (List.mem_append_left _ ha)
 have k2 : ∀ a ∈ A2, w'.heap[a.b]? = w.heap[a.b]? := fun a ha => k a (List.mem_append_right _ ha)
 exact ⟨A1, A2, h1.keepLv h3 k1, h2.keepLv h4 k2, LvS.keep h3 k1, LvN.keep h4 k2, h5.keep k⟩
theorem StOwn.below {B : Nat} {w w' : World} {p q : Option Addr} {n c m d : Nat} {ss : List Ses} {ns : List Nod} (h : StOwn B w p n c q m d ss ns) (hb : Below w.heap.size w w') : StOwn B w' p n c q m d ss ns := h.keep fun b _ hl => hb.block b hl
theorem StOwn.mono {B B' : Nat} {w : World} {p q : Option Addr} {n c m d : Nat} {ss : List Ses} {ns : List Nod} (h : StOwn B w p n c q m d ss ns) (hB : B' ≤ B) : StOwn B' w p n c q m d ss ns := by
 obtain ⟨A1, A2, h1, h2, h3, h4, h5⟩ := h
 exact ⟨A1, A2, h1, h2, h3, h4, h5.mono hB⟩
def StRes (B : Nat) (r : Ending) (w : World) (D : StD) (code : Int) : Prop := ∃ p c q d, r = .returned (.tuple #[stV D.e D.g D.x D.t (.slice p D.ss.length c) (.slice q D.ns.length d), .int .i64 code]) ∧ StOwn B w p D.ss.length c q D.ns.length d D.ss D.ns
theorem StoreAt.setNow {w0 w : World} {b bs bn : Nat} {e g x t : Int} {ss : List Ses} {ns : List Nod} {SB NB HB UB : List Nat} (h : StoreAt w0 w b bs bn e g x t ss ns SB NB HB UB) (t' : Int) : StoreAt w0 (w.setCell ⟨b, 3, none⟩ (.int .i64 t')) b bs bn e g x t' ss ns SB NB HB UB := by
 have hk : ∀ z, z ≠ b → (w.setCell ⟨b, 3, none⟩ (.int .i64 t')).heap[z]? = w.heap[z]? := fun z hz => RowKit.Below.heap_setCell _ _ _ _ hz
 have hc : ∀ {z : Nat} {cs : Array Value} {ty : TypeId}, w.heap[z]? = some (.cells cs ty) → ty ≠ 102 → z ≠ b := fun {z cs ty} hz ht e => by
  rw [e, h.hd] at hz
  simp at hz
  exact ht hz.2.symm
 have hmn : ∀ {k : TypeId} {R : Value → Option (DataW Unit × List MemPlace)} {z n : Nat} {D : DataW Unit}, w.ownsMap Tryz.prog k R z n D → z ≠ b := fun {k R z n D} o e => ownsMap_cells o h.hd e.symm
 refine ⟨?_, ⟨h.ses.len, ?_, fun i s gb hs hg => ?_, h.ses.nod⟩, ⟨h.nod.len, h.nod.lenH, h.nod.lenU, ?_, fun i nd gb hh uu hs hg h1 h2 => ?_, h.nod.nod, h.nod.dis⟩, h.lo, h.dis⟩
 ·have := h.hd
  simp [World.setCell, Array.getElem?_modify, this]
 ·obtain ⟨D, o, m⟩ := h.ses.own
  exact ⟨D, ownsMap_same o (hk _ (hmn o)), m⟩
 ·obtain ⟨q0, u, q1, q2⟩ := h.ses.blk i s gb hs hg
  exact ⟨q0, u, (hk _ (hc q1 (by decide))).trans q1, q2⟩
 ·obtain ⟨D, o, m⟩ := h.nod.own
  exact ⟨D, ownsMap_same o (hk _ (hmn o)), m⟩
 ·obtain ⟨q0, q1, q2, ⟨V, q3, q4⟩, ⟨D1, o1, m1⟩, ⟨D2, o2, m2⟩⟩ := h.nod.blk i nd gb hh uu hs hg h1 h2
  exact ⟨q0, q1, q2, ⟨V, (hk _ (hc q3 (by decide))).trans q3, q4⟩, ⟨D1, ownsMap_same o1 (hk _ (hmn o1)), m1⟩, ⟨D2, ownsMap_same o2 (hk _ (hmn o2)), m2⟩⟩
end Go.Proofs.YtpbppdeleijhkaaGreatDoor
