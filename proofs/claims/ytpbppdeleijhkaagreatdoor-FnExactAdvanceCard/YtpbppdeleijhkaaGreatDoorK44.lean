import Derived.Test.YtpbppdeleijhkaaGreatDoorK12
import Derived.Test.YtpbppdeleijhkaaGreatDoorXK2
namespace Go.Proofs.YtpbppdeleijhkaaGreatDoor
open Go.ChangeShapes Go.WideShapes Go.ChangeAt Go.RowKit
set_option linter.unusedVariables false
set_option linter.unusedSimpArgs false
set_option maxRecDepth 100000

set_option maxHeartbeats 3200000 in
theorem markNodeS_lv (p : Option Addr) (c n : Nat) (xs : List Nod) (A : List Lf) (k : Int) (w : World) (h : LvN w (.slice p n c) xs A) (hA : LvIn w A) (k0 : 0 ≤ k) (k1 : k + A.length ≤ 100000000) :
  Calls Tryz.prog 57 #[.slice p n c, .int .i64 k] w fun e w' => e = .returned (.int .i64 (k + A.length)) ∧ Mk w w' A k := by
 have hnA := h.len (fun x b a l hl => hl.pos)
 obtain ⟨Ls, en, lL, eA, hat⟩ := h.at
 have HAT := hide hat
 have HA := hide hA
 have EA := hide eA
 have K1 : k + (Ls.flatten.length : Int) ≤ 100000000 := by rw [← eA]; exact k1
 have hn : n ≤ 100000000 := by omega
 have LL := hide lL
 clear h hat hA eA en lL hnA
 go_enter Tryz.func57, Tryz.ntmps57
 go_wp2
 go_loopw [1, 5] (fun kk i wr => ∃ j : Nat, j ≤ n ∧ i = .int .i64 j ∧ kk = .int .i64 (k + (((Ls.take j).flatten.length : Nat) : Int)) ∧ Hid (Mk w wr (Ls.take j).flatten k)) (fun _ i _ => n - (intOf i).toNat)
 case atStart => exact ⟨0, Nat.zero_le _, rfl, by simp, Mk.refl _ _⟩
 case round =>
  obtain ⟨j, hj, rfl, rfl, hM⟩ := hrel
  have hle := flatten_take_le Ls j
  by_cases hlt : j < n
  ·have hlt' : (j : Int) < (n : Int) := by omega
   obtain ⟨b, o, x, l, rfl, hx, hl, hP, hfl, hsub⟩ := unhide HAT j hlt
   have hpre : LvIn w (Ls.take j).flatten := (unhide HA).sub (fun a ha => by rw [unhide EA]; exact mem_flatten_take ha)
   have hlw : LvIn w l := (unhide HA).sub hsub
   have hin : LvIn wr l := hlw.mk (unhide hM) hpre
   have hP' := hP.mk (unhide hM) hpre
   have hTl : (Ls.take (j + 1)).flatten.length = (Ls.take j).flatten.length + l.length := by rw [hfl, List.length_append]
   have hle1 : k + ((Ls.take j).flatten.length : Int) + (l.length : Int) ≤ 100000000 := by
    have := flatten_take_le Ls (j + 1)
    omega
   have HT := hide hTl
   have HPW : Hid (∀ w', Mk wr w' l (k + ((Ls.take j).flatten.length : Int)) → Mk w w' (Ls.take (j + 1)).flatten k) := by
    intro w' hw'
    rw [hfl]
    exact (unhide hM).trans hw' hpre hlw
   generalize hT : (Ls.take j).flatten.length = T at *
   clear hT hx hl hP hfl hsub hpre hM hTl hlw
   have hT0 : 0 ≤ k + (T : Int) := by omega
   obtain ⟨p0, c0, p1, c1, p4, c4, p7, c7, l0, l1, l4, l7, rfl, ⟨h1, h2⟩, ⟨h3, h4⟩, ⟨h5, h6⟩, ⟨h7, h8⟩⟩ := hP'
   have HD := hide (And.intro h1 (And.intro h3 (And.intro h5 h7)))
   have HLV := hide (And.intro h2 (And.intro h4 (And.intro h6 h8)))
   clear h1 h2 h3 h4 h5 h6 h7 h8
   have hlen : k + (T : Int) + (4 + (l0.length : Int) + (l1.length : Int) + (l4.length : Int) + (l7.length : Int)) ≤ 100000000 := by simp only [List.length_append, List.length_cons] at hle1; omega
   clear hle1
   have HIN := hide hin
   have AC0 : Hid (Mk wr wr [] (k + (T : Int))) := Mk.refl _ _
   clear hin
   have IN0 : LvIn wr (l0 ++ (l1 ++ (⟨b, o + j * 8 + 2, .u64⟩ :: ⟨b, o + j * 8 + 3, .i64⟩ :: (l4 ++ (⟨b, o + j * 8 + 5, .u64⟩ :: ⟨b, o + j * 8 + 6, .u64⟩ :: l7))))) := (unhide HIN).mk (unhide AC0) ((unhide HIN).sub (by intro a ha; first | (simp at ha; done) | (simp only [List.mem_append, List.mem_cons, List.not_mem_nil, List.nil_append, or_false] at ha ⊢; grind)))
   have hh0 : wr.cell? ⟨b, o + j * 8, none⟩ = some (.slice p0 x.path.length c0) := (unhide AC0).head ((unhide HIN).sub (by intro a ha; first | (simp at ha; done) | (simp only [List.mem_append, List.mem_cons, List.not_mem_nil, List.nil_append, or_false] at ha ⊢; grind))) (unhide HD).1
   have AX0 : Hid (Mk wr wr [] (k + (T : Int))) := (unhide AC0)
   have HV0 : Hid (LvIn wr l0) := ((unhide HIN).sub (by intro a ha; simp [ha])).mk (unhide AX0) ((unhide HIN).sub (by intro a ha; first | (simp at ha; done) | (simp only [List.mem_append, List.mem_cons, List.not_mem_nil, List.nil_append, or_false] at ha ⊢; grind)))
   clear IN0
   go_wp2_with fail
   clear hh0
   refine (markByteS_lv p0 c0 x.path.length (x.path) l0 (k + (T : Int)) _ (unhide HLV).1 (unhide HV0) (by omega) (by omega)).mono ?_
   rintro e v0 ⟨rfl, N0⟩
   have AC1 : Hid (Mk wr v0 ([] ++ l0) (k + (T : Int))) := Mk.call (unhide AX0) N0 (unhide HIN) (by intro a ha; first | (simp at ha; done) | (simp only [List.mem_append, List.mem_cons, List.not_mem_nil, List.nil_append, or_false] at ha ⊢; grind)) (by intro a ha; simp [ha]) (by simp; try omega)
   clear N0 AX0 HV0
   have IN1 : LvIn v0 (l0 ++ (l1 ++ (⟨b, o + j * 8 + 2, .u64⟩ :: ⟨b, o + j * 8 + 3, .i64⟩ :: (l4 ++ (⟨b, o + j * 8 + 5, .u64⟩ :: ⟨b, o + j * 8 + 6, .u64⟩ :: l7))))) := (unhide HIN).mk (unhide AC1) ((unhide HIN).sub (by intro a ha; first | (simp at ha; done) | (simp only [List.mem_append, List.mem_cons, List.not_mem_nil, List.nil_append, or_false] at ha ⊢; grind)))
   have hh1 : v0.cell? ⟨b, o + j * 8 + 1, none⟩ = some (.slice p1 x.value.length c1) := (unhide AC1).head ((unhide HIN).sub (by intro a ha; first | (simp at ha; done) | (simp only [List.mem_append, List.mem_cons, List.not_mem_nil, List.nil_append, or_false] at ha ⊢; grind))) (unhide HD).2.1
   have AX1 : Hid (Mk wr v0 ([] ++ l0) (k + (T : Int))) := (unhide AC1)
   have HV1 : Hid (LvIn v0 l1) := ((unhide HIN).sub (by intro a ha; simp [ha])).mk (unhide AX1) ((unhide HIN).sub (by intro a ha; first | (simp at ha; done) | (simp only [List.mem_append, List.mem_cons, List.not_mem_nil, List.nil_append, or_false] at ha ⊢; grind)))
   clear IN1
   go_wp2_with fail
   clear hh1
   refine (markByteS_lv p1 c1 x.value.length (x.value) l1 (k + (T : Int) + (l0.length : Int)) _ (unhide HLV).2.1 (unhide HV1) (by omega) (by omega)).mono ?_
   rintro e v1 ⟨rfl, N1⟩
   have AC2 : Hid (Mk wr v1 (([] ++ l0) ++ l1) (k + (T : Int))) := Mk.call (unhide AX1) N1 (unhide HIN) (by intro a ha; first | (simp at ha; done) | (simp only [List.mem_append, List.mem_cons, List.not_mem_nil, List.nil_append, or_false] at ha ⊢; grind)) (by intro a ha; simp [ha]) (by simp; try omega)
   clear N1 AX1 HV1
   have IN2 : LvIn v1 (l0 ++ (l1 ++ (⟨b, o + j * 8 + 2, .u64⟩ :: ⟨b, o + j * 8 + 3, .i64⟩ :: (l4 ++ (⟨b, o + j * 8 + 5, .u64⟩ :: ⟨b, o + j * 8 + 6, .u64⟩ :: l7))))) := (unhide HIN).mk (unhide AC2) ((unhide HIN).sub (by intro a ha; first | (simp at ha; done) | (simp only [List.mem_append, List.mem_cons, List.not_mem_nil, List.nil_append, or_false] at ha ⊢; grind)))
   obtain ⟨⟨m2, hc2⟩, hf2⟩ := IN2 ⟨b, o + j * 8 + 2, .u64⟩ (by simp)
   obtain ⟨⟨m3, hc3⟩, hf3⟩ := IN2 ⟨b, o + j * 8 + 3, .i64⟩ (by simp)
   dsimp only at hc2 hf2 hc3 hf3
   have hh4 : v1.cell? ⟨b, o + j * 8 + 4, none⟩ = some (.slice p4 x.holders.length c4) := (unhide AC2).head ((unhide HIN).sub (by intro a ha; first | (simp at ha; done) | (simp only [List.mem_append, List.mem_cons, List.not_mem_nil, List.nil_append, or_false] at ha ⊢; grind))) (unhide HD).2.2.1
   have AX2 : Hid (Mk wr ((v1.setCell ⟨b, o + j * 8 + 2, none⟩ (.int .u64 (k + (T : Int) + (l0.length : Int) + (l1.length : Int)))).setCell ⟨b, o + j * 8 + 3, none⟩ (.int .i64 (k + (T : Int) + (l0.length : Int) + (l1.length : Int) + 1))) (((([] ++ l0) ++ l1) ++ [⟨b, o + j * 8 + 2, .u64⟩]) ++ [⟨b, o + j * 8 + 3, .i64⟩]) (k + (T : Int))) := (Mk.set (Mk.set (unhide AC2) (unhide HIN) (by intro a ha; first | (simp at ha; done) | (simp only [List.mem_append, List.mem_cons, List.not_mem_nil, List.nil_append, or_false] at ha ⊢; grind)) (b := b) (o := o + j * 8 + 2) (kd := .u64) (by simp) (K := k + (T : Int) + (l0.length : Int) + (l1.length : Int)) (by simp; try omega)) (unhide HIN) (by intro a ha; first | (simp at ha; done) | (simp only [List.mem_append, List.mem_cons, List.not_mem_nil, List.nil_append, or_false] at ha ⊢; grind)) (b := b) (o := o + j * 8 + 3) (kd := .i64) (by simp) (K := k + (T : Int) + (l0.length : Int) + (l1.length : Int) + 1) (by simp; try omega))
   have HV2 : Hid (LvIn ((v1.setCell ⟨b, o + j * 8 + 2, none⟩ (.int .u64 (k + (T : Int) + (l0.length : Int) + (l1.length : Int)))).setCell ⟨b, o + j * 8 + 3, none⟩ (.int .i64 (k + (T : Int) + (l0.length : Int) + (l1.length : Int) + 1))) l4) := ((unhide HIN).sub (by intro a ha; simp [ha])).mk (unhide AX2) ((unhide HIN).sub (by intro a ha; first | (simp at ha; done) | (simp only [List.mem_append, List.mem_cons, List.not_mem_nil, List.nil_append, or_false] at ha ⊢; grind)))
   clear IN2
   go_wp2_with fail
   clear hc2 hf2 hc3 hf3 hh4
   refine (markUint64S_lv p4 c4 x.holders.length (x.holders) l4 (k + (T : Int) + (l0.length : Int) + (l1.length : Int) + 1 + 1) _ (unhide HLV).2.2.1 (unhide HV2) (by omega) (by omega)).mono ?_
   rintro e v2 ⟨rfl, N2⟩
   have AC3 : Hid (Mk wr v2 ((((([] ++ l0) ++ l1) ++ [⟨b, o + j * 8 + 2, .u64⟩]) ++ [⟨b, o + j * 8 + 3, .i64⟩]) ++ l4) (k + (T : Int))) := Mk.call (unhide AX2) N2 (unhide HIN) (by intro a ha; first | (simp at ha; done) | (simp only [List.mem_append, List.mem_cons, List.not_mem_nil, List.nil_append, or_false] at ha ⊢; grind)) (by intro a ha; simp [ha]) (by simp; try omega)
   clear N2 AX2 HV2
   have IN3 : LvIn v2 (l0 ++ (l1 ++ (⟨b, o + j * 8 + 2, .u64⟩ :: ⟨b, o + j * 8 + 3, .i64⟩ :: (l4 ++ (⟨b, o + j * 8 + 5, .u64⟩ :: ⟨b, o + j * 8 + 6, .u64⟩ :: l7))))) := (unhide HIN).mk (unhide AC3) ((unhide HIN).sub (by intro a ha; first | (simp at ha; done) | (simp only [List.mem_append, List.mem_cons, List.not_mem_nil, List.nil_append, or_false] at ha ⊢; grind)))
   obtain ⟨⟨m5, hc5⟩, hf5⟩ := IN3 ⟨b, o + j * 8 + 5, .u64⟩ (by simp)
   obtain ⟨⟨m6, hc6⟩, hf6⟩ := IN3 ⟨b, o + j * 8 + 6, .u64⟩ (by simp)
   dsimp only at hc5 hf5 hc6 hf6
   have hh7 : v2.cell? ⟨b, o + j * 8 + 7, none⟩ = some (.slice p7 x.watchers.length c7) := (unhide AC3).head ((unhide HIN).sub (by intro a ha; first | (simp at ha; done) | (simp only [List.mem_append, List.mem_cons, List.not_mem_nil, List.nil_append, or_false] at ha ⊢; grind))) (unhide HD).2.2.2
   have AX3 : Hid (Mk wr ((v2.setCell ⟨b, o + j * 8 + 5, none⟩ (.int .u64 (k + (T : Int) + (l0.length : Int) + (l1.length : Int) + 1 + 1 + (l4.length : Int)))).setCell ⟨b, o + j * 8 + 6, none⟩ (.int .u64 (k + (T : Int) + (l0.length : Int) + (l1.length : Int) + 1 + 1 + (l4.length : Int) + 1))) ((((((([] ++ l0) ++ l1) ++ [⟨b, o + j * 8 + 2, .u64⟩]) ++ [⟨b, o + j * 8 + 3, .i64⟩]) ++ l4) ++ [⟨b, o + j * 8 + 5, .u64⟩]) ++ [⟨b, o + j * 8 + 6, .u64⟩]) (k + (T : Int))) := (Mk.set (Mk.set (unhide AC3) (unhide HIN) (by intro a ha; first | (simp at ha; done) | (simp only [List.mem_append, List.mem_cons, List.not_mem_nil, List.nil_append, or_false] at ha ⊢; grind)) (b := b) (o := o + j * 8 + 5) (kd := .u64) (by simp) (K := k + (T : Int) + (l0.length : Int) + (l1.length : Int) + 1 + 1 + (l4.length : Int)) (by simp; try omega)) (unhide HIN) (by intro a ha; first | (simp at ha; done) | (simp only [List.mem_append, List.mem_cons, List.not_mem_nil, List.nil_append, or_false] at ha ⊢; grind)) (b := b) (o := o + j * 8 + 6) (kd := .u64) (by simp) (K := k + (T : Int) + (l0.length : Int) + (l1.length : Int) + 1 + 1 + (l4.length : Int) + 1) (by simp; try omega))
   have HV3 : Hid (LvIn ((v2.setCell ⟨b, o + j * 8 + 5, none⟩ (.int .u64 (k + (T : Int) + (l0.length : Int) + (l1.length : Int) + 1 + 1 + (l4.length : Int)))).setCell ⟨b, o + j * 8 + 6, none⟩ (.int .u64 (k + (T : Int) + (l0.length : Int) + (l1.length : Int) + 1 + 1 + (l4.length : Int) + 1))) l7) := ((unhide HIN).sub (by intro a ha; simp [ha])).mk (unhide AX3) ((unhide HIN).sub (by intro a ha; first | (simp at ha; done) | (simp only [List.mem_append, List.mem_cons, List.not_mem_nil, List.nil_append, or_false] at ha ⊢; grind)))
   clear IN3
   go_wp2_with fail
   clear hc5 hf5 hc6 hf6 hh7
   refine (markUint64S_lv p7 c7 x.watchers.length (x.watchers) l7 (k + (T : Int) + (l0.length : Int) + (l1.length : Int) + 1 + 1 + (l4.length : Int) + 1 + 1) _ (unhide HLV).2.2.2 (unhide HV3) (by omega) (by omega)).mono ?_
   rintro e v3 ⟨rfl, N3⟩
   have AC4 : Hid (Mk wr v3 (((((((([] ++ l0) ++ l1) ++ [⟨b, o + j * 8 + 2, .u64⟩]) ++ [⟨b, o + j * 8 + 3, .i64⟩]) ++ l4) ++ [⟨b, o + j * 8 + 5, .u64⟩]) ++ [⟨b, o + j * 8 + 6, .u64⟩]) ++ l7) (k + (T : Int))) := Mk.call (unhide AX3) N3 (unhide HIN) (by intro a ha; first | (simp at ha; done) | (simp only [List.mem_append, List.mem_cons, List.not_mem_nil, List.nil_append, or_false] at ha ⊢; grind)) (by intro a ha; simp [ha]) (by simp; try omega)
   clear N3 AX3 HV3
   have FIN := hide (unhide HPW _ (by simpa using unhide AC4))
   go_wp2
   go_roundw
   case rel => exact ⟨j + 1, by omega, by go_num, by rw [unhide HT]; first | (simp; omega) | (congr 1; simp; omega), FIN⟩
   case measure => simp [intOf]; omega
  ·have e : j = n := by omega
   subst e
   have e2 : (Ls.take j).flatten = A := by rw [← unhide LL, List.take_length]; exact (unhide EA).symm
   rw [e2] at hM ⊢
   clear hle HAT HA
   go_wp2
   go_ret
   exact ⟨rfl, unhide hM⟩
end Go.Proofs.YtpbppdeleijhkaaGreatDoor
namespace Go.Proofs.YtpbppdeleijhkaaGreatDoor
open Go.ChangeShapes Go.WideShapes Go.ChangeAt Go.RowKit Go.Maps
set_option linter.unusedVariables false
set_option linter.unusedSimpArgs false
set_option maxRecDepth 100000

set_option maxHeartbeats 3200000 in
theorem specAdv (e g x t k : Int) (p q : Option Addr) (c n d m : Nat) (ss : List Ses) (ns : List Nod) (en : Hid (ss.length = n)) (em : Hid (ns.length = m)) (w : World) (h : RdS w (.slice p n c) ss) (hN : RdN w (.slice q m d) ns) (hn : n ≤ 1048576) (hm : m ≤ 1048576)
  (hbs : Hid (∀ s ∈ ss, s.2.2.length ≤ 1048576 ∧ ∀ e ∈ s.2.2, Byt e.2 ∧ e.2.length ≤ 1048576)) (hby : Hid (∀ nd ∈ ns, Byt nd.path ∧ nd.path.length ≤ 1048576 ∧ nd.value.length ≤ 1048576 ∧ nd.holders.length ≤ 1048576 ∧ nd.watchers.length ≤ 1048576)) (hk : -9223372036854775808 ≤ k ∧ k < 9223372036854775808) :
  Calls Tryz.prog 27 #[stV e g x t (.slice p n c) (.slice q m d), .int .i64 k] w fun r w' => StRes w.heap.size r w' (advD e g x t k ss ns) (advC e g x t k ss ns) ∧ Below w.heap.size w w' := by
 have HR := hide fun (w' : World) (hb : Below w.heap.size w w') => And.intro (h.below hb) (hN.below hb)
 clear h hN
 obtain ⟨B, eB⟩ : ∃ B, Hid (stOK e g x t ss ns = B) := ⟨_, (by show _ = _; rfl)⟩
 go_enter Tryz.func27, Tryz.ntmps27
 go_wp2_with fail
 obtain ⟨W, hW⟩ : ∃ W, W = (w.alloc (.cells #[.int .u64 e, .int .u64 g, .int .u64 x, .int .i64 t, .slice p n c, .slice q m d] 27)) := ⟨_, rfl⟩
 have bW : Below w.heap.size w W := by rw [hW]; exact (Below.refl _ _).alloc (Nat.le_refl _) _
 have hc6 : St6 W w.heap.size e g x t (.slice p n c) (.slice q m d) := by rw [hW]; simp [St6]
 obtain ⟨W2, hW2⟩ : ∃ W2, W2 = (W.alloc (.cells #[.int .u64 0, .int .u64 0, .int .u64 0, .int .i64 0, .slice none 0 0, .slice none 0 0] 27)) := ⟨_, rfl⟩
 have zW : W.heap.size = w.heap.size + 1 := by rw [hW]; simp
 have bW2 : Below W.heap.size W W2 := by rw [hW2]; exact (Below.refl _ _).alloc (Nat.le_refl _) _
 have hR3 : CellsAre W2 (w.heap.size + 1) [.int .u64 0, .int .u64 0, .int .u64 0, .int .i64 0, .slice none 0 0, .slice none 0 0] := by
  rw [hW2, show w.heap.size + 1 = W.heap.size by omega]; exact CellsAre.alloc W #[.int .u64 0, .int .u64 0, .int .u64 0, .int .i64 0, .slice none 0 0, .slice none 0 0] _
 have zW2 : W2.heap.size = w.heap.size + 2 := by rw [hW2]; simp; omega
 rw [← hW, ← hW2]
 have b2 := Below.step bW bW2
 have C2 := hide (hc6.below bW2)
 have R2 := hide hR3
 clear hW hW2 bW hc6 hR3 bW2 zW
 refine (specVS e g x t p q c n d m ss ns en em _ (unhide HR _ b2).1 (unhide HR _ b2).2 hn hm hbs hby B eB).mono ?_
 rintro r w3 ⟨rfl, hb3⟩
 have b3 := Below.step b2 hb3
 have C3 := hide ((unhide C2).below hb3)
 have R3 := hide ((unhide R2).below (by omega) hb3)
 have z3 : w.heap.size + 2 ≤ w3.heap.size := by have := hb3.size; omega
 clear hb3 b2 C2 R2 zW2
 obtain ⟨i0, i1, i2, i3, i4, i5⟩ := unhide C3
 have r0 := (unhide R3).1 0 _ rfl
 have r1 := (unhide R3).1 1 _ rfl
 have r2 := (unhide R3).1 2 _ rfl
 have r3 := (unhide R3).1 3 _ rfl
 have r4 := (unhide R3).1 4 _ rfl
 have r5 := (unhide R3).1 5 _ rfl
 have rf := (unhide R3).2
 cases B with
 | false =>
  have hD : advD e g x t k ss ns = stD0 := by unfold advD; rw [if_neg (by rw [unhide eB]; simp)]
  have hC : advC e g x t k ss ns = 1 := by unfold advC; rw [if_neg (by rw [unhide eB]; simp)]
  have HD := hide (And.intro hD hC)
  clear hD hC
  go_wp2
  obtain ⟨hD, hC⟩ := unhide HD
  refine bodyPost_ret (v := .tuple #[stV 0 0 0 0 (.slice none 0 0) (.slice none 0 0), .int .i64 1]) (by simp [results, Tryz.results27, go_sem, r0, r1, r2, r3, r4, r5]) rfl ⟨?_, ?_⟩
  ·rw [hD, hC]
   exact ⟨none, 0, none, 0, rfl, StOwn.zero _ _⟩
  ·exact (((((b3.setCell (by simp) _).setCell (by simp) _).setCell (by simp) _).setCell (by simp) _).setCell (by simp) _).setCell (by simp) _
 | true =>
  have hlim := ((stOK_iff e g x t ss ns).1 (unhide eB)).1
  have ht : 0 ≤ t ∧ t ≤ 1000000 := by simp only [limOK, decide_eq_true_eq] at hlim; omega
  by_cases hk0 : k < 0
  ·have hD : advD e g x t k ss ns = stD0 := by unfold advD; rw [if_neg (by omega)]
   have hC : advC e g x t k ss ns = 1 := by unfold advC; rw [if_neg (by omega)]
   have HD := hide (And.intro hD hC)
   clear hD hC hlim
   go_wp2
   obtain ⟨hD, hC⟩ := unhide HD
   refine bodyPost_ret (v := .tuple #[stV 0 0 0 0 (.slice none 0 0) (.slice none 0 0), .int .i64 1]) (by simp [results, Tryz.results27, go_sem, r0, r1, r2, r3, r4, r5]) rfl ⟨?_, ?_⟩
   ·rw [hD, hC]
    exact ⟨none, 0, none, 0, rfl, StOwn.zero _ _⟩
   ·exact (((((b3.setCell (by simp) _).setCell (by simp) _).setCell (by simp) _).setCell (by simp) _).setCell (by simp) _).setCell (by simp) _
  ·go_wp2_with fail
   refine (l3copy_any e g x t p q c n d m ss ns en em _ (unhide HR _ b3).1 (unhide HR _ b3).2 hn hm hbs hby).mono ?_
   rintro r w4 ⟨ps, cs, pn, cn, rfl, f4, hb4⟩
   have b4 := Below.step b3 hb4
   have F4 := hide f4
   have R4 := hide ((unhide R3).below (by omega) hb4)
   have C4 := hide ((unhide C3).below hb4)
   have z4 := hb4.size
   clear f4 hb4 i0 i1 i2 i3 i4 i5 r0 r1 r2 r3 r4 r5 rf hlim
   obtain ⟨i0, i1, i2, i3, i4, i5⟩ := unhide C4
   have r0 := (unhide R4).1 0 _ rfl
   have r1 := (unhide R4).1 1 _ rfl
   have r2 := (unhide R4).1 2 _ rfl
   have r3 := (unhide R4).1 3 _ rfl
   have r4 := (unhide R4).1 4 _ rfl
   have r5 := (unhide R4).1 5 _ rfl
   have rf := (unhide R4).2
   have w1 : IntKind.i64.wrap (1000000 - t) = 1000000 - t := IntWalk.i64_in _ (by omega)
   have bA : Below w4.heap.size w4 (w4.alloc (.cells #[.int .u64 e, .int .u64 g, .int .u64 x, .int .i64 t, .slice ps n cs, .slice pn m cn] 27)) := (Below.refl _ _).alloc (Nat.le_refl _) _
   have j3 := cell_below i3 bA
   have q0 := cell_below r0 bA
   have q1 := cell_below r1 bA
   have q2 := cell_below r2 bA
   have q3 := cell_below r3 bA
   have q4 := cell_below r4 bA
   have q5 := cell_below r5 bA
   have qf := ((unhide R4).below (by omega) bA).2
   have HBA := hide bA
   clear bA
   have n1 : ¬ w4.heap.size = w.heap.size := by omega
   have n2 : ¬ w.heap.size = w4.heap.size := by omega
   have n3 : ¬ w4.heap.size = w.heap.size + 1 := by omega
   have n4 : ¬ w.heap.size + 1 = w4.heap.size := by omega
   by_cases hk1 : 1000000 - t < k
   ·go_wp2
    obtain ⟨Y, hY⟩ : ∃ Y, Y = (w4.alloc (.cells #[.int .u64 e, .int .u64 g, .int .u64 x, .int .i64 (t), .slice ps n cs, .slice pn m cn] 27)) := ⟨_, rfl⟩
    obtain ⟨Z, hZ⟩ : ∃ Z, Z = ((((((Y.setCell ⟨w.heap.size + 1, 0, none⟩ (.int .u64 e)).setCell ⟨w.heap.size + 1, 1, none⟩ (.int .u64 g)).setCell ⟨w.heap.size + 1, 2, none⟩ (.int .u64 x)).setCell ⟨w.heap.size + 1, 3, none⟩ (.int .i64 (t))).setCell ⟨w.heap.size + 1, 4, none⟩ (.slice ps n cs)).setCell ⟨w.heap.size + 1, 5, none⟩ (.slice pn m cn)) := ⟨_, rfl⟩
    have bY : Below w4.heap.size w4 Y := by rw [hY]; exact (Below.refl _ _).alloc (Nat.le_refl _) _
    have hkZ : ∀ z, z ≠ w.heap.size + 1 → Z.heap[z]? = Y.heap[z]? := fun z hz => by
     rw [hZ]
     iterate 6 rw [RowKit.Below.heap_setCell _ _ _ _ hz]
    have b5 := Below.step b4 bY
    refine bodyPost_ret (v := .tuple #[stV e g x (t) (.slice ps n cs) (.slice pn m cn), .int .i64 11]) (by simp [results, Tryz.results27, go_sem, r0, r1, r2, r3, r4, r5, q0, q1, q2, q3, q4, q5]) rfl ⟨?_, ?_⟩
    ·rw [← hY, ← hZ]
     have hD : advD e g x t k ss ns = ⟨e, g, x, t, ss, ns⟩ := by unfold advD; rw [if_pos ⟨unhide eB, by omega⟩, if_pos hk1]
     have hC : advC e g x t k ss ns = 11 := by unfold advC; rw [if_pos ⟨unhide eB, by omega⟩, if_pos hk1]
     rw [hD, hC]
     have f := (((unhide F4).below bY).keep (w' := Z) (fun z hz _ => hkZ z (by omega))).mono (B' := w.heap.size) (by omega)
     exact ⟨ps, cs, pn, cn, by simp only; rw [unhide en, unhide em], by simp only; rw [unhide en, unhide em]; exact f⟩
    ·rw [← hY]
     exact (((((b5.setCell (by simp) _).setCell (by simp) _).setCell (by simp) _).setCell (by simp) _).setCell (by simp) _).setCell (by simp) _
   ·have w2 : IntKind.i64.wrap (t + k) = t + k := IntWalk.i64_in _ (by omega)
    have bA2 : Below w4.heap.size w4 (w4.alloc (.cells #[.int .u64 e, .int .u64 g, .int .u64 x, .int .i64 (t + k), .slice ps n cs, .slice pn m cn] 27)) := (Below.refl _ _).alloc (Nat.le_refl _) _
    have p0 := cell_below r0 bA2
    have p1 := cell_below r1 bA2
    have p2 := cell_below r2 bA2
    have p3 := cell_below r3 bA2
    have p4 := cell_below r4 bA2
    have p5 := cell_below r5 bA2
    have pf := ((unhide R4).below (by omega) bA2).2
    clear bA2
    go_wp2
    obtain ⟨Y, hY⟩ : ∃ Y, Y = (w4.alloc (.cells #[.int .u64 e, .int .u64 g, .int .u64 x, .int .i64 (t + k), .slice ps n cs, .slice pn m cn] 27)) := ⟨_, rfl⟩
    obtain ⟨Z, hZ⟩ : ∃ Z, Z = ((((((Y.setCell ⟨w.heap.size + 1, 0, none⟩ (.int .u64 e)).setCell ⟨w.heap.size + 1, 1, none⟩ (.int .u64 g)).setCell ⟨w.heap.size + 1, 2, none⟩ (.int .u64 x)).setCell ⟨w.heap.size + 1, 3, none⟩ (.int .i64 (t + k))).setCell ⟨w.heap.size + 1, 4, none⟩ (.slice ps n cs)).setCell ⟨w.heap.size + 1, 5, none⟩ (.slice pn m cn)) := ⟨_, rfl⟩
    have bY : Below w4.heap.size w4 Y := by rw [hY]; exact (Below.refl _ _).alloc (Nat.le_refl _) _
    have hkZ : ∀ z, z ≠ w.heap.size + 1 → Z.heap[z]? = Y.heap[z]? := fun z hz => by
     rw [hZ]
     iterate 6 rw [RowKit.Below.heap_setCell _ _ _ _ hz]
    have b5 := Below.step b4 bY
    refine bodyPost_ret (v := .tuple #[stV e g x (t + k) (.slice ps n cs) (.slice pn m cn), .int .i64 0]) (by simp [results, Tryz.results27, go_sem, r0, r1, r2, r3, r4, r5, p0, p1, p2, p3, p4, p5]) rfl ⟨?_, ?_⟩
    ·rw [← hY, ← hZ]
     have hD : advD e g x t k ss ns = ⟨e, g, x, t + k, ss, ns⟩ := by unfold advD; rw [if_pos ⟨unhide eB, by omega⟩, if_neg (by omega)]
     have hC : advC e g x t k ss ns = 0 := by unfold advC; rw [if_pos ⟨unhide eB, by omega⟩, if_neg (by omega)]
     rw [hD, hC]
     have f := (((unhide F4).below bY).keep (w' := Z) (fun z hz _ => hkZ z (by omega))).mono (B' := w.heap.size) (by omega)
     exact ⟨ps, cs, pn, cn, by simp only; rw [unhide en, unhide em], by simp only; rw [unhide en, unhide em]; exact f⟩
    ·rw [← hY]
     exact (((((b5.setCell (by simp) _).setCell (by simp) _).setCell (by simp) _).setCell (by simp) _).setCell (by simp) _).setCell (by simp) _
end Go.Proofs.YtpbppdeleijhkaaGreatDoor
