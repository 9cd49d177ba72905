import Derived.Test.YteljknmkodllkaaDr
import Derived.OneCell
namespace Go.Proofs.Yteljknmkodllkaa
open Go.ChangeShapes Go.WideShapes Go.ChangeAt Go.RowKit
set_option linter.unusedVariables false
set_option linter.unusedSimpArgs false

def fno (x : Int) : Int := if x = 250 then -1 else if x = 251 then 3 else x % 3
def fsy (n : Nat) (x : Int) : Int := if x = 250 then n + 1 else if x = 251 then -1 else x % (n + 1)

set_option maxHeartbeats 800000 in
theorem drawFileNo_any (g : Nat) (p : Option Addr) (cd : List Int) (c t : Nat) (w : World) (h : Rdr w g p cd c t) (hb : ∀ z ∈ cd, 0 ≤ z ∧ z < 256) (hl : cd.length ≤ 500) :
    Calls Try.prog 43 #[.pointer (some ⟨g, 0, none⟩)] w fun e w' => e = .returned (.int .i64 (fno (cd.getD t 0))) ∧ Rdr w' g p cd c (t + 1) ∧ Kept [blk g] w w' := by
  have hr := getD_range cd hb t
  go_enter Try.func43, Try.ntmps43
  go_wp2_with fail
  refine (next_any g p cd c t _ h hb hl).mono ?_
  rintro e w1 ⟨rfl, h1, k1⟩
  obtain ⟨x, ex⟩ : ∃ x, x = cd.getD t 0 := ⟨_, rfl⟩
  have E1 : x = 250 → Hid (fno (cd.getD t 0) = -1) := by intro e; show _ = _; unfold fno; rw [← ex, if_pos e]
  have E2 : ¬ x = 250 → x = 251 → Hid (fno (cd.getD t 0) = 3) := by intro e e'; show _ = _; unfold fno; rw [← ex, if_neg e, if_pos e']
  have E3 : ¬ x = 250 → ¬ x = 251 → Hid (fno (cd.getD t 0) = x % 3) := by intro e e'; show _ = _; unfold fno; rw [← ex, if_neg e, if_neg e']
  rw [← ex] at hr ⊢
  clear ex
  by_cases e1 : x = 250
  · have E := E1 e1
    have hx : (x == 250) = true := by simp [e1]
    clear E1 E2 E3 e1
    go_wp2
    go_ret
    exact ⟨by rw [unhide E]; rfl, h1, k1⟩
  · by_cases e2 : x = 251
    · have E := E2 e1 e2
      have hx : (x == 250) = false := by simp [e1]
      have hy : (x == 251) = true := by simp [e2]
      clear E1 E2 E3 e1 e2
      go_wp2
      go_ret
      exact ⟨by rw [unhide E]; rfl, h1, k1⟩
    · have E := E3 e1 e2
      have hx : (x == 250) = false := by simp [e1]
      have hy : (x == 251) = false := by simp [e2]
      clear E1 E2 E3 e1 e2
      go_wp2
      go_ret
      exact ⟨by rw [unhide E]; rfl, h1, k1⟩

theorem Own.setNo {B : Nat} {w : World} {v : Value} {l : List Int} (h : Own B w v l) {a : Addr} (ha : v.ownBlock ≠ some a.block) (u : Value) : Own B (w.setCell a u) v l := ownsRow_setCell_other h ha u

set_option maxHeartbeats 1000000 in
theorem drawFile_any (g : Nat) (p : Option Addr) (cd : List Int) (c t : Nat) (w : World) (h : Rdr w g p cd c t) (hb : ∀ z ∈ cd, 0 ≤ z ∧ z < 256) (hl : cd.length ≤ 500) :
    Calls Try.prog 62 #[.pointer (some ⟨g, 0, none⟩)] w fun e w' => ∃ p' c', e = .returned (fileV (.slice p' (dB cd t).length c') (fsy (dB cd t).length (cd.getD (t + 1 + (dB cd t).length) 0))) ∧ Own w.heap.size w' (.slice p' (dB cd t).length c') (dB cd t) ∧ Rdr w' g p cd c (t + 1 + (dB cd t).length + 1) ∧ Kept [blk g] w w' := by
  have hg := h.lt
  have hlen := dB_le cd t
  have b0 : ∀ o : Obj, Below w.heap.size w (w.alloc o) := fun o => (Below.refl _ _).alloc (Nat.le_refl _) _
  go_enter Try.func62, Try.ntmps62
  go_wp2_with fail
  refine (drawBytes_any g p cd c t _ (h.below (b0 _)) hb hl).mono ?_
  rintro e w1 ⟨p', c', rfl, o1, h1, k1⟩
  have z1 : w.heap.size < w1.heap.size := by have := k1.size; simp at this; omega
  have q1 : w1.heap[w.heap.size]? = some (.cells #[.slice none 0 0, .int .i64 0] 29 (0, 0)) := (k1.block w.heap.size (by simp) (by intro v hv; simp only [List.mem_singleton] at hv; subst hv; simp [blk_own]; omega)).trans (heap_alloc_new w _)
  have K1 : Kept [blk g] w w1 := (Kept.of_below (b0 _)).trans k1
  have o1' : Own (w.heap.size + 1) w1 (.slice p' (dB cd t).length c') (dB cd t) := by simpa using o1
  clear k1 o1
  go_wp2_with fail
  refine (next_any g p cd c _ _ (h1.below ((Below.refl _ _).alloc (Nat.le_refl _) _)) hb hl).mono ?_
  rintro e w2 ⟨rfl, h2, k2⟩
  have z2 : w1.heap.size < w2.heap.size := by have := k2.size; simp at this; omega
  have za : w.heap.size < w2.heap.size := by omega
  have nb : ∀ b, w.heap.size ≤ b → ∀ v ∈ [blk g], v.ownBlock ≠ some b := by intro b hb v hv; simp only [List.mem_singleton] at hv; subst hv; simp [blk_own]; omega
  have q2 : w2.heap[w.heap.size]? = some (.cells #[.slice none 0 0, .int .i64 0] 29 (0, 0)) := (k2.block w.heap.size (by simp; omega) (nb _ (by omega))).trans ((Below.heap_alloc w1 _ _ z1).trans q1)
  have f2 : w2.heap[w1.heap.size]? = some (.cells #[.slice p' (dB cd t).length c', .int .i64 0] 29 (0, 0)) := (k2.block w1.heap.size (by simp) (nb _ (by omega))).trans (heap_alloc_new w1 _)
  have K2 : Kept [blk g] w w2 := (K1.alloc _).trans k2
  have o2 : Own (w.heap.size + 1) w2 (.slice p' (dB cd t).length c') (dB cd t) := Own.keptBlk (Own.below o1' ((Below.refl _ _).alloc (Nat.le_refl _) _)) k2 (by omega)
  have ra : w2.cell? ⟨w.heap.size, 0, none⟩ = some (.slice none 0 0) := by simp [World.cell?, q2]
  have rb : w2.cell? ⟨w.heap.size, 1, none⟩ = some (.int .i64 0) := by simp [World.cell?, q2]
  have rz : ∀ o, w2.frozen? ⟨w.heap.size, o, none⟩ = false := by intro o; simp [World.frozen?, q2]
  have fa : w2.cell? ⟨w1.heap.size, 0, none⟩ = some (.slice p' (dB cd t).length c') := by simp [World.cell?, f2]
  have fb : w2.cell? ⟨w1.heap.size, 1, none⟩ = some (.int .i64 0) := by simp [World.cell?, f2]
  have fz : ∀ o, w2.frozen? ⟨w1.heap.size, o, none⟩ = false := by intro o; simp [World.frozen?, f2]
  have hzne : w.heap.size ≠ w1.heap.size := by omega
  obtain ⟨x, ex⟩ : ∃ x, x = cd.getD (t + 1 + (dB cd t).length) 0 := ⟨_, rfl⟩
  have hr := getD_range cd hb (t + 1 + (dB cd t).length)
  obtain ⟨n, en⟩ : ∃ n, n = (dB cd t).length := ⟨_, rfl⟩
  have E1 : x = 250 → Hid (fsy (dB cd t).length (cd.getD (t + 1 + (dB cd t).length) 0) = n + 1) := by intro e; show _ = _; unfold fsy; rw [← ex, if_pos e, ← en]
  have E2 : ¬ x = 250 → x = 251 → Hid (fsy (dB cd t).length (cd.getD (t + 1 + (dB cd t).length) 0) = -1) := by intro e e'; show _ = _; unfold fsy; rw [← ex, if_neg e, if_pos e']
  have E3 : ¬ x = 250 → ¬ x = 251 → Hid (fsy (dB cd t).length (cd.getD (t + 1 + (dB cd t).length) 0) = x % (n + 1)) := by intro e e'; show _ = _; unfold fsy; rw [← ex, if_neg e, if_neg e', ← en]
  have HEN := hide en
  have o3 : Own (w.heap.size + 1) w2 (.slice p' n c') (dB cd t) := by rw [en]; exact o2
  have neF : (Value.slice p' n c').ownBlock ≠ some w1.heap.size := by
    intro e
    have := (o1'.lt w1.heap.size (by rw [← en]; exact e)).2
    omega
  rw [← ex] at hr ⊢
  rw [← en] at fa hlen ⊢
  have H := hide h
  have H2 := hide h2
  have KK := hide K2
  have O3 := hide o3
  clear ex en o2 o1' K1 K2 k2 q1 q2 f2 h1 h2 h o3
  have fin : ∀ Z : World, Below w.heap.size w2 Z → Rdr Z g p cd c (t + 1 + (dB cd t).length + 1) ∧ Kept [blk g] w Z := by
    intro Z b3
    have k3 : Kept [blk g] w Z :=
      ⟨b3.os.trans (unhide KK).os, b3.tape.trans (unhide KK).tape, b3.output.trans (unhide KK).output, Nat.le_trans (unhide KK).size b3.size, fun k hk hne => (b3.block k hk).trans ((unhide KK).block k hk hne)⟩
    exact ⟨(unhide H).again k3 (unhide H2) (b3.block g hg), k3⟩
  have FIN := hide fin
  clear fin
  have hd0 : (0 : Int) < (n : Int) + 1 := by omega
  have hd1 : ((n : Int) + 1 == 0) = false := by simp; omega
  by_cases e1 : x = 250
  · have E := E1 e1
    have hx : (x == 250) = true := by simp [e1]
    have hy : (x == 251) = false := by simp [e1]
    clear E1 E2 E3 e1
    go_wp2
    refine bodyPost_ret (v := fileV (.slice p' n c') ((n : Int) + 1)) (by simp [results, Try.results62, go_sem, ra, rb, fa, fb]) rfl ⟨p', c', by rw [unhide E, ← unhide HEN], ?_, unhide FIN _ ?_⟩
    · rw [← unhide HEN]
      refine Own.mono (B := w.heap.size + 1) ?_ (by omega)
      repeat (first | refine Own.setNo ?_ neF _ | refine Own.set ?_ (by simp) _)
      exact unhide O3
    · repeat (refine Below.setCell ?_ (by simp <;> omega) _)
      exact Below.refl _ _
  by_cases e2 : x = 251
  · have E := E2 e1 e2
    have hx : (x == 250) = false := by simp [e1]
    have hy : (x == 251) = true := by simp [e2]
    clear E1 E2 E3 e1 e2
    go_wp2
    refine bodyPost_ret (v := fileV (.slice p' n c') (-1)) (by simp [results, Try.results62, go_sem, ra, rb, fa, fb]) rfl ⟨p', c', by rw [unhide E, ← unhide HEN], ?_, unhide FIN _ ?_⟩
    · rw [← unhide HEN]
      refine Own.mono (B := w.heap.size + 1) ?_ (by omega)
      repeat (first | refine Own.setNo ?_ neF _ | refine Own.set ?_ (by simp) _)
      exact unhide O3
    · repeat (refine Below.setCell ?_ (by simp <;> omega) _)
      exact Below.refl _ _
  · have E := E3 e1 e2
    have hx : (x == 250) = false := by simp [e1]
    have hy : (x == 251) = false := by simp [e2]
    clear E1 E2 E3 e1 e2
    go_wp2
    refine bodyPost_ret (v := fileV (.slice p' n c') (x % ((n : Int) + 1))) (by simp [results, Try.results62, go_sem, ra, rb, fa, fb]) rfl ⟨p', c', by rw [unhide E, ← unhide HEN], ?_, unhide FIN _ ?_⟩
    · rw [← unhide HEN]
      refine Own.mono (B := w.heap.size + 1) ?_ (by omega)
      repeat (first | refine Own.setNo ?_ neF _ | refine Own.set ?_ (by simp) _)
      exact unhide O3
    · repeat (refine Below.setCell ?_ (by simp <;> omega) _)
      exact Below.refl _ _
end Go.Proofs.Yteljknmkodllkaa
