import Derived.Test.YtieofdbdkpdlcaaDoorVS4
namespace Go.Proofs.YtieofdbdkpdlcaaDoor
open Go.ChangeShapes Go.WideShapes Go.ChangeAt Go.RowKit
set_option linter.unusedVariables false
set_option linter.unusedSimpArgs false
set_option maxRecDepth 100000

theorem cellFr (w : World) (C : Array Value) (e : TypeId) (fr : Nat × Nat) (i : Nat) : (w.alloc (.cells C e fr)).cell? ⟨w.heap.size, i, none⟩ = C[i]? := by
  have h : (w.alloc (.cells C e fr)).heap[w.heap.size]? = some (.cells C e fr) := by
    show (w.heap.push (.cells C e fr))[w.heap.size]? = _
    simp
  unfold World.cell?
  rw [h]
  rfl
/-- the place of the last '/' (0 where there is none) -/
def lsl (l : List Int) (k : Nat) : Nat := (List.range k).foldl (fun a i => if l.getD i 0 = 47 then i else a) 0
theorem lsl_step (l : List Int) (k : Nat) : lsl l (k + 1) = if l.getD k 0 = 47 then k else lsl l k := by
  rw [lsl, List.range_succ, List.foldl_append]; rfl
theorem lsl_le (l : List Int) (k : Nat) : lsl l k ≤ k := by
  induction k with
  | zero => exact Nat.le_refl _
  | succ k ih => rw [lsl_step]; split <;> omega
/-- a path's parent -/
def parL (l : List Int) : List Int := if lsl l l.length = 0 then [47] else l.take (lsl l l.length)

set_option maxHeartbeats 800000 in
theorem l3parent_any (p : Option Addr) (c n : Nat) (l : List Int) (en : Hid (l.length = n)) (w : World) (h : Rd w (.slice p n c) l) (hn : n ≤ 1048576) (hc : n ≤ c) (hcm : c ≤ maxLen) :
    Calls Tryd.prog 73 #[.slice p n c] w fun r w' => ∃ q m d, r = .returned (.slice q m d) ∧ (parL l).length = m ∧ m ≤ n + 1 ∧ Rd w' (.slice q m d) (parL l) ∧ Below w.heap.size w w' := by
  have HR := hide h
  clear h
  go_enter Tryd.func73, Tryd.ntmps73
  go_wp2_with fail
  go_loopw [3, 4] (fun av iv wr => ∃ k a : Nat, k ≤ n ∧ iv = .int .i64 k ∧ av = .int .i64 a ∧ a ≤ k ∧ Hid (lsl l k = a) ∧ wr = w) (fun _ iv _ => n - (intOf iv).toNat)
  case atStart => exact ⟨0, 0, Nat.zero_le _, rfl, rfl, Nat.le_refl _, (by show _ = _; rfl), rfl⟩
  case round =>
    obtain ⟨k, a, hk, rfl, rfl, hak, hls, rfl⟩ := hrel
    by_cases hlt : k < n
    · have hlt' : (k : Int) < (n : Int) := by omega
      have hkl : k < l.length := by rw [unhide en]; exact hlt
      obtain ⟨b, o, rfl, -, hcell⟩ := (unhide HR).at (by omega)
      have hcx := hcell k hkl
      have hst := lsl_step l k
      obtain ⟨y, ey⟩ : ∃ y, l.getD k 0 = y := ⟨_, rfl⟩
      rw [ey] at hcx hst
      clear hcell hkl ey
      by_cases h47 : y = 47
      · subst h47
        rw [if_pos rfl] at hst
        have HST := hide hst
        clear hst
        go_wp2
        go_roundw
        case rel => exact ⟨k + 1, k, by omega, by go_num, rfl, by omega, HST, by first | rfl | trivial⟩
        case measure => simp [intOf]; omega
      · have h47d : (y == 47) = false := by simp [h47]
        rw [if_neg h47, unhide hls] at hst
        have HST := hide hst
        clear hst
        go_wp2
        go_roundw
        case rel => exact ⟨k + 1, a, by omega, by go_num, rfl, by omega, HST, by first | rfl | trivial⟩
        case measure => simp [intOf]; omega
    · have hlt' : ¬ (k : Int) < (n : Int) := by omega
      have ekn : k = n := by omega
      subst ekn
      clear hk hlt
      by_cases ha : a = 0
      · subst ha
        have hpl : Hid (parL l = [47]) := by show _ = _; rw [parL, unhide en, unhide hls, if_pos rfl]
        have hcv := Lib.run_convert_bytes_const (P := Tryd.prog) wr 22 5 #[.int .u8 47] 1 1 Tryd.underlying22 Tryd.underlying5
        go_wp2
        go_ret
        refine ⟨_, _, _, rfl, by rw [unhide hpl]; rfl, by omega, ?_, (Below.refl _ _).alloc (Nat.le_refl _) _⟩
        rw [unhide hpl]
        refine ⟨_, _, rfl, .inr ⟨wr.heap.size, 0, rfl, fun i hi => ?_⟩⟩
        match i, hi with
        | 0, _ => (rw [Nat.zero_add, cellFr]; rfl)
      · have ha' : ((a : Int) == 0) = false := by simp [ha]
        have hpl : Hid (parL l = l.take a) := by show _ = _; rw [parL, unhide en, unhide hls, if_neg ha]
        obtain ⟨b, o, rfl, -, -⟩ := (unhide HR).at (by rw [unhide en]; omega)
        have g1 : (a : Int) ≤ (k : Int) := by omega
        have g2 : (a : Int) ≤ (c : Int) := by omega
        have HRC := (unhide HR).cut 0 a (Nat.zero_le _) (by rw [unhide en]; omega) (some ⟨b, o, none⟩) (.inr rfl) c (l.take a) (by simp)
        have HRD := hide HRC
        clear HRC
        go_wp2
        go_ret
        exact ⟨_, _, _, rfl, by rw [unhide hpl, List.length_take, unhide en]; omega, by omega, by rw [unhide hpl]; exact unhide HRD, Below.refl _ _⟩
end Go.Proofs.YtieofdbdkpdlcaaDoor
