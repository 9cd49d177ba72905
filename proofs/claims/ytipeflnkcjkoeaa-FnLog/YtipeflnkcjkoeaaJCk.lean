import Derived.Test.YtipeflnkcjkoeaaGA
import Derived.Lib.EndianBits
namespace Go.Proofs.Ytipeflnkcjkoeaa
open Go.ChangeShapes Go.WideShapes Go.ChangeAt Go.RowKit
set_option linter.unusedVariables false
set_option linter.unusedSimpArgs false

/-- every cell a byte -/
def Byt (l : List Int) : Prop := ∀ z ∈ l, 0 ≤ z ∧ z < 256

/-- a round of the checksum -/
def ckStep (h b : Int) : Int := ((h.toNat ^^^ b.toNat : Nat) : Int) * 16777619 % 4294967296
def ckFrom (h : Int) (l : List Int) : Int := l.foldl ckStep h
def ck (l : List Int) : Int := ckFrom 2166136261 l
theorem ckStep_lt (h b : Int) : 0 ≤ ckStep h b ∧ ckStep h b < 4294967296 := by unfold ckStep; omega
theorem ckTake_step (l : List Int) (k : Nat) (h : k < l.length) : ck (l.take (k + 1)) = ckStep (ck (l.take k)) l[k] := by
  unfold ck ckFrom
  rw [List.take_succ_eq_append_getElem h, List.foldl_append]; rfl
theorem ck_lt (l : List Int) : 0 ≤ ck l ∧ ck l < 4294967296 := by
  rcases l.eq_nil_or_concat with rfl | ⟨m, x, rfl⟩
  · unfold ck ckFrom; simp
  · unfold ck ckFrom; rw [List.concat_eq_append, List.foldl_append]; exact ckStep_lt _ _
theorem xor32 {h b : Nat} (h1 : h < 4294967296) (b1 : b < 256) : h ^^^ b < 4294967296 :=
  Nat.xor_lt_two_pow (n := 32) h1 (by omega)

theorem xorK (k : IntKind) (j : Nat) (hj : j ≤ k.bits) (hk : ∀ n : Int, 0 ≤ n → n < 2 ^ j → k.wrap n = n) (a b : Nat) (ha : a < 2 ^ j) (hb : b < 2 ^ j) : bits .xor k a b = ((a ^^^ b : Nat) : Int) := by
  have hp : 2 ^ j ≤ 2 ^ k.bits := Nat.pow_le_pow_right (by decide) hj
  have ha' : a % 2 ^ k.bits = a := Nat.mod_eq_of_lt (Nat.lt_of_lt_of_le ha hp)
  have hb' : b % 2 ^ k.bits = b := Nat.mod_eq_of_lt (Nat.lt_of_lt_of_le hb hp)
  have cast : ∀ n : Nat, n < 2 ^ j → ((n : Nat) : Int) < 2 ^ j := fun n h => by exact_mod_cast h
  simp only [bits, BitVec.ofInt_natCast, BitVec.toNat_xor, BitVec.toNat_ofNat, ha', hb']
  exact hk _ (Int.natCast_nonneg _) (cast _ (Nat.xor_lt_two_pow ha hb))
theorem ckU64 {a z : Int} (c0 : 0 ≤ a) (c1 : a < 4294967296) (z0 : 0 ≤ z) (z1 : z < 256) : (IntKind.u64.wrap (bits .xor .u64 a z * 16777619)).tmod 4294967296 = ckStep a z := by
  obtain ⟨m, rfl⟩ := Int.eq_ofNat_of_zero_le c0
  obtain ⟨n, rfl⟩ := Int.eq_ofNat_of_zero_le z0
  have hx := xor32 (h := m) (b := n) (by omega) (by omega)
  rw [xorK .u64 64 (by decide) wraps_u64 m n (by omega) (by omega)]
  unfold ckStep
  simp only [Int.ofNat_eq_natCast, Int.toNat_natCast]
  generalize m ^^^ n = y at *
  rw [u64_wrap_id _ (by omega) (by omega), Int.tmod_eq_emod_of_nonneg (by omega)]
theorem ckU32 {a z : Int} (c0 : 0 ≤ a) (c1 : a < 4294967296) (z0 : 0 ≤ z) (z1 : z < 256) : IntKind.u32.wrap (bits .xor .u32 a z * 16777619) = ckStep a z := by
  obtain ⟨m, rfl⟩ := Int.eq_ofNat_of_zero_le c0
  obtain ⟨n, rfl⟩ := Int.eq_ofNat_of_zero_le z0
  rw [xorK .u32 32 (by decide) wraps_u32 m n (by omega) (by omega), IntKind.wrap_u32]
  unfold ckStep
  simp only [Int.ofNat_eq_natCast, Int.toNat_natCast]

set_option maxHeartbeats 400000 in
theorem specCk_any (p : Option Addr) (c : Nat) (l : List Int) (w : World) (h : Rd w (.slice p l.length c) l) (hb : Byt l) (hl : l.length ≤ 4194304) :
    Calls Try.prog 9 #[.slice p l.length c] w fun e w' => e = .returned (.int .u32 (ck l)) ∧ Below w.heap.size w w' := by
  obtain ⟨p', c', ev, h⟩ := h
  simp only [Value.slice.injEq] at ev
  obtain ⟨rfl, -, rfl⟩ := ev
  go_enter Try.func9, Try.ntmps9
  go_wp2
  go_loopw [3, 4] (fun hh i wr => ∃ k : Nat, k ≤ l.length ∧ i = .int .i64 k ∧ hh = .int .u64 (ck (l.take k)) ∧ Below w.heap.size w wr) (fun _ i _ => l.length - (intOf i).toNat)
  case atStart => exact ⟨0, Nat.zero_le _, rfl, rfl, Below.refl _ _⟩
  case round =>
    obtain ⟨k, hk, rfl, rfl, hbr⟩ := hrel
    obtain ⟨c0, c1⟩ := ck_lt (l.take k)
    by_cases hlt : k < l.length
    · rcases h with rfl | ⟨b, o, rfl, hc⟩
      · simp at hlt
      · have hcx : wr.cell? ⟨b, o + k, none⟩ = some (.int .u8 l[k]) := (hbr.cell (p := ⟨b, o + k, none⟩) (World.block_lt_of_cell? w _ (hc k hlt))).trans (by rw [hc k hlt]; simp [List.getD, hlt])
        obtain ⟨z0, z1⟩ := hb l[k] (List.getElem_mem hlt)
        have HS := hide (ckTake_step l k hlt)
        have HM := hide hlt
        clear hc hb
        generalize l[k] = z at *
        generalize ck (l.take k) = a at *
        go_wp2
        go_roundw
        case rel => exact ⟨k + 1, by omega, by go_num, by rw [unhide HS, ckU64 c0 c1 z0 z1], hbr⟩
        case measure => simp [intOf]; omega
    · have e : k = l.length := by omega
      subst e
      rw [List.take_length] at *
      go_wp2
      go_ret
      exact ⟨rfl, hbr⟩

set_option maxHeartbeats 400000 in
theorem implCk_any (p : Option Addr) (c : Nat) (l : List Int) (w : World) (h : Rd w (.slice p l.length c) l) (hb : Byt l) (hl : l.length ≤ 4194304) :
    Calls Try.prog 11 #[.slice p l.length c] w fun e w' => e = .returned (.int .u32 (ck l)) ∧ Below w.heap.size w w' := by
  obtain ⟨p', c', ev, h⟩ := h
  simp only [Value.slice.injEq] at ev
  obtain ⟨rfl, -, rfl⟩ := ev
  go_enter Try.func11, Try.ntmps11
  go_wp2
  go_loopw [3, 8] (fun hh i wr => ∃ k : Nat, k ≤ l.length ∧ i = .int .i64 k ∧ hh = .int .u32 (ck (l.take k)) ∧ Below w.heap.size w wr) (fun _ i _ => l.length - (intOf i).toNat)
  case atStart => exact ⟨0, Nat.zero_le _, rfl, rfl, Below.refl _ _⟩
  case round =>
    obtain ⟨k, hk, rfl, rfl, hbr⟩ := hrel
    obtain ⟨c0, c1⟩ := ck_lt (l.take k)
    by_cases hlt : k < l.length
    · rcases h with rfl | ⟨b, o, rfl, hc⟩
      · simp at hlt
      · have hcx : wr.cell? ⟨b, o + k, none⟩ = some (.int .u8 l[k]) := (hbr.cell (p := ⟨b, o + k, none⟩) (World.block_lt_of_cell? w _ (hc k hlt))).trans (by rw [hc k hlt]; simp [List.getD, hlt])
        obtain ⟨z0, z1⟩ := hb l[k] (List.getElem_mem hlt)
        have HS := hide (ckTake_step l k hlt)
        have HM := hide hlt
        clear hc hb
        generalize l[k] = z at *
        generalize ck (l.take k) = a at *
        go_wp2
        go_roundw
        case rel => exact ⟨k + 1, by omega, by go_num, by rw [unhide HS, ← ckU32 c0 c1 z0 z1, IntKind.wrap_u32], hbr⟩
        case measure => simp [intOf]; omega
    · have e : k = l.length := by omega
      subst e
      rw [List.take_length] at *
      go_wp2
      go_ret
      exact ⟨rfl, hbr⟩
end Go.Proofs.Ytipeflnkcjkoeaa
