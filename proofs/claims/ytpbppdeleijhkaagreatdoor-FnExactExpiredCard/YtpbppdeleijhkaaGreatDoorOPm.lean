import Derived.Test.YtpbppdeleijhkaaGreatDoorOPa
import Derived.Test.YtpbppdeleijhkaaGreatDoorVPm
namespace Go.Proofs.YtpbppdeleijhkaaGreatDoor
open Go.ChangeShapes Go.WideShapes Go.ChangeAt Go.RowKit
set_option linter.unusedVariables false
set_option linter.unusedSimpArgs false
set_option maxRecDepth 100000

/-- a number in bytes of seven bits; the fuel is the number of bytes that may still follow -/
def viF : Nat → Nat → List Int
  | 0, n => [(n : Int)]
  | f + 1, n => if n < 128 then [(n : Int)] else ((n % 128 + 128 : Nat) : Int) :: viF f (n / 128)
def vi (n : Nat) : List Int := viF 9 n
theorem viF_small (f n : Nat) (h : n < 128) : viF f n = [(n : Int)] := by
  cases f with
  | zero => rfl
  | succ f => rw [viF, if_pos h]
theorem viF_big (f n : Nat) (h : ¬ n < 128) : viF (f + 1) n = ((n % 128 + 128 : Nat) : Int) :: viF f (n / 128) := by rw [viF, if_neg h]
theorem viF_len (f : Nat) : ∀ n, 1 ≤ (viF f n).length ∧ (viF f n).length ≤ f + 1 := by
  induction f with
  | zero => intro n; simp [viF]
  | succ f ih =>
    intro n
    rw [viF]
    split
    · simp
    · have := ih (n / 128)
      simp
      omega
theorem viF_byt (f : Nat) : ∀ n, n < 128 ^ (f + 1) → Byt (viF f n) := by
  induction f with
  | zero => intro n hn z hz; simp [viF] at hz; subst hz; simp at hn; omega
  | succ f ih =>
    intro n hn
    rw [viF]
    split
    · intro z hz; simp at hz; subst hz; omega
    · intro z hz
      rcases List.mem_cons.1 hz with rfl | hz
      · omega
      · exact ih (n / 128) (by rw [Nat.div_lt_iff_lt_mul (by omega)]; rw [Nat.pow_succ] at hn; exact hn) z hz
theorem vi_byt {n : Nat} (h : n < 18446744073709551616) : Byt (vi n) := viF_byt 9 n (by omega)
theorem vi_len (n : Nat) : 1 ≤ (vi n).length ∧ (vi n).length ≤ 10 := viF_len 9 n
theorem Byt.app {l m : List Int} (h : Byt l) (k : Byt m) : Byt (l ++ m) := fun z hz => by
  rcases List.mem_append.1 hz with hz | hz
  · exact h z hz
  · exact k z hz

theorem or_all : ((List.range 256).all fun y => bits .or .u8 (y : Int) 128 == ((y % 128 + 128 : Nat) : Int)) = true := by decide +kernel
theorem or128 (x : Nat) : bits .or .u8 ((x : Int) % 256) 128 = ((x % 128 + 128 : Nat) : Int) := by
  have h := List.all_eq_true.1 or_all (x % 256) (List.mem_range.2 (Nat.mod_lt _ (by omega)))
  have h2 := beq_iff_eq.1 h
  rw [show ((x : Int) % 256) = ((x % 256 : Nat) : Int) by omega, h2]
  congr 1
  omega

set_option maxHeartbeats 1600000 in
theorem l3var_any (f : Nat) : ∀ (v : Nat) (w : World), v < 128 ^ (f + 1) → v < 18446744073709551616 → f ≤ 9 → ∀ (N : Nat), Hid ((viF f v).length = N) →
    Calls Tryz.prog 97 #[.int .u64 v] w fun e w' => ∃ p' c', e = .returned (.slice p' N c') ∧ Own w.heap.size w' (.slice p' N c') (viF f v) ∧ Below w.heap.size w w' := by
  induction f with
  | zero =>
    intro v w hv h64 hf N hN
    have h : v < 128 := by simpa using hv
    have hN1 : N = 1 := by rw [← unhide hN]; rfl
    subst hN1
    have h' : (v : Int) < 128 := by omega
    have wv : IntKind.u8.wrap (v : Int) = (v : Int) := by rw [IntKind.wrap_u8]; omega
    go_enter Tryz.func97, Tryz.ntmps97
    go_wp2
    go_ret
    exact ⟨_, _, rfl, (by have := Own.one w (v : Int); exact this), (Below.refl _ _).alloc (Nat.le_refl _) _⟩
  | succ f ih =>
    intro v w hv h64 hf N hN
    by_cases h : v < 128
    · have e : viF (f + 1) v = [(v : Int)] := viF_small _ _ h
      have hN1 : N = 1 := by rw [← unhide hN, e]; rfl
      subst hN1
      rw [e]
      have h' : (v : Int) < 128 := by omega
      have wv : IntKind.u8.wrap (v : Int) = (v : Int) := by rw [IntKind.wrap_u8]; omega
      clear e hN ih
      go_enter Tryz.func97, Tryz.ntmps97
      go_wp2
      go_ret
      exact ⟨_, _, rfl, (by have := Own.one w (v : Int); exact this), (Below.refl _ _).alloc (Nat.le_refl _) _⟩
    · have h' : ¬ (v : Int) < 128 := by omega
      obtain ⟨V, eV⟩ : ∃ V, v / 128 = V := ⟨_, rfl⟩
      have hd : (v : Int) / 128 = (V : Int) := by omega
      have hV1 : V < 128 ^ (f + 1) := by
        rw [← eV, Nat.div_lt_iff_lt_mul (by omega)]
        rw [Nat.pow_succ] at hv
        exact hv
      obtain ⟨M, eM⟩ : ∃ M, (viF f V).length = M := ⟨_, rfl⟩
      have hM := viF_len f V
      have hih : ∀ w : World, _ := fun w => ih V w hV1 (by omega) (by omega) M eM
      have e : viF (f + 1) v = [((v % 128 + 128 : Nat) : Int)] ++ viF f V := by rw [viF_big _ _ h, eV]; rfl
      obtain ⟨y, ey⟩ : ∃ y : Int, (v : Int) % 128 + 128 = y := ⟨_, rfl⟩
      have ey2 : (((v % 128 + 128 : Nat)) : Int) = y := by rw [← ey]; omega
      rw [ey2] at e
      have hNM : N = 1 + M := by rw [← unhide hN, e, List.length_append, eM]; rfl
      have HIH := hide hih
      have EE := hide e
      have EM := hide eM
      rw [eM] at hM
      clear hih e eV ih hN eM
      go_enter Tryz.func97, Tryz.ntmps97
      go_wp2_with fail
      try rw [hd]
      try rw [ey]
      refine (unhide HIH _).mono ?_
      rintro e w1 ⟨p1, c1, rfl, o1, hb1⟩
      have oo : Own w.heap.size (w.alloc (.cells #[.int .u8 y] 5)) (.slice (some ⟨w.heap.size, 0, none⟩) 1 1) [y] := Own.one w y
      have oo1 := Own.below oo hb1
      have bA : Below w.heap.size w (w.alloc (.cells #[.int .u8 y] 5)) := (Below.refl _ _).alloc (Nat.le_refl _) _
      have b1 := Below.step bA hb1
      have z1 := b1.size
      have r1 := o1.rd
      clear oo hb1 bA o1
      go_wp2_with (at_builtin; refine wpList_append_rdn rfl _ _ rfl w.heap.size (.slice (some ⟨w.heap.size, 0, none⟩) 1 1) [y] (viF f V) (viF (f + 1) v) EE p1 c1 M EM rfl rfl oo1 r1 (by rw [unhide EM]; simp; omega) (by omega) ?_)
      intro p2 c2 w2 o2 hg2
      have b2 := below_grown b1 hg2 oo1 (Nat.le_refl _) (by omega)
      have eL : (viF (f + 1) v).length = N := by rw [unhide EE, List.length_append, unhide EM, hNM]; rfl
      rw [eL] at o2 ⊢
      clear hg2 oo1 r1 b1
      go_wp2
      go_ret
      exact ⟨p2, c2, rfl, o2, b2⟩

set_option maxHeartbeats 1600000 in
theorem varint_any (v : Nat) (w : World) (h64 : v < 18446744073709551616) :
    Calls Tryz.prog 68 #[.int .u64 v] w fun e w' => ∃ p' c', e = .returned (.slice p' (vi v).length c') ∧ Own w.heap.size w' (.slice p' (vi v).length c') (vi v) ∧ Below w.heap.size w w' := by
  go_enter Tryz.func68, Tryz.ntmps68
  go_wp2
  go_loopw [0, 3] (fun nv ov wr => ∃ (x f N : Nat) (pre : List Int) (pv : Option Addr) (cv : Nat), nv = .int .u64 x ∧ x < 18446744073709551616 ∧ Hid (x < 128 ^ (f + 1)) ∧ N + f ≤ 9 ∧ ov = .slice pv N cv ∧ Hid (pre.length = N) ∧ Hid (vi v = pre ++ viF f x) ∧ Own w.heap.size wr (.slice pv N cv) pre ∧ Below w.heap.size w wr) (fun nv _ _ => (intOf nv).toNat)
  case atStart => exact ⟨v, 9, 0, [], none, 0, rfl, h64, (by show _ < _; omega), by omega, rfl, rfl, rfl, World.ownsRow_nil _ _ _ _, Below.refl _ _⟩
  case round =>
    obtain ⟨x, f, N, pre, pv, cv, rfl, hx, hxf, hNf, rfl, eN, eV, ho, hbr⟩ := hrel
    have zr := hbr.size
    by_cases h : x < 128
    · have h' : ¬ (128 : Int) ≤ (x : Int) := by omega
      have wx : IntKind.u8.wrap (x : Int) = (x : Int) := by rw [IntKind.wrap_u8]; omega
      have eE : Hid (vi v = pre ++ [(x : Int)]) := by show _ = _; rw [unhide eV, viF_small _ _ h]
      go_wp2_with (at_builtin; refine wpList_append_byte rfl _ _ rfl w.heap.size (.slice pv N cv) pre (vi v) (x : Int) eE wr.heap.size rfl rfl (Own.below ho ((Below.refl _ _).alloc (Nat.le_refl _) _)) (by simp) (by rw [unhide eN]; omega) (by simp; omega) ?_)
      intro p2 c2 w2 o2 hg2
      have b2 : Below w.heap.size w w2 := (hbr.alloc hbr.size _).grown hg2 (by simp; omega) (fun k hk => (ho.lt k hk).1)
      clear hg2
      go_wp2
      go_ret
      exact ⟨p2, c2, rfl, o2, b2⟩
    · have h' : (128 : Int) ≤ (x : Int) := by omega
      obtain ⟨f', rfl⟩ : ∃ f', f = f' + 1 := by
        cases f with
        | zero => have := unhide hxf; simp at this; omega
        | succ f' => exact ⟨f', rfl⟩
      obtain ⟨X, eX⟩ : ∃ X, x / 128 = X := ⟨_, rfl⟩
      have hX : Hid (X < 128 ^ (f' + 1)) := by
        show _ < _
        have := unhide hxf
        rw [← eX, Nat.div_lt_iff_lt_mul (by omega)]
        rw [Nat.pow_succ] at this
        exact this
      obtain ⟨y, ey⟩ : ∃ y : Int, ((x % 128 + 128 : Nat) : Int) = y := ⟨_, rfl⟩
      have hor := or128 x
      rw [ey] at hor
      have hd : (x : Int) / 128 = (X : Int) := by omega
      have eV2 : Hid (vi v = (pre ++ [y]) ++ viF f' X) := by show _ = _; rw [unhide eV, viF_big _ _ h, eX, ey]; simp
      have hXx : X < x := by omega
      have hy : ey = ey := rfl
      obtain ⟨pre2, ep0⟩ : ∃ pre2, pre2 = pre ++ [y] := ⟨_, rfl⟩
      have eP := hide ep0
      have eN2 : Hid (pre2.length = N + 1) := by show _ = _; rw [ep0, List.length_append, unhide eN]; rfl
      rw [← ep0] at eV2
      clear ep0 eX ey hy
      go_wp2_with (at_builtin; refine wpList_append_byte rfl _ _ rfl w.heap.size (.slice pv N cv) pre pre2 y eP wr.heap.size rfl rfl (Own.below ho ((Below.refl _ _).alloc (Nat.le_refl _) _)) (by simp) (by rw [unhide eN]; omega) (by simp; omega) ?_)
      intro p2 c2 w2 o2 hg2
      have b2 : Below w.heap.size w w2 := (hbr.alloc hbr.size _).grown hg2 (by simp; omega) (fun k hk => (ho.lt k hk).1)
      rw [unhide eN2] at o2 ⊢
      clear hg2
      go_wp2
      go_roundw
      case rel => exact ⟨X, f', N + 1, pre2, p2, c2, by go_num, by omega, hX, by omega, rfl, eN2, eV2, o2, b2⟩
      case measure => simp [intOf]; omega
end Go.Proofs.YtpbppdeleijhkaaGreatDoor
