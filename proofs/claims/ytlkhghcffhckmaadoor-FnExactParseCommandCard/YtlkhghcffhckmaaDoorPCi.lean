import Derived.Test.YtlkhghcffhckmaaDoorPCh
namespace Go.Proofs.YtlkhghcffhckmaaDoor
open Go.ChangeShapes Go.WideShapes Go.ChangeAt Go.RowKit
set_option linter.unusedVariables false
set_option linter.unusedSimpArgs false
set_option maxRecDepth 100000

def Part.byte : Part → Int
 | .inl .i8 => 83
 | .inl .i16 => 80
 | .inl .i32 => 86
 | .inl .i64 => 102
 | .inl .u8 => 109
 | .inl .u16 => 69
 | .inl .u32 => 71
 | .inl .u64 => 78
 | .inr .lt => 99
 | .inr .eq => 110
 | .inr .gt => 77
/-- a value that reads as the command C -/
def RdCm (w : World) (v : Value) (C : Cmd) : Prop := ∃ (a1 : Option Addr) (a2 a3 : Nat) (b1 : Option Addr) (b2 b3 : Nat), v = cmV C.k C.op C.se (.slice a1 a2 a3) C.fl (.slice b1 b2 b3) C.ep C.ge C.n C.m ∧ Rd w (.slice a1 a2 a3) C.pa ∧ Rd w (.slice b1 b2 b3) C.va
theorem RdCm.below {w w' : World} {v : Value} {C : Cmd} (h : RdCm w v C) (hb : Below w.heap.size w w') : RdCm w' v C := by
 obtain ⟨a1, a2, a3, b1, b2, b3, e, h1, h2⟩ := h
 exact ⟨a1, a2, a3, b1, b2, b3, e, h1.below hb, h2.below hb⟩
/-- a value of a command's form -/
def IsCm (v : Value) : Prop := ∃ (k op se : Int) (a1 : Option Addr) (a2 a3 : Nat) (fl : Int) (b1 : Option Addr) (b2 b3 : Nat) (ep ge n m : Int), v = cmV k op se (.slice a1 a2 a3) fl (.slice b1 b2 b3) ep ge n m
theorem isCm {k op se : Int} {a1 : Option Addr} {a2 a3 : Nat} {fl : Int} {b1 : Option Addr} {b2 b3 : Nat} {ep ge n m : Int} : IsCm (cmV k op se (.slice a1 a2 a3) fl (.slice b1 b2 b3) ep ge n m) := ⟨k, op, se, a1, a2, a3, fl, b1, b2, b3, ep, ge, n, m, rfl⟩
set_option maxHeartbeats 1600000 in
theorem fill_any (pt : Part) (C : Cmd) (V : Value) (p : Option Addr) (c n : Nat) (l : List Int) (en : Hid (l.length = n)) (w : World) (hC : RdCm w V C) (h : Rd w (.slice p n c) l) (hb : Hid (Byt l)) (hl : n ≤ 1048576) :
  Calls Tryd.prog 14 #[V, .int .u8 pt.byte, .slice p n c] w fun e w' => (∃ V', e = .returned (.tuple #[V', .bool (fillS C pt l).isSome]) ∧ IsCm V' ∧ ∀ C', fillS C pt l = some C' → RdCm w' V' C') ∧ Below w.heap.size w w' := by
 obtain ⟨a1, a2, a3, b1, b2, b3, rfl, h1, h2⟩ := hC
 rcases pt with (_ | _ | _ | _ | _ | _ | _ | _) | (_ | _ | _)
 ·refine (fill_S C.k C.op C.se C.fl C.ep C.ge C.n C.m a1 a2 a3 b1 b2 b3 p c n l en w h hb hl (numO l 4611686018427387904) (hide rfl)).mono ?_
  rintro e w' ⟨⟨v, rfl, hv⟩, hbl⟩
  refine ⟨⟨_, by rw [show (fillS C (.inl .i8) l).isSome = (numO l 4611686018427387904).isSome by simp only [fillS, Part.most, Option.isSome_map]], isCm, fun C' e' => ?_⟩, hbl⟩
  simp only [fillS, Part.most, Option.map_eq_some_iff] at e'
  obtain ⟨x, ex, rfl⟩ := e'
  have := hv x ex
  subst this
  exact ⟨a1, a2, a3, b1, b2, b3, rfl, h1.below hbl, h2.below hbl⟩
 ·refine (fill_P C.k C.op C.se C.fl C.ep C.ge C.n C.m a1 a2 a3 b1 b2 b3 p c n l en w h hb hl).mono ?_
  rintro e w' ⟨q, d, rfl, ho, hbl⟩
  refine ⟨⟨_, rfl, isCm, fun C' e' => ?_⟩, hbl⟩
  cases e'
  exact ⟨q, n, d, b1, b2, b3, rfl, ho.rd, h2.below hbl⟩
 ·refine (fill_V C.k C.op C.se C.fl C.ep C.ge C.n C.m a1 a2 a3 b1 b2 b3 p c n l en w h hb hl).mono ?_
  rintro e w' ⟨q, d, rfl, ho, hbl⟩
  refine ⟨⟨_, rfl, isCm, fun C' e' => ?_⟩, hbl⟩
  cases e'
  exact ⟨a1, a2, a3, q, n, d, rfl, h1.below hbl, ho.rd⟩
 ·refine (fill_f C.k C.op C.se C.fl C.ep C.ge C.n C.m a1 a2 a3 b1 b2 b3 p c n l en w h hb hl).mono ?_
  rintro e w' ⟨rfl, hbl⟩
  refine ⟨⟨_, by rw [show (fillS C (.inl .i64) l).isSome = (decide (l = [101]) || decide (l = [112])) by simp only [fillS]; by_cases q1 : l = [101] <;> by_cases q2 : l = [112] <;> simp [q1, q2]], isCm, fun C' e' => ?_⟩, hbl⟩
  simp only [fillS] at e'
  split at e'
  ·next h0 =>
   cases e'
   exact ⟨a1, a2, a3, b1, b2, b3, by simp [h0], h1.below hbl, h2.below hbl⟩
  ·next h0 =>
   split at e'
   ·cases e'
    exact ⟨a1, a2, a3, b1, b2, b3, by simp [h0], h1.below hbl, h2.below hbl⟩
   ·cases e'
 ·refine (fill_m C.k C.op C.se C.fl C.ep C.ge C.n C.m a1 a2 a3 b1 b2 b3 p c n l en w h hb hl).mono ?_
  rintro e w' ⟨rfl, hbl⟩
  refine ⟨⟨_, by rw [show (fillS C (.inl .u8) l).isSome = (decide (l = [120]) || decide (l = [115])) by simp only [fillS]; by_cases q1 : l = [120] <;> by_cases q2 : l = [115] <;> simp [q1, q2]], isCm, fun C' e' => ?_⟩, hbl⟩
  simp only [fillS] at e'
  split at e'
  ·next h0 =>
   cases e'
   exact ⟨a1, a2, a3, b1, b2, b3, by simp [h0], h1.below hbl, h2.below hbl⟩
  ·next h0 =>
   split at e'
   ·cases e'
    exact ⟨a1, a2, a3, b1, b2, b3, by simp [h0], h1.below hbl, h2.below hbl⟩
   ·cases e'
 ·refine (fill_E C.k C.op C.se C.fl C.ep C.ge C.n C.m a1 a2 a3 b1 b2 b3 p c n l en w h hb hl (numO l 4611686018427387904) (hide rfl)).mono ?_
  rintro e w' ⟨⟨v, rfl, hv⟩, hbl⟩
  refine ⟨⟨_, by rw [show (fillS C (.inl .u16) l).isSome = (numO l 4611686018427387904).isSome by simp only [fillS, Part.most, Option.isSome_map]], isCm, fun C' e' => ?_⟩, hbl⟩
  simp only [fillS, Part.most, Option.map_eq_some_iff] at e'
  obtain ⟨x, ex, rfl⟩ := e'
  have := hv x ex
  subst this
  exact ⟨a1, a2, a3, b1, b2, b3, rfl, h1.below hbl, h2.below hbl⟩
 ·refine (fill_G C.k C.op C.se C.fl C.ep C.ge C.n C.m a1 a2 a3 b1 b2 b3 p c n l en w h hb hl (numO l 4611686018427387904) (hide rfl)).mono ?_
  rintro e w' ⟨⟨v, rfl, hv⟩, hbl⟩
  refine ⟨⟨_, by rw [show (fillS C (.inl .u32) l).isSome = (numO l 4611686018427387904).isSome by simp only [fillS, Part.most, Option.isSome_map]], isCm, fun C' e' => ?_⟩, hbl⟩
  simp only [fillS, Part.most, Option.map_eq_some_iff] at e'
  obtain ⟨x, ex, rfl⟩ := e'
  have := hv x ex
  subst this
  exact ⟨a1, a2, a3, b1, b2, b3, rfl, h1.below hbl, h2.below hbl⟩
 ·refine (fill_N C.k C.op C.se C.fl C.ep C.ge C.n C.m a1 a2 a3 b1 b2 b3 p c n l en w h hb hl (numO l 1000000) (hide rfl)).mono ?_
  rintro e w' ⟨⟨v, rfl, hv⟩, hbl⟩
  refine ⟨⟨_, by rw [show (fillS C (.inl .u64) l).isSome = (numO l 1000000).isSome by simp only [fillS, Part.most, Option.isSome_map]], isCm, fun C' e' => ?_⟩, hbl⟩
  simp only [fillS, Part.most, Option.map_eq_some_iff] at e'
  obtain ⟨x, ex, rfl⟩ := e'
  have := hv x ex
  subst this
  exact ⟨a1, a2, a3, b1, b2, b3, rfl, h1.below hbl, h2.below hbl⟩
 ·refine (fill_c C.k C.op C.se C.fl C.ep C.ge C.n C.m a1 a2 a3 b1 b2 b3 p c n l en w h hb hl (numO l 4) (hide rfl)).mono ?_
  rintro e w' ⟨⟨v, rfl, hv⟩, hbl⟩
  refine ⟨⟨_, by rw [show (fillS C (.inr .lt) l).isSome = (numO l 4).isSome by simp only [fillS, Part.most, Option.isSome_map]], isCm, fun C' e' => ?_⟩, hbl⟩
  simp only [fillS, Part.most, Option.map_eq_some_iff] at e'
  obtain ⟨x, ex, rfl⟩ := e'
  have := hv x ex
  subst this
  exact ⟨a1, a2, a3, b1, b2, b3, rfl, h1.below hbl, h2.below hbl⟩
 ·refine (fill_n C.k C.op C.se C.fl C.ep C.ge C.n C.m a1 a2 a3 b1 b2 b3 p c n l en w h hb hl (numO l 5) (hide rfl)).mono ?_
  rintro e w' ⟨⟨v, rfl, hv⟩, hbl⟩
  refine ⟨⟨_, by rw [show (fillS C (.inr .eq) l).isSome = (numO l 5).isSome by simp only [fillS, Part.most, Option.isSome_map]], isCm, fun C' e' => ?_⟩, hbl⟩
  simp only [fillS, Part.most, Option.map_eq_some_iff] at e'
  obtain ⟨x, ex, rfl⟩ := e'
  have := hv x ex
  subst this
  exact ⟨a1, a2, a3, b1, b2, b3, rfl, h1.below hbl, h2.below hbl⟩
 ·refine (fill_M C.k C.op C.se C.fl C.ep C.ge C.n C.m a1 a2 a3 b1 b2 b3 p c n l en w h hb hl (numO l 1000000) (hide rfl)).mono ?_
  rintro e w' ⟨⟨v, rfl, hv⟩, hbl⟩
  refine ⟨⟨_, by rw [show (fillS C (.inr .gt) l).isSome = (numO l 1000000).isSome by simp only [fillS, Part.most, Option.isSome_map]], isCm, fun C' e' => ?_⟩, hbl⟩
  simp only [fillS, Part.most, Option.map_eq_some_iff] at e'
  obtain ⟨x, ex, rfl⟩ := e'
  have := hv x ex
  subst this
  exact ⟨a1, a2, a3, b1, b2, b3, rfl, h1.below hbl, h2.below hbl⟩
end Go.Proofs.YtlkhghcffhckmaaDoor
