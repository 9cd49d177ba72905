import Derived.Test.YtlkhghcffhckmaaDoorProg
namespace Go.Proofs.YtlkhghcffhckmaaDoor
set_option linter.unusedVariables false
set_option linter.unusedSimpArgs false
set_option maxRecDepth 100000

/-- a command -/
structure Cmd where
  k : Int
  op : Int
  se : Int
  pa : List Int
  fl : Int
  va : List Int
  ep : Int
  ge : Int
  n : Int
  m : Int
def cmd0 : Cmd := ⟨0, 0, 0, [], 0, [], 0, 0, 0, 0⟩
/-- a number of at most 19 digits, and its bound -/
def digs (w : List Int) : Bool := w.all fun c => decide (48 ≤ c) && decide (c ≤ 57)
def numV (w : List Int) : Int := w.foldl (fun v c => v * 10 + (c - 48)) 0
def numO (w : List Int) (most : Int) : Option Int := if (1 ≤ w.length ∧ w.length ≤ 19) ∧ digs w = true ∧ numV w ≤ most then some (numV w) else none
/-- what a word is put into: the specification's parts -/
abbrev Part := Sum IntKind Ordering
def Part.most : Part → Int
  | .inl .u64 => 1000000
  | .inr .gt => 1000000
  | .inr .lt => 4
  | .inr .eq => 5
  | _ => 4611686018427387904
def fillS (c : Cmd) (p : Part) (w : List Int) : Option Cmd :=
  match p with
  | .inl .i16 => some { c with pa := w }
  | .inl .i32 => some { c with va := w }
  | .inl .i64 => if w = [101] then some { c with fl := 1 } else if w = [112] then some c else none
  | .inl .u8 => if w = [120] then some { c with fl := 1 } else if w = [115] then some { c with fl := 2 } else none
  | .inl .i8 => (numO w (Part.most (.inl .i8))).map fun v => { c with se := v }
  | .inl .u16 => (numO w (Part.most (.inl .u16))).map fun v => { c with ep := v }
  | .inl .u32 => (numO w (Part.most (.inl .u32))).map fun v => { c with ge := v }
  | .inl .u64 => (numO w (Part.most (.inl .u64))).map fun v => { c with n := v }
  | .inr .eq => (numO w (Part.most (.inr .eq))).map fun v => { c with n := v }
  | .inr .lt => (numO w (Part.most (.inr .lt))).map fun v => { c with m := v }
  | .inr .gt => (numO w (Part.most (.inr .gt))).map fun v => { c with m := v }
def fillsS : Cmd → List Part → List (List Int) → Option Cmd
  | c, _, [] => some c
  | c, p :: ps, w :: ws => (fillS c p w).bind fun c' => fillsS c' ps ws
  | _, [], _ :: _ => none
def bs (s : String) : List Int := s.toUTF8.data.toList.map fun b => (b.toNat : Int)
/-- the first word's shape, kind and request -/
def shapes : List (List Int × List Part × Int × Int) :=
  [([111, 112, 101, 110], [], 0, 1), ([107, 101, 101, 112], [.inl .i8], 0, 2), ([99, 108, 111, 115, 101], [.inl .i8], 0, 3), ([112, 111, 108, 108], [.inl .i8], 0, 12),
   ([99, 114, 101, 97, 116, 101], [.inl .i8, .inl .i16, .inl .i64, .inl .i32], 0, 4), ([100, 101, 108, 101, 116, 101], [.inl .i8, .inl .i16], 0, 5), ([117, 110, 108, 111, 99, 107], [.inl .i8, .inl .i16], 0, 9), ([119, 97, 116, 99, 104], [.inl .i8, .inl .i16], 0, 11),
   ([103, 101, 116], [.inl .i16], 0, 6), ([108, 105, 115, 116], [.inl .i16], 0, 13), ([115, 101, 116], [.inl .i8, .inl .i16, .inl .i32], 0, 7), ([108, 111, 99, 107], [.inl .i8, .inl .i16, .inl .u8], 0, 8), ([99, 104, 101, 99, 107], [.inl .i8, .inl .i16, .inl .u16, .inl .u32], 0, 10),
   ([116, 105, 99, 107], [.inl .u64], 1, 0), ([115, 119, 101, 101, 112], [], 2, 0), ([102, 108, 117, 115, 104], [], 3, 0), ([115, 110, 97, 112], [], 4, 0), ([99, 114, 97, 115, 104], [.inl .u64, .inr .lt], 5, 0), ([115, 110, 97, 112, 99, 114, 97, 115, 104], [.inr .eq, .inr .gt], 6, 0)]

/-- the words' places in a form of the program -/
abbrev Pl := Sum (List Int) (Sum Ordering (Sum Bool Bool))
structure Frm where
  pl : List Pl
  k : Int
  op : Int
  fl : Int
  mostN : Int
  mostM : Int
  m : Int
def smallO (w : List Int) (most : Int) : Option Int := (numO w 4611686018427387904).bind fun v => if v ≤ most then some v else none
def putI (f : Frm) (c : Cmd) (p : Pl) (w : List Int) : Option Cmd :=
  match p with
  | .inl b => if w = b then some c else none
  | .inr (.inl .eq) => some { c with pa := w }
  | .inr (.inl .gt) => some { c with va := w }
  | .inr (.inl .lt) => (numO w 4611686018427387904).map fun v => { c with se := v }
  | .inr (.inr (.inl false)) => (numO w 4611686018427387904).map fun v => { c with ep := v }
  | .inr (.inr (.inl true)) => (numO w 4611686018427387904).map fun v => { c with ge := v }
  | .inr (.inr (.inr false)) => (smallO w f.mostN).map fun v => { c with n := v }
  | .inr (.inr (.inr true)) => (smallO w f.mostM).map fun v => { c with m := v }
def putsI (f : Frm) : Cmd → List Pl → List (List Int) → Option Cmd
  | c, p :: ps, w :: ws => (putI f c p w).bind fun c' => putsI f c' ps ws
  | c, [], [] => some c
  | _, _, _ => none
def readI (ws : List (List Int)) (f : Frm) : Option Cmd := if ws.length = f.pl.length then putsI f ⟨f.k, f.op, 0, [], f.fl, [], 0, 0, 0, f.m⟩ f.pl ws else none
def formsI : List Frm :=
  [⟨[.inl [111, 112, 101, 110]], 0, 1, 0, 0, 0, 0⟩,
   ⟨[.inl [107, 101, 101, 112], .inr (.inl .lt)], 0, 2, 0, 0, 0, 0⟩,
   ⟨[.inl [99, 108, 111, 115, 101], .inr (.inl .lt)], 0, 3, 0, 0, 0, 0⟩,
   ⟨[.inl [112, 111, 108, 108], .inr (.inl .lt)], 0, 12, 0, 0, 0, 0⟩,
   ⟨[.inl [99, 114, 101, 97, 116, 101], .inr (.inl .lt), .inr (.inl .eq), .inl [112]], 0, 4, 0, 0, 0, 0⟩,
   ⟨[.inl [99, 114, 101, 97, 116, 101], .inr (.inl .lt), .inr (.inl .eq), .inl [112], .inr (.inl .gt)], 0, 4, 0, 0, 0, 0⟩,
   ⟨[.inl [99, 114, 101, 97, 116, 101], .inr (.inl .lt), .inr (.inl .eq), .inl [101]], 0, 4, 1, 0, 0, 0⟩,
   ⟨[.inl [99, 114, 101, 97, 116, 101], .inr (.inl .lt), .inr (.inl .eq), .inl [101], .inr (.inl .gt)], 0, 4, 1, 0, 0, 0⟩,
   ⟨[.inl [100, 101, 108, 101, 116, 101], .inr (.inl .lt), .inr (.inl .eq)], 0, 5, 0, 0, 0, 0⟩,
   ⟨[.inl [117, 110, 108, 111, 99, 107], .inr (.inl .lt), .inr (.inl .eq)], 0, 9, 0, 0, 0, 0⟩,
   ⟨[.inl [119, 97, 116, 99, 104], .inr (.inl .lt), .inr (.inl .eq)], 0, 11, 0, 0, 0, 0⟩,
   ⟨[.inl [103, 101, 116], .inr (.inl .eq)], 0, 6, 0, 0, 0, 0⟩,
   ⟨[.inl [108, 105, 115, 116], .inr (.inl .eq)], 0, 13, 0, 0, 0, 0⟩,
   ⟨[.inl [115, 101, 116], .inr (.inl .lt), .inr (.inl .eq)], 0, 7, 0, 0, 0, 0⟩,
   ⟨[.inl [115, 101, 116], .inr (.inl .lt), .inr (.inl .eq), .inr (.inl .gt)], 0, 7, 0, 0, 0, 0⟩,
   ⟨[.inl [108, 111, 99, 107], .inr (.inl .lt), .inr (.inl .eq), .inl [120]], 0, 8, 1, 0, 0, 0⟩,
   ⟨[.inl [108, 111, 99, 107], .inr (.inl .lt), .inr (.inl .eq), .inl [115]], 0, 8, 2, 0, 0, 0⟩,
   ⟨[.inl [99, 104, 101, 99, 107], .inr (.inl .lt), .inr (.inl .eq), .inr (.inr (.inl false)), .inr (.inr (.inl true))], 0, 10, 0, 0, 0, 0⟩,
   ⟨[.inl [116, 105, 99, 107], .inr (.inr (.inr false))], 1, 0, 0, 1000000, 0, 0⟩,
   ⟨[.inl [115, 119, 101, 101, 112]], 2, 0, 0, 0, 0, 0⟩,
   ⟨[.inl [102, 108, 117, 115, 104]], 3, 0, 0, 0, 0, 0⟩,
   ⟨[.inl [115, 110, 97, 112]], 4, 0, 0, 0, 0, 0⟩,
   ⟨[.inl [99, 114, 97, 115, 104], .inr (.inr (.inr false))], 5, 0, 0, 1000000, 0, 5⟩,
   ⟨[.inl [99, 114, 97, 115, 104], .inr (.inr (.inr false)), .inr (.inr (.inr true))], 5, 0, 0, 1000000, 4, 0⟩,
   ⟨[.inl [115, 110, 97, 112, 99, 114, 97, 115, 104], .inr (.inr (.inr false)), .inr (.inr (.inr true))], 6, 0, 0, 5, 1000000, 0⟩]
def implC (ws : List (List Int)) : Option Cmd := formsI.findSome? (readI ws)
def leastS (sh : List Part) : Nat := match sh.getLast? with | some (.inl .i32) => sh.length - 1 | some (.inr .lt) => sh.length - 1 | _ => sh.length
def specC : List (List Int) → Option Cmd
  | [] => none
  | w :: ws => match shapes.find? (fun s => s.1 == w) with
    | none => none
    | some s => if leastS s.2.1 ≤ ws.length ∧ ws.length ≤ s.2.1.length then fillsS ⟨s.2.2.1, s.2.2.2, 0, [], 0, [], 0, 0, 0, if s.2.2.1 = 5 then 5 else 0⟩ s.2.1 ws else none
theorem smallO_is {w : List Int} {most : Int} (h : most ≤ 4611686018427387904) : smallO w most = numO w most := by
  unfold smallO numO
  split
  · next h1 =>
    simp only [Option.bind_some]
    split
    · next h2 => rw [if_pos ⟨h1.1, h1.2.1, h2⟩]
    · next h2 => rw [if_neg fun h3 => h2 h3.2.2]
  · next h1 =>
    rw [if_neg fun h3 => h1 ⟨h3.1, h3.2.1, by omega⟩]
    rfl
set_option maxHeartbeats 6400000 in
/-- both read the same commands -/
theorem spec_implC (ws : List (List Int)) : specC ws = implC ws := by
  cases ws with
  | nil => rfl
  | cons w rest =>
    by_cases h0 : w = [111, 112, 101, 110]
    · subst h0
      rcases rest with _ | ⟨a, _ | ⟨b, _ | ⟨c, _ | ⟨d, _ | ⟨e, r⟩⟩⟩⟩⟩ <;> simp [specC, shapes, leastS, fillsS, fillS, implC, formsI, readI, putsI, putI, smallO_is, Part.most, List.findSome?]
    by_cases h1 : w = [107, 101, 101, 112]
    · subst h1
      rcases rest with _ | ⟨a, _ | ⟨b, _ | ⟨c, _ | ⟨d, _ | ⟨e, r⟩⟩⟩⟩⟩ <;> simp [specC, shapes, leastS, fillsS, fillS, implC, formsI, readI, putsI, putI, smallO_is, Part.most, List.findSome?]
      all_goals (try (cases numO a 4611686018427387904 <;> simp))
    by_cases h2 : w = [99, 108, 111, 115, 101]
    · subst h2
      rcases rest with _ | ⟨a, _ | ⟨b, _ | ⟨c, _ | ⟨d, _ | ⟨e, r⟩⟩⟩⟩⟩ <;> simp [specC, shapes, leastS, fillsS, fillS, implC, formsI, readI, putsI, putI, smallO_is, Part.most, List.findSome?]
      all_goals (try (cases numO a 4611686018427387904 <;> simp))
    by_cases h3 : w = [112, 111, 108, 108]
    · subst h3
      rcases rest with _ | ⟨a, _ | ⟨b, _ | ⟨c, _ | ⟨d, _ | ⟨e, r⟩⟩⟩⟩⟩ <;> simp [specC, shapes, leastS, fillsS, fillS, implC, formsI, readI, putsI, putI, smallO_is, Part.most, List.findSome?]
      all_goals (try (cases numO a 4611686018427387904 <;> simp))
    by_cases h4 : w = [99, 114, 101, 97, 116, 101]
    · subst h4
      rcases rest with _ | ⟨a, _ | ⟨b, _ | ⟨c, _ | ⟨d, _ | ⟨e, r⟩⟩⟩⟩⟩ <;> simp [specC, shapes, leastS, fillsS, fillS, implC, formsI, readI, putsI, putI, smallO_is, Part.most, List.findSome?]
      all_goals (try (cases numO a 4611686018427387904 <;> (by_cases e1 : c = [101] <;> by_cases e2 : c = [112] <;> simp_all)))
    by_cases h5 : w = [100, 101, 108, 101, 116, 101]
    · subst h5
      rcases rest with _ | ⟨a, _ | ⟨b, _ | ⟨c, _ | ⟨d, _ | ⟨e, r⟩⟩⟩⟩⟩ <;> simp [specC, shapes, leastS, fillsS, fillS, implC, formsI, readI, putsI, putI, smallO_is, Part.most, List.findSome?]
      all_goals (try (cases numO a 4611686018427387904 <;> simp))
    by_cases h6 : w = [117, 110, 108, 111, 99, 107]
    · subst h6
      rcases rest with _ | ⟨a, _ | ⟨b, _ | ⟨c, _ | ⟨d, _ | ⟨e, r⟩⟩⟩⟩⟩ <;> simp [specC, shapes, leastS, fillsS, fillS, implC, formsI, readI, putsI, putI, smallO_is, Part.most, List.findSome?]
      all_goals (try (cases numO a 4611686018427387904 <;> simp))
    by_cases h7 : w = [119, 97, 116, 99, 104]
    · subst h7
      rcases rest with _ | ⟨a, _ | ⟨b, _ | ⟨c, _ | ⟨d, _ | ⟨e, r⟩⟩⟩⟩⟩ <;> simp [specC, shapes, leastS, fillsS, fillS, implC, formsI, readI, putsI, putI, smallO_is, Part.most, List.findSome?]
      all_goals (try (cases numO a 4611686018427387904 <;> simp))
    by_cases h8 : w = [103, 101, 116]
    · subst h8
      rcases rest with _ | ⟨a, _ | ⟨b, _ | ⟨c, _ | ⟨d, _ | ⟨e, r⟩⟩⟩⟩⟩ <;> simp [specC, shapes, leastS, fillsS, fillS, implC, formsI, readI, putsI, putI, smallO_is, Part.most, List.findSome?]
    by_cases h9 : w = [108, 105, 115, 116]
    · subst h9
      rcases rest with _ | ⟨a, _ | ⟨b, _ | ⟨c, _ | ⟨d, _ | ⟨e, r⟩⟩⟩⟩⟩ <;> simp [specC, shapes, leastS, fillsS, fillS, implC, formsI, readI, putsI, putI, smallO_is, Part.most, List.findSome?]
    by_cases h10 : w = [115, 101, 116]
    · subst h10
      rcases rest with _ | ⟨a, _ | ⟨b, _ | ⟨c, _ | ⟨d, _ | ⟨e, r⟩⟩⟩⟩⟩ <;> simp [specC, shapes, leastS, fillsS, fillS, implC, formsI, readI, putsI, putI, smallO_is, Part.most, List.findSome?]
      all_goals (try (cases numO a 4611686018427387904 <;> simp))
    by_cases h11 : w = [108, 111, 99, 107]
    · subst h11
      rcases rest with _ | ⟨a, _ | ⟨b, _ | ⟨c, _ | ⟨d, _ | ⟨e, r⟩⟩⟩⟩⟩ <;> simp [specC, shapes, leastS, fillsS, fillS, implC, formsI, readI, putsI, putI, smallO_is, Part.most, List.findSome?]
      all_goals (try (cases numO a 4611686018427387904 <;> (by_cases e1 : c = [120] <;> by_cases e2 : c = [115] <;> simp_all)))
    by_cases h12 : w = [99, 104, 101, 99, 107]
    · subst h12
      rcases rest with _ | ⟨a, _ | ⟨b, _ | ⟨c, _ | ⟨d, _ | ⟨e, r⟩⟩⟩⟩⟩ <;> simp [specC, shapes, leastS, fillsS, fillS, implC, formsI, readI, putsI, putI, smallO_is, Part.most, List.findSome?]
      all_goals (try (cases numO a 4611686018427387904 <;> cases numO c 4611686018427387904 <;> cases numO d 4611686018427387904 <;> simp))
    by_cases h13 : w = [116, 105, 99, 107]
    · subst h13
      rcases rest with _ | ⟨a, _ | ⟨b, _ | ⟨c, _ | ⟨d, _ | ⟨e, r⟩⟩⟩⟩⟩ <;> simp [specC, shapes, leastS, fillsS, fillS, implC, formsI, readI, putsI, putI, smallO_is, Part.most, List.findSome?]
      all_goals (try (cases numO a 1000000 <;> simp))
    by_cases h14 : w = [115, 119, 101, 101, 112]
    · subst h14
      rcases rest with _ | ⟨a, _ | ⟨b, _ | ⟨c, _ | ⟨d, _ | ⟨e, r⟩⟩⟩⟩⟩ <;> simp [specC, shapes, leastS, fillsS, fillS, implC, formsI, readI, putsI, putI, smallO_is, Part.most, List.findSome?]
    by_cases h15 : w = [102, 108, 117, 115, 104]
    · subst h15
      rcases rest with _ | ⟨a, _ | ⟨b, _ | ⟨c, _ | ⟨d, _ | ⟨e, r⟩⟩⟩⟩⟩ <;> simp [specC, shapes, leastS, fillsS, fillS, implC, formsI, readI, putsI, putI, smallO_is, Part.most, List.findSome?]
    by_cases h16 : w = [115, 110, 97, 112]
    · subst h16
      rcases rest with _ | ⟨a, _ | ⟨b, _ | ⟨c, _ | ⟨d, _ | ⟨e, r⟩⟩⟩⟩⟩ <;> simp [specC, shapes, leastS, fillsS, fillS, implC, formsI, readI, putsI, putI, smallO_is, Part.most, List.findSome?]
    by_cases h17 : w = [99, 114, 97, 115, 104]
    · subst h17
      rcases rest with _ | ⟨a, _ | ⟨b, _ | ⟨c, _ | ⟨d, _ | ⟨e, r⟩⟩⟩⟩⟩ <;> simp [specC, shapes, leastS, fillsS, fillS, implC, formsI, readI, putsI, putI, smallO_is, Part.most, List.findSome?]
      all_goals (try (cases numO a 1000000 <;> (try simp) <;> (cases numO b 4 <;> simp)))
    by_cases h18 : w = [115, 110, 97, 112, 99, 114, 97, 115, 104]
    · subst h18
      rcases rest with _ | ⟨a, _ | ⟨b, _ | ⟨c, _ | ⟨d, _ | ⟨e, r⟩⟩⟩⟩⟩ <;> simp [specC, shapes, leastS, fillsS, fillS, implC, formsI, readI, putsI, putI, smallO_is, Part.most, List.findSome?]
      all_goals (try (cases numO a 5 <;> cases numO b 1000000 <;> simp))
    have g0 : (([111, 112, 101, 110] : List Int) == w) = false := by rw [beq_eq_false_iff_ne]; exact fun e => h0 e.symm
    have g1 : (([107, 101, 101, 112] : List Int) == w) = false := by rw [beq_eq_false_iff_ne]; exact fun e => h1 e.symm
    have g2 : (([99, 108, 111, 115, 101] : List Int) == w) = false := by rw [beq_eq_false_iff_ne]; exact fun e => h2 e.symm
    have g3 : (([112, 111, 108, 108] : List Int) == w) = false := by rw [beq_eq_false_iff_ne]; exact fun e => h3 e.symm
    have g4 : (([99, 114, 101, 97, 116, 101] : List Int) == w) = false := by rw [beq_eq_false_iff_ne]; exact fun e => h4 e.symm
    have g5 : (([100, 101, 108, 101, 116, 101] : List Int) == w) = false := by rw [beq_eq_false_iff_ne]; exact fun e => h5 e.symm
    have g6 : (([117, 110, 108, 111, 99, 107] : List Int) == w) = false := by rw [beq_eq_false_iff_ne]; exact fun e => h6 e.symm
    have g7 : (([119, 97, 116, 99, 104] : List Int) == w) = false := by rw [beq_eq_false_iff_ne]; exact fun e => h7 e.symm
    have g8 : (([103, 101, 116] : List Int) == w) = false := by rw [beq_eq_false_iff_ne]; exact fun e => h8 e.symm
    have g9 : (([108, 105, 115, 116] : List Int) == w) = false := by rw [beq_eq_false_iff_ne]; exact fun e => h9 e.symm
    have g10 : (([115, 101, 116] : List Int) == w) = false := by rw [beq_eq_false_iff_ne]; exact fun e => h10 e.symm
    have g11 : (([108, 111, 99, 107] : List Int) == w) = false := by rw [beq_eq_false_iff_ne]; exact fun e => h11 e.symm
    have g12 : (([99, 104, 101, 99, 107] : List Int) == w) = false := by rw [beq_eq_false_iff_ne]; exact fun e => h12 e.symm
    have g13 : (([116, 105, 99, 107] : List Int) == w) = false := by rw [beq_eq_false_iff_ne]; exact fun e => h13 e.symm
    have g14 : (([115, 119, 101, 101, 112] : List Int) == w) = false := by rw [beq_eq_false_iff_ne]; exact fun e => h14 e.symm
    have g15 : (([102, 108, 117, 115, 104] : List Int) == w) = false := by rw [beq_eq_false_iff_ne]; exact fun e => h15 e.symm
    have g16 : (([115, 110, 97, 112] : List Int) == w) = false := by rw [beq_eq_false_iff_ne]; exact fun e => h16 e.symm
    have g17 : (([99, 114, 97, 115, 104] : List Int) == w) = false := by rw [beq_eq_false_iff_ne]; exact fun e => h17 e.symm
    have g18 : (([115, 110, 97, 112, 99, 114, 97, 115, 104] : List Int) == w) = false := by rw [beq_eq_false_iff_ne]; exact fun e => h18 e.symm
    simp [specC, shapes, implC, formsI, readI, putsI, putI, List.find?, g0, g1, g2, g3, g4, g5, g6, g7, g8, g9, g10, g11, g12, g13, g14, g15, g16, g17, g18, h0, h1, h2, h3, h4, h5, h6, h7, h8, h9, h10, h11, h12, h13, h14, h15, h16, h17, h18]
end Go.Proofs.YtlkhghcffhckmaaDoor
