import Derived.Test.YtlkhghcffhckmaaDoorPCi
namespace Go.Proofs.YtlkhghcffhckmaaDoor
open Go.ChangeShapes Go.WideShapes Go.ChangeAt Go.RowKit
set_option linter.unusedVariables false
set_option linter.unusedSimpArgs false
set_option maxRecDepth 100000

def u8s (l : List Int) : List UInt8 := l.map fun n => UInt8.ofNat n.toNat
theorem tab_ne {x c : List Int} (hx : Byt x) (hc : Byt c) (h : ¬ x = c) (d : List UInt8) (e : d = u8s c) : ((bstr x).toList == d) = false := by
 have := bstr_eq hx hc
 rw [e, u8s, ← bstr_list c, this]
 simpa using h
def Part.u8 (p : Part) : UInt8 := UInt8.ofNat p.byte.toNat
set_option maxHeartbeats 3200000 in
theorem shTab_is (x : List Int) (hx : Byt x) : shTab (bstr x).toList = match shapes.find? (fun s => s.1 == x) with | none => ([63], 0, 0) | some s => (s.2.1.map Part.u8, s.2.2.1, s.2.2.2) := by
 by_cases h0 : x = [111, 112, 101, 110]
 ·subst h0; rw [bstr_list]; rfl
 by_cases h1 : x = [107, 101, 101, 112]
 ·subst h1; rw [bstr_list]; rfl
 by_cases h2 : x = [99, 108, 111, 115, 101]
 ·subst h2; rw [bstr_list]; rfl
 by_cases h3 : x = [112, 111, 108, 108]
 ·subst h3; rw [bstr_list]; rfl
 by_cases h4 : x = [99, 114, 101, 97, 116, 101]
 ·subst h4; rw [bstr_list]; rfl
 by_cases h5 : x = [100, 101, 108, 101, 116, 101]
 ·subst h5; rw [bstr_list]; rfl
 by_cases h6 : x = [117, 110, 108, 111, 99, 107]
 ·subst h6; rw [bstr_list]; rfl
 by_cases h7 : x = [119, 97, 116, 99, 104]
 ·subst h7; rw [bstr_list]; rfl
 by_cases h8 : x = [103, 101, 116]
 ·subst h8; rw [bstr_list]; rfl
 by_cases h9 : x = [108, 105, 115, 116]
 ·subst h9; rw [bstr_list]; rfl
 by_cases h10 : x = [115, 101, 116]
 ·subst h10; rw [bstr_list]; rfl
 by_cases h11 : x = [108, 111, 99, 107]
 ·subst h11; rw [bstr_list]; rfl
 by_cases h12 : x = [99, 104, 101, 99, 107]
 ·subst h12; rw [bstr_list]; rfl
 by_cases h13 : x = [116, 105, 99, 107]
 ·subst h13; rw [bstr_list]; rfl
 by_cases h14 : x = [115, 119, 101, 101, 112]
 ·subst h14; rw [bstr_list]; rfl
 by_cases h15 : x = [102, 108, 117, 115, 104]
 ·subst h15; rw [bstr_list]; rfl
 by_cases h16 : x = [115, 110, 97, 112]
 ·subst h16; rw [bstr_list]; rfl
 by_cases h17 : x = [99, 114, 97, 115, 104]
 ·subst h17; rw [bstr_list]; rfl
 by_cases h18 : x = [115, 110, 97, 112, 99, 114, 97, 115, 104]
 ·subst h18; rw [bstr_list]; rfl
 have e0 := tab_ne hx (by unfold Byt; decide) h0 [111, 112, 101, 110] rfl
 have n0 : ([111, 112, 101, 110] == x) = false := by simpa using fun e => h0 e.symm
 have e1 := tab_ne hx (by unfold Byt; decide) h1 [107, 101, 101, 112] rfl
 have n1 : ([107, 101, 101, 112] == x) = false := by simpa using fun e => h1 e.symm
 have e2 := tab_ne hx (by unfold Byt; decide) h2 [99, 108, 111, 115, 101] rfl
 have n2 : ([99, 108, 111, 115, 101] == x) = false := by simpa using fun e => h2 e.symm
 have e3 := tab_ne hx (by unfold Byt; decide) h3 [112, 111, 108, 108] rfl
 have n3 : ([112, 111, 108, 108] == x) = false := by simpa using fun e => h3 e.symm
 have e4 := tab_ne hx (by unfold Byt; decide) h4 [99, 114, 101, 97, 116, 101] rfl
 have n4 : ([99, 114, 101, 97, 116, 101] == x) = false := by simpa using fun e => h4 e.symm
 have e5 := tab_ne hx (by unfold Byt; decide) h5 [100, 101, 108, 101, 116, 101] rfl
 have n5 : ([100, 101, 108, 101, 116, 101] == x) = false := by simpa using fun e => h5 e.symm
 have e6 := tab_ne hx (by unfold Byt; decide) h6 [117, 110, 108, 111, 99, 107] rfl
 have n6 : ([117, 110, 108, 111, 99, 107] == x) = false := by simpa using fun e => h6 e.symm
 have e7 := tab_ne hx (by unfold Byt; decide) h7 [119, 97, 116, 99, 104] rfl
 have n7 : ([119, 97, 116, 99, 104] == x) = false := by simpa using fun e => h7 e.symm
 have e8 := tab_ne hx (by unfold Byt; decide) h8 [103, 101, 116] rfl
 have n8 : ([103, 101, 116] == x) = false := by simpa using fun e => h8 e.symm
 have e9 := tab_ne hx (by unfold Byt; decide) h9 [108, 105, 115, 116] rfl
 have n9 : ([108, 105, 115, 116] == x) = false := by simpa using fun e => h9 e.symm
 have e10 := tab_ne hx (by unfold Byt; decide) h10 [115, 101, 116] rfl
 have n10 : ([115, 101, 116] == x) = false := by simpa using fun e => h10 e.symm
 have e11 := tab_ne hx (by unfold Byt; decide) h11 [108, 111, 99, 107] rfl
 have n11 : ([108, 111, 99, 107] == x) = false := by simpa using fun e => h11 e.symm
 have e12 := tab_ne hx (by unfold Byt; decide) h12 [99, 104, 101, 99, 107] rfl
 have n12 : ([99, 104, 101, 99, 107] == x) = false := by simpa using fun e => h12 e.symm
 have e13 := tab_ne hx (by unfold Byt; decide) h13 [116, 105, 99, 107] rfl
 have n13 : ([116, 105, 99, 107] == x) = false := by simpa using fun e => h13 e.symm
 have e14 := tab_ne hx (by unfold Byt; decide) h14 [115, 119, 101, 101, 112] rfl
 have n14 : ([115, 119, 101, 101, 112] == x) = false := by simpa using fun e => h14 e.symm
 have e15 := tab_ne hx (by unfold Byt; decide) h15 [102, 108, 117, 115, 104] rfl
 have n15 : ([102, 108, 117, 115, 104] == x) = false := by simpa using fun e => h15 e.symm
 have e16 := tab_ne hx (by unfold Byt; decide) h16 [115, 110, 97, 112] rfl
 have n16 : ([115, 110, 97, 112] == x) = false := by simpa using fun e => h16 e.symm
 have e17 := tab_ne hx (by unfold Byt; decide) h17 [99, 114, 97, 115, 104] rfl
 have n17 : ([99, 114, 97, 115, 104] == x) = false := by simpa using fun e => h17 e.symm
 have e18 := tab_ne hx (by unfold Byt; decide) h18 [115, 110, 97, 112, 99, 114, 97, 115, 104] rfl
 have n18 : ([115, 110, 97, 112, 99, 114, 97, 115, 104] == x) = false := by simpa using fun e => h18 e.symm
 simp only [shTab, shapes, List.find?_cons, List.find?_nil, e0, n0, e1, n1, e2, n2, e3, n3, e4, n4, e5, n5, e6, n6, e7, n7, e8, n8, e9, n9, e10, n10, e11, n11, e12, n12, e13, n13, e14, n14, e15, n15, e16, n16, e17, n17, e18, n18]
 rfl
end Go.Proofs.YtlkhghcffhckmaaDoor
