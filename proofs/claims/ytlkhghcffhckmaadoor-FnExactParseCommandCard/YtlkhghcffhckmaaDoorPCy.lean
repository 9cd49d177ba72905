import Derived.Test.YtlkhghcffhckmaaDoorPCw
import Derived.Test.YtlkhghcffhckmaaDoorPCs
namespace Go.Proofs.YtlkhghcffhckmaaDoor
open Go.ChangeShapes Go.WideShapes Go.ChangeAt Go.RowKit
set_option linter.unusedVariables false
set_option linter.unusedSimpArgs false
set_option maxRecDepth 100000

theorem pred32 (w : World) : PredAtRunes Tryd.prog 25 #[] sp32 w := by
 intro W x hx hb
 show Calls Tryd.prog 25 #[.int .i32 x] W _
 go_enter Tryd.func25, Tryd.ntmps25
 have e : ((x : Int) == 32) = sp32 x := by
  unfold sp32
  by_cases h : x = 32
  ·subst h; rfl
  ·simp [h]
   omega
 go_wp2
 refine bodyPost_ret (v := .bool (sp32 x)) (by simp [results, Tryd.results25, go_sem, e]) rfl ?_
 exact ⟨rfl, 0, rfl⟩
/-- a row of words as strings -/
def StrW (w : World) (p : Option Addr) (ws : List (List Int)) : Prop := ∀ i x, ws[i]? = some x → ∃ b o, p = some ⟨b, o, none⟩ ∧ w.cell? ⟨b, o + i, none⟩ = some (.string (bstr x))
theorem StrW.below {w w' : World} {p : Option Addr} {ws : List (List Int)} (h : StrW w p ws) (hb : Below w.heap.size w w') : StrW w' p ws := fun i x hx => by
 obtain ⟨b, o, e, h1⟩ := h i x hx
 exact ⟨b, o, e, cell_below h1 hb⟩
theorem wordsOf_any (p : Option Addr) (c n : Nat) (l : List Int) (en : Hid (l.length = n)) (w : World) (h : Rd w (.slice p n c) l) (hb : Hid (Byt l)) (hl : n ≤ 1048576) (N : Nat) (eN : Hid ((wds l).length = N)) :
  Calls Tryd.prog 15 #[.slice p n c] w fun e w' => ∃ p' c', e = .returned (.slice p' N c') ∧ StrW w' p' (wds l) ∧ Below w.heap.size w w' := by
 have cv := run_conv (unhide en) h
 have hs : (bstr l).size ≤ 4294967296 := by rw [bstr_size, unhide en]; omega
 have eg : ∀ args w, (callFunc 25 args).run Tryd.prog w = .ok (.enter 25 args) w := fun args w => by kernel_rfl
 have F := Tryd.strings_FieldsFunc_runes 25 #[] eg sp32 (bstr l) w hs (pred32 w)
 rw [goFields_wds l (unhide hb), List.length_map, unhide eN] at F
 have HF := hide F
 clear F eg hs h
 go_enter Tryd.func15, Tryd.ntmps15
 go_wp2_with fail
 refine (unhide HF).mono ?_
 rintro r w1 ⟨A, rfl, hA, ho, hb1⟩
 have hS : StrW w1 (some ⟨A, 0, none⟩) (wds l) := fun i x hx => by
  refine ⟨A, 0, rfl, ?_⟩
  have hi : i < N := by rw [← unhide eN]; exact (List.getElem?_eq_some_iff.1 hx).1
  have hc := ho.cellAt i (by omega)
  rw [List.getElem?_map, List.getElem?_map, hx] at hc
  rw [Nat.zero_add]
  exact hc
 have HS := hide hS
 clear ho cv hS
 go_wp2
 refine bodyPost_ret (v := .slice (some ⟨A, 0, none⟩) N N) (by simp [results, Tryd.results15, go_sem]) rfl ?_
 exact ⟨_, _, rfl, unhide HS, hb1⟩
end Go.Proofs.YtlkhghcffhckmaaDoor
