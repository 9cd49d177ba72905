import Derived.Test.YtlkhghcffhckmaaDoorPCp
import Derived.Great.BuildSlice
namespace Go.Proofs.YtlkhghcffhckmaaDoor
open Go.ChangeShapes Go.WideShapes Go.ChangeAt Go.RowKit
set_option linter.unusedVariables false
set_option linter.unusedSimpArgs false
set_option maxRecDepth 100000

/-- the forms' words as the program spells them -/
def strsI : List ByteArray := [⟨#[111, 112, 101, 110]⟩, ⟨#[107, 101, 101, 112, 32, 83]⟩, ⟨#[99, 108, 111, 115, 101, 32, 83]⟩, ⟨#[112, 111, 108, 108, 32, 83]⟩, ⟨#[99, 114, 101, 97, 116, 101, 32, 83, 32, 80, 32, 112]⟩, ⟨#[99, 114, 101, 97, 116, 101, 32, 83, 32, 80, 32, 112, 32, 86]⟩, ⟨#[99, 114, 101, 97, 116, 101, 32, 83, 32, 80, 32, 101]⟩, ⟨#[99, 114, 101, 97, 116, 101, 32, 83, 32, 80, 32, 101, 32, 86]⟩, ⟨#[100, 101, 108, 101, 116, 101, 32, 83, 32, 80]⟩, ⟨#[117, 110, 108, 111, 99, 107, 32, 83, 32, 80]⟩, ⟨#[119, 97, 116, 99, 104, 32, 83, 32, 80]⟩, ⟨#[103, 101, 116, 32, 80]⟩, ⟨#[108, 105, 115, 116, 32, 80]⟩, ⟨#[115, 101, 116, 32, 83, 32, 80]⟩, ⟨#[115, 101, 116, 32, 83, 32, 80, 32, 86]⟩, ⟨#[108, 111, 99, 107, 32, 83, 32, 80, 32, 120]⟩, ⟨#[108, 111, 99, 107, 32, 83, 32, 80, 32, 115]⟩, ⟨#[99, 104, 101, 99, 107, 32, 83, 32, 80, 32, 69, 32, 71]⟩, ⟨#[116, 105, 99, 107, 32, 78]⟩, ⟨#[115, 119, 101, 101, 112]⟩, ⟨#[102, 108, 117, 115, 104]⟩, ⟨#[115, 110, 97, 112]⟩, ⟨#[99, 114, 97, 115, 104, 32, 78]⟩, ⟨#[99, 114, 97, 115, 104, 32, 78, 32, 77]⟩, ⟨#[115, 110, 97, 112, 99, 114, 97, 115, 104, 32, 78, 32, 77]⟩]
def formsT : List (ByteArray × Frm) := strsI.zip formsI
def rowF (x : ByteArray × Frm) : List Value := [.string x.1, .int .i64 x.2.k, .int .i64 x.2.op, .int .i64 x.2.fl, .int .i64 x.2.mostN, .int .i64 x.2.mostM, .int .i64 x.2.m]
theorem flat7 {α : Type} (f : α → List Value) (hf : ∀ a, (f a).length = 7) : ∀ (l : List α) (i : Nat) (a : α) (j : Nat), l[i]? = some a → j < 7 → (l.flatMap f)[i * 7 + j]? = (f a)[j]?
 | [], i, a, j, h, _ => by simp at h
 | x :: r, 0, a, j, h, hj => by
  simp at h
  subst h
  rw [List.flatMap_cons, Nat.zero_mul, Nat.zero_add, List.getElem?_append_left (by rw [hf]; exact hj)]
 | x :: r, i + 1, a, j, h, hj => by
  rw [List.flatMap_cons, List.getElem?_append_right (by rw [hf]; omega), hf, show (i + 1) * 7 + j - 7 = i * 7 + j by omega]
  exact flat7 f hf r i a j (by simpa using h) hj
/-- the table of forms at block b -/
def FTab (w : World) (b : Nat) : Prop := ∀ (i : Nat) (x : ByteArray × Frm), formsT[i]? = some x → ∀ (j : Nat) (v : Value), (rowF x)[j]? = some v → w.cell? ⟨b, i * 7 + j, none⟩ = some v
theorem FTab.below {w w' : World} {b : Nat} (h : FTab w b) (hb : Below w.heap.size w w') : FTab w' b := fun i x hx j v hv => cell_below (h i x hx j v hv) hb
theorem infoLF : (Tryd.prog.info? 47).map (fun i => (i.zero, i.size, i.bytes)) = some (some (.agg #[.string ⟨#[]⟩, .int .i64 0, .int .i64 0, .int .i64 0, .int .i64 0, .int .i64 0, .int .i64 0]), 7, 64) := by kernel_rfl
set_option maxHeartbeats 6400000 in
theorem lineForms_any (w : World) : Calls Tryd.prog 16 #[] w fun e w' => ∃ b, e = .returned (.slice (some ⟨b, 0, none⟩) 25 25) ∧ FTab w' b ∧ Below w.heap.size w w' := by
 obtain ⟨ie, hie, hz0, hz1, hz2⟩ := info_parts infoLF
 have HIE := hide (And.intro hie (And.intro hz0 hz1))
 clear hie hz0 hz1 hz2
 go_enter Tryd.func16, Tryd.ntmps16
 go_wp2
 refine wp_buildSlice 44 47 25 _ rfl (formsT.flatMap rowF).toArray ie _ Tryd.underlying44 (unhide HIE).1 (unhide HIE).2.1 (by rw [(unhide HIE).2.2]; decide) (by rw [(unhide HIE).2.2]; decide) (by rw [(unhide HIE).2.2]; kernel_rfl) ?_
 obtain ⟨W, hW⟩ : ∃ V, V = w.alloc (.cells (formsT.flatMap rowF).toArray 47) := ⟨_, rfl⟩
 have hb : Below w.heap.size w W := by rw [hW]; exact (Below.refl _ _).alloc (Nat.le_refl _) _
 have hT : FTab W w.heap.size := fun i x hx j v hv => by
  rw [hW]
  refine (CellsAre.alloc w (formsT.flatMap rowF).toArray 47).1 (i * 7 + j) v ?_
  have hj : j < 7 := by
   have := (List.getElem?_eq_some_iff.1 hv).1
   simpa [rowF] using this
  rw [← hv]
  exact flat7 rowF (fun a => rfl) formsT i x j hx hj
 rw [← hW]
 clear hW
 obtain ⟨B, eB⟩ : ∃ B, B = w.heap.size := ⟨_, rfl⟩
 rw [← eB] at hT ⊢
 have HT := hide hT
 have HB := hide hb
 clear hT hb eB
 go_wp2
 refine bodyPost_ret (v := .slice (some ⟨B, 0, none⟩) 25 25) (by simp [results, Tryd.results16, go_sem]) rfl ⟨B, rfl, unhide HT, ?_⟩
 exact unhide HB
end Go.Proofs.YtlkhghcffhckmaaDoor
