import Derived.Test.YteljknmkodllkaaFD
import Derived.Test.YteljknmkodllkaaVa2
namespace Go.Proofs.Yteljknmkodllkaa
open Go.ChangeShapes Go.WideShapes Go.ChangeAt Go.RowKit
set_option linter.unusedVariables false
set_option linter.unusedSimpArgs false

theorem At6.setOther {w : World} {b : Nat} {v0 v1 v2 v3 v4 v5 : Value} (h : At6 w b v0 v1 v2 v3 v4 v5) {a : Addr} (ha : a.block ≠ b) (u : Value) : At6 (w.setCell a u) b v0 v1 v2 v3 v4 v5 := by
  have e : ∀ o, (w.setCell a u).cell? ⟨b, o, none⟩ = w.cell? ⟨b, o, none⟩ := fun o => World.cell?_setCell_other w a ⟨b, o, none⟩ u (by intro e; apply ha; rw [e])
  simpa only [At6, e] using h

theorem Own3.set {B : Nat} {w : World} {v0 v1 v2 : Value} {l0 l1 l2 : List Int} (h : Own3 B w v0 v1 v2 l0 l1 l2) {a : Addr} (ha : a.block < B) (u : Value) : Own3 B (w.setCell a u) v0 v1 v2 l0 l1 l2 :=
  ⟨h.o0.set ha u, h.o1.set ha u, h.o2.set ha u, h.n01, h.n02, h.n12⟩
theorem Own3.mono {B B' : Nat} {w : World} {v0 v1 v2 : Value} {l0 l1 l2 : List Int} (h : Own3 B w v0 v1 v2 l0 l1 l2) (hB : B' ≤ B) : Own3 B' w v0 v1 v2 l0 l1 l2 :=
  ⟨h.o0.mono hB, h.o1.mono hB, h.o2.mono hB, h.n01, h.n02, h.n12⟩

/-- the zero disk, as a value -/
abbrev zDisk : Value := diskV (.slice none 0 0) 0 (.slice none 0 0) 0 (.slice none 0 0) 0

/-- what a function of the disk hands back: a disk of three lists in new memory, and a code; nothing old has turned -/
def DiskRes (w : World) (L0 L1 L2 : List Int) (N0 N1 N2 code : Int) (e : Ending) (w' : World) : Prop :=
  ∃ q0 d0 q1 d1 q2 d2, e = .returned (.tuple #[diskV (.slice q0 L0.length d0) N0 (.slice q1 L1.length d1) N1 (.slice q2 L2.length d2) N2, .int .i64 code]) ∧
    Own3 w.heap.size w' (.slice q0 L0.length d0) (.slice q1 L1.length d1) (.slice q2 L2.length d2) L0 L1 L2 ∧ Below w.heap.size w w'

theorem Own3.nil (B : Nat) (w : World) : Own3 B w (.slice none 0 0) (.slice none 0 0) (.slice none 0 0) [] [] [] :=
  ⟨World.ownsRow_nil _ _ _ _, World.ownsRow_nil _ _ _ _, World.ownsRow_nil _ _ _ _, by intro b h; simp [Value.ownBlock] at h, by intro b h; simp [Value.ownBlock] at h, by intro b h; simp [Value.ownBlock] at h⟩
end Go.Proofs.Yteljknmkodllkaa
