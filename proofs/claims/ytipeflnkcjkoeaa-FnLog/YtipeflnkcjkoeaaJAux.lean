import Derived.Test.YtipeflnkcjkoeaaGO
import Derived.Test.YtipeflnkcjkoeaaJSm
import Derived.ShutString
import Derived.ChangeOld
import Derived.Below
namespace Go.Proofs.Ytipeflnkcjkoeaa
open Go.ChangeShapes Go.WideShapes Go.ChangeAt Go.RowKit Go.Deep
set_option linter.unusedVariables false
set_option linter.unusedSimpArgs false

theorem own : ownKnob Try.prog.godebug = none := by kernel_rfl
theorem laidOut : laidOutB Try.prog = true := by kernel_rfl
theorem u64_bounds {s : Int} (h : (Lit.int .u64 s).wf = true) : 0 ≤ s ∧ s < 18446744073709551616 := by
  simp [Lit.wf, IntKind.min, IntKind.max, IntKind.signed, IntKind.bits] at h
  omega
theorem cells_record : Try.prog.cellsOf 35 = 2 := by kernel_rfl
theorem cells_bytes : Try.prog.cellsOf 22 = 1 := by kernel_rfl
theorem cells_u64 : Try.prog.cellsOf 28 = 1 := by kernel_rfl
theorem array2 {cs : Array Value} (h : cs.size = 2) : ∃ a b, cs = #[a, b] := by
  obtain ⟨l⟩ := cs
  simp at h
  match l, h with
  | [a, b], _ => exact ⟨a, b, rfl⟩
/-- a record that came in, opened -/
theorem record_of_trod {H : Type} {enc : TypeId × Value → H} {w : World} {r : Reach} {b0 : Nat} {v : Value} {d : DataW H} {ps : List MemPlace} (hv : Value.okWide Try.prog w r b0 35 v) (h : DataW.Trod enc Try.prog w 0 (fun _ => true) true 35 v d ps) :
    ∃ (s : Int) (p : Option Addr) (l : List Int) (c : Nat), v = recV s (.slice p l.length c) ∧ Rd w (.slice p l.length c) l ∧ l.length ≤ maxLen ∧ Byt l ∧ 0 ≤ s ∧ s < 18446744073709551616 := by
  obtain ⟨cs, rfl, hsz⟩ := okWide_struct Try.underlying35 hv
  obtain ⟨a, b, rfl⟩ := array2 (hsz.trans cells_record)
  obtain ⟨fuel, hf⟩ := h
  obtain ⟨y0, y1, m, hx, _, h0, h1⟩ := trod_struct2 Try.underlying35 hf
  simp [cells_bytes, cells_u64, Value.cells] at h0 h1
  obtain ⟨s, e1, _, ws⟩ := DataW.trod_int Try.underlying28 h0
  obtain ⟨p, l, c, e, hr, hl, _, hB⟩ := Rd.of_trod_cap h1
  simp at e e1
  subst e e1
  obtain ⟨s0, s1⟩ := u64_bounds ws
  exact ⟨s, p, l, c, rfl, hr, hl, hB, s0, s1⟩
end Go.Proofs.Ytipeflnkcjkoeaa
