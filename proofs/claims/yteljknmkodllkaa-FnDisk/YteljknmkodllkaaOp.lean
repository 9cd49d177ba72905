import Derived.Test.YteljknmkodllkaaMaD
import Derived.Deep.Fields23
import Derived.Deep.Strs
namespace Go.Proofs.Yteljknmkodllkaa
open Go.ChangeShapes Go.WideShapes Go.ChangeAt Go.RowKit Go.Deep
set_option linter.unusedVariables false
set_option linter.unusedSimpArgs false

/-- a slice of bytes that came in, opened -/
theorem Rd.of_trod {H : Type} {enc : TypeId × Value → H} {w : World} {n : Nat} {cs : List Value} {x : DataW H × List MemPlace} (h : DataW.trod enc Try.prog w 0 (fun _ => true) true n 22 cs = some x) :
    ∃ (p : Option Addr) (l : List Int) (c : Nat), cs = [.slice p l.length c] ∧ Rd w (.slice p l.length c) l ∧ l.length ≤ maxLen ∧ (∀ z ∈ l, (Lit.int .u8 z).wf = true) := by
  rcases open_ints Try.underlying22 Try.underlying5 (by kernel_rfl) h with ⟨rfl, _⟩ | ⟨a, len, cap, zs, rfl, _, hl, hm, hz, _, hcell, hwz⟩
  · exact ⟨none, [], 0, rfl, Rd.nil w, by simp, by simp⟩
  · simp only [if_true] at hz
    have e : (zs.take len).length = len := by simp; omega
    refine ⟨some a, zs.take len, cap, by rw [e], ?_, by omega, fun z h => hwz z (List.mem_of_mem_take h)⟩
    refine ⟨some a, cap, rfl, ?_⟩
    by_cases h0 : len = 0
    · left; subst h0; simp
    · right
      obtain ⟨b, o, spot⟩ := a
      have hs : spot = none := by simpa [Addr.add] using World.cell?_spot (hcell 0 (by omega))
      subst hs
      refine ⟨b, o, rfl, fun i hi => ?_⟩
      rw [e] at hi
      have := hcell i (by omega)
      simp only [Addr.add_lit] at this
      rw [this]
      simp [List.getD, List.getElem?_take, hi]

theorem cells_file : Try.prog.cellsOf 24 = 2 := by kernel_rfl
theorem cells_disk : Try.prog.cellsOf 26 = 6 := by kernel_rfl
theorem cells_bytes : Try.prog.cellsOf 22 = 1 := by kernel_rfl
theorem cells_int : Try.prog.cellsOf 3 = 1 := by kernel_rfl

theorem file_of_trod {H : Type} {enc : TypeId × Value → H} {w : World} {n : Nat} {c0 c1 : Value} {x : DataW H × List MemPlace} (h : DataW.trod enc Try.prog w 0 (fun _ => true) true n 24 [c0, c1] = some x) :
    ∃ (p : Option Addr) (l : List Int) (c : Nat) (s : Int), c0 = .slice p l.length c ∧ c1 = .int .i64 s ∧ Rd w (.slice p l.length c) l ∧ l.length ≤ maxLen ∧ (Lit.int .i64 s).wf = true := by
  obtain ⟨y0, y1, m, hx, _, h0, h1⟩ := trod_struct2 Try.underlying24 h
  simp [cells_bytes, cells_int] at h0 h1
  obtain ⟨p, l, c, e, hr, hl, _⟩ := Rd.of_trod h0
  obtain ⟨s, e1, _, ws⟩ := DataW.trod_int Try.underlying3 h1
  simp at e e1
  exact ⟨p, l, c, s, e, e1, hr, hl, ws⟩

theorem array6 {cs : Array Value} (h : cs.size = 6) : ∃ a b c d e f, cs = #[a, b, c, d, e, f] := by
  obtain ⟨l⟩ := cs
  simp at h
  match l, h with
  | [a, b, c, d, e, f], _ => exact ⟨a, b, c, d, e, f, rfl⟩

/-- a disk that came in, opened -/
theorem disk_of_trod {H : Type} {enc : TypeId × Value → H} {w : World} {r : Reach} {b0 : Nat} {v : Value} {d : DataW H} {ps : List MemPlace} (hv : Value.okWide Try.prog w r b0 26 v) (h : DataW.Trod enc Try.prog w 0 (fun _ => true) true 26 v d ps) :
    ∃ (p0 p1 p2 : Option Addr) (l0 l1 l2 : List Int) (c0 c1 c2 : Nat) (s0 s1 s2 : Int), v = diskV (.slice p0 l0.length c0) s0 (.slice p1 l1.length c1) s1 (.slice p2 l2.length c2) s2 ∧
      Rd w (.slice p0 l0.length c0) l0 ∧ Rd w (.slice p1 l1.length c1) l1 ∧ Rd w (.slice p2 l2.length c2) l2 ∧ l0.length ≤ maxLen ∧ l1.length ≤ maxLen ∧ l2.length ≤ maxLen := by
  obtain ⟨cs, rfl, hsz⟩ := okWide_struct Try.underlying26 hv
  obtain ⟨a, b, c, d, e, f, rfl⟩ := array6 (hsz.trans cells_disk)
  obtain ⟨fuel, hf⟩ := h
  obtain ⟨y0, y1, y2, m, hx, _, h0, h1, h2⟩ := trod_struct3 Try.underlying26 hf
  simp [cells_file, Value.cells] at h0 h1 h2
  obtain ⟨p0, l0, c0, s0, rfl, rfl, r0, m0, _⟩ := file_of_trod h0
  obtain ⟨p1, l1, c1, s1, rfl, rfl, r1, m1, _⟩ := file_of_trod h1
  obtain ⟨p2, l2, c2, s2, rfl, rfl, r2, m2, _⟩ := file_of_trod h2
  exact ⟨p0, p1, p2, l0, l1, l2, c0, c1, c2, s0, s1, s2, rfl, r0, r1, r2, m0, m1, m2⟩
end Go.Proofs.Yteljknmkodllkaa
