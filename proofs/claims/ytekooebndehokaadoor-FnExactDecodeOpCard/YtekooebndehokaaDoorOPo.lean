import Derived.Test.YtekooebndehokaaDoorOPn
import Derived.Test.YtekooebndehokaaDoorDAux
import Derived.OpenVars
namespace Go.Proofs.YtekooebndehokaaDoor
open Go.ChangeShapes Go.WideShapes Go.ChangeAt Go.RowKit Go.Deep
set_option linter.unusedVariables false
set_option linter.unusedSimpArgs false
set_option maxRecDepth 100000

theorem u64_bounds {s : Int} (h : (Lit.int .u64 s).wf = true) : 0 ≤ s ∧ s < 18446744073709551616 := by
  simp [Lit.wf, IntKind.min, IntKind.max, IntKind.signed, IntKind.bits] at h
  omega
theorem cells_op : Tryd.prog.cellsOf 28 = 7 := by kernel_rfl
theorem cells_form : Tryd.prog.cellsOf 59 = 7 := by kernel_rfl
theorem cells_bytes : Tryd.prog.cellsOf 22 = 1 := by kernel_rfl
theorem cells_u64 : Tryd.prog.cellsOf 26 = 1 := by kernel_rfl
theorem cells_int : Tryd.prog.cellsOf 3 = 1 := by kernel_rfl
theorem cells_bool : Tryd.prog.cellsOf 4 = 1 := by kernel_rfl
theorem array7 {cs : Array Value} (h : cs.size = 7) : ∃ a b c d e f g, cs = #[a, b, c, d, e, f, g] := by
  obtain ⟨l⟩ := cs
  simp at h
  match l, h with
  | [a, b, c, d, e, f, g], _ => exact ⟨a, b, c, d, e, f, g, rfl⟩
theorem trod_struct7 {H : Type} {enc : TypeId × Value → H} {P : Program} {w : World} {base : Nat} {spare : Nat → Bool} {held : Bool} {t : TypeId} {f0 f1 f2 f3 f4 f5 f6 : Field} {fuel : Nat} {cs : List Value} {x : DataW H × List MemPlace} (ht : P.underlying t = some (.struct #[f0, f1, f2, f3, f4, f5, f6])) (h : DataW.trod enc P w base spare held fuel t cs = some x) :
    ∃ y0 y1 y2 y3 y4 y5 y6 n, x.1 = .agg [y0.1, y1.1, y2.1, y3.1, y4.1, y5.1, y6.1] ∧ cs.length = P.cellsOf t ∧
      DataW.trod enc P w base spare held n f0.type ((cs.drop f0.offset).take (P.cellsOf f0.type)) = some y0 ∧ DataW.trod enc P w base spare held n f1.type ((cs.drop f1.offset).take (P.cellsOf f1.type)) = some y1 ∧
      DataW.trod enc P w base spare held n f2.type ((cs.drop f2.offset).take (P.cellsOf f2.type)) = some y2 ∧ DataW.trod enc P w base spare held n f3.type ((cs.drop f3.offset).take (P.cellsOf f3.type)) = some y3 ∧
      DataW.trod enc P w base spare held n f4.type ((cs.drop f4.offset).take (P.cellsOf f4.type)) = some y4 ∧ DataW.trod enc P w base spare held n f5.type ((cs.drop f5.offset).take (P.cellsOf f5.type)) = some y5 ∧
      DataW.trod enc P w base spare held n f6.type ((cs.drop f6.offset).take (P.cellsOf f6.type)) = some y6 := by
  obtain ⟨xs, n, _, rfl, hl, hlen, hf⟩ := DataW.trod_struct ht h
  match xs, hlen with
  | [y0, y1, y2, y3, y4, y5, y6], _ => exact ⟨y0, y1, y2, y3, y4, y5, y6, n, rfl, hl, by simpa using hf 0 f0 rfl, by simpa using hf 1 f1 rfl, by simpa using hf 2 f2 rfl, by simpa using hf 3 f3 rfl, by simpa using hf 4 f4 rfl, by simpa using hf 5 f5 rfl, by simpa using hf 6 f6 rfl⟩
/-- a request that came in, opened -/
theorem op_of_trod {H : Type} {enc : TypeId × Value → H} {w : World} {r : Reach} {b0 : Nat} {v : Value} {d : DataW H} {ps : List MemPlace} (hv : Value.okWide Tryd.prog w r b0 28 v) (h : DataW.Trod enc Tryd.prog w 0 (fun _ => true) true 28 v d ps) :
    ∃ (k s f e g : Int) (p q : Option Addr) (P V : List Int) (c c' : Nat), v = opV k s (.slice p P.length c) f (.slice q V.length c') e g ∧ Rd w (.slice p P.length c) P ∧ Rd w (.slice q V.length c') V ∧ P.length ≤ maxLen ∧ V.length ≤ maxLen ∧ (∀ z ∈ P, 0 ≤ z ∧ z < 256) ∧ (∀ z ∈ V, 0 ≤ z ∧ z < 256) ∧ 0 ≤ s ∧ s < 18446744073709551616 := by
  obtain ⟨cs, rfl, hsz⟩ := okWide_struct Tryd.underlying28 hv
  obtain ⟨x0, x1, x2, x3, x4, x5, x6, rfl⟩ := array7 (hsz.trans cells_op)
  obtain ⟨fuel, hf⟩ := h
  obtain ⟨y0, y1, y2, y3, y4, y5, y6, m, _, _, h0, h1, h2, h3, h4, h5, h6⟩ := trod_struct7 Tryd.underlying28 hf
  simp [cells_bytes, cells_u64, cells_int, Value.cells] at h0 h1 h2 h3 h4 h5 h6
  obtain ⟨k, e0, _, _⟩ := DataW.trod_int Tryd.underlying3 h0
  obtain ⟨s, e1, _, ws⟩ := DataW.trod_int Tryd.underlying26 h1
  obtain ⟨p, P, c, e2, hr2, hl2, _, hB2⟩ := Rd.of_trod_cap h2
  obtain ⟨f, e3, _, _⟩ := DataW.trod_int Tryd.underlying3 h3
  obtain ⟨q, V, c', e4, hr4, hl4, _, hB4⟩ := Rd.of_trod_cap h4
  obtain ⟨e, e5, _, _⟩ := DataW.trod_int Tryd.underlying26 h5
  obtain ⟨g, e6, _, _⟩ := DataW.trod_int Tryd.underlying26 h6
  simp at e0 e1 e2 e3 e4 e5 e6
  subst e0 e1 e2 e3 e4 e5 e6
  obtain ⟨s0, s1⟩ := u64_bounds ws
  exact ⟨k, s, f, e, g, p, q, P, V, c, c', rfl, hr2, hr4, hl2, hl4, hB2, hB4, s0, s1⟩
/-- a row of the table, out of its datum -/
theorem form_of_trod {w : World} {n : Nat} {cs : List Value} {x : DataW Unit × List MemPlace} {se pa sq jo : Bool} {lo hi vs : Int} (h : DataW.trod (fun _ => ()) Tryd.prog w 0 (fun _ => true) false n 59 cs = some x) (hx : x.1 = .agg [.lit (.bool se), .lit (.bool pa), .lit (.int .i64 lo), .lit (.int .i64 hi), .lit (.int .i64 vs), .lit (.bool sq), .lit (.bool jo)]) :
    cs = [.bool se, .bool pa, .int .i64 lo, .int .i64 hi, .int .i64 vs, .bool sq, .bool jo] := by
  obtain ⟨y0, y1, y2, y3, y4, y5, y6, m, e, hl, h0, h1, h2, h3, h4, h5, h6⟩ := trod_struct7 Tryd.underlying59 h
  rw [cells_form] at hl
  obtain ⟨x0, x1, x2, x3, x4, x5, x6, rfl⟩ : ∃ x0 x1 x2 x3 x4 x5 x6, cs = [x0, x1, x2, x3, x4, x5, x6] := by
    match cs, hl with
    | [a, b, c, d, e, f, g], _ => exact ⟨a, b, c, d, e, f, g, rfl⟩
  simp [cells_bool, cells_int] at h0 h1 h2 h3 h4 h5 h6
  obtain ⟨b0, e0, f0⟩ := DataW.trod_bool Tryd.underlying4 h0
  obtain ⟨b1, e1, f1⟩ := DataW.trod_bool Tryd.underlying4 h1
  obtain ⟨b2, e2, f2, _⟩ := DataW.trod_int Tryd.underlying3 h2
  obtain ⟨b3, e3, f3, _⟩ := DataW.trod_int Tryd.underlying3 h3
  obtain ⟨b4, e4, f4, _⟩ := DataW.trod_int Tryd.underlying3 h4
  obtain ⟨b5, e5, f5⟩ := DataW.trod_bool Tryd.underlying4 h5
  obtain ⟨b6, e6, f6⟩ := DataW.trod_bool Tryd.underlying4 h6
  rw [e, f0, f1, f2, f3, f4, f5, f6] at hx
  simp at hx e0 e1 e2 e3 e4 e5 e6
  obtain ⟨rfl, rfl, rfl, rfl, rfl, rfl, rfl⟩ := hx
  subst e0 e1 e2 e3 e4 e5 e6
  rfl
end Go.Proofs.YtekooebndehokaaDoor
