import Derived.Test.YtekooebndehokaaDoorOPo
namespace Go.Proofs.YtekooebndehokaaDoor
open Go.ChangeShapes Go.WideShapes Go.ChangeAt Go.RowKit Go.Deep
set_option linter.unusedVariables false
set_option linter.unusedSimpArgs false
set_option maxRecDepth 100000

/-- a row of the table in memory, out of what is laid -/
theorem forms_row {W : World} (h : laidMetH Tryd.prog Rows.fnExactEncodeOpRow.laid W) (k : Nat) (hk : k < 14) (se pa sq jo : Bool) (lo hi vs : Int)
    (hd0 : ∀ ds : List (DataW Unit), Rows.laid_loop_example_s02132_impl_forms = .agg ds → ds[k]? = some (.agg [.lit (.bool se), .lit (.bool pa), .lit (.int .i64 lo), .lit (.int .i64 hi), .lit (.int .i64 vs), .lit (.bool sq), .lit (.bool jo)])) :
    RowAt W 0 (k * 7) se pa lo hi vs sq jo := by
  rw [MakeChecks.laidMetH_plain _ _ _ (by kernel_rfl)] at h
  obtain ⟨ps, ⟨g, t, cs, fuel, p, q, hg, ht, hv, hd, _, _⟩, _, _⟩ := h
  obtain rfl := Option.some.inj ((show Tryd.prog.globalNamed "loop.example/s02132/impl.forms" = some 0 by kernel_rfl).symm.trans hg)
  obtain rfl := Option.some.inj ((show (Tryd.prog.globals[0]?).map (·.type) = some 60 by kernel_rfl).symm.trans ht)
  obtain ⟨xs, m, _, ex, hcl, hl, hel⟩ := DataW.trod_array Tryd.underlying60 hd
  have hE := hel k hk
  rw [cells_form, List.getElem?_eq_getElem (by omega)] at hE
  have e3 := hd0 _ (Prod.mk.inj ex).1
  rw [List.getElem?_map, List.getElem?_eq_getElem (by omega : k < xs.length)] at e3
  simp only [Option.map_some, Option.some.injEq] at e3
  have hcs := form_of_trod hE e3
  have hcell : ∀ j v, [Value.bool se, .bool pa, .int .i64 lo, .int .i64 hi, .int .i64 vs, .bool sq, .bool jo][j]? = some v → j < 7 → W.cell? ⟨0, k * 7 + j, none⟩ = some v := fun j v hj hj7 => by
    rw [World.var?_cell hg hv (k * 7 + j), ← hj, ← hcs, List.getElem?_take, if_pos hj7, List.getElem?_drop]
    simp
  exact ⟨by simpa using hcell 0 _ rfl (by omega), hcell 1 _ rfl (by omega), hcell 2 _ rfl (by omega), hcell 3 _ rfl (by omega), hcell 4 _ rfl (by omega), hcell 5 _ rfl (by omega), hcell 6 _ rfl (by omega)⟩
end Go.Proofs.YtekooebndehokaaDoor
