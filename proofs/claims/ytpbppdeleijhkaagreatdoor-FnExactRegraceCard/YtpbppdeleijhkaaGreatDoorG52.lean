import Derived.Test.YtpbppdeleijhkaaGreatDoorG8
import Derived.Test.YtpbppdeleijhkaaGreatDoorG51
import Derived.Deep.Strs
namespace Go.Proofs.YtpbppdeleijhkaaGreatDoor
open Go.ChangeShapes Go.WideShapes Go.ChangeAt Go.RowKit Go.Deep
set_option linter.unusedVariables false
set_option linter.unusedSimpArgs false
set_option maxRecDepth 100000
theorem u64_of {s : Int} (h : (Lit.int .u64 s).wf = true) : 0 ≤ s ∧ s < 18446744073709551616 := by
 simp [Lit.wf, IntKind.min, IntKind.max, IntKind.signed, IntKind.bits] at h
 omega
theorem cells_ev : Tryz.prog.cellsOf 206 = 2 := by kernel_rfl
theorem cells_ses : Tryz.prog.cellsOf 128 = 3 := by kernel_rfl
theorem cells_nod : Tryz.prog.cellsOf 130 = 8 := by kernel_rfl
theorem cells_st : Tryz.prog.cellsOf 39 = 6 := by kernel_rfl
theorem cells_b : Tryz.prog.cellsOf 22 = 1 := by kernel_rfl
theorem cells_u : Tryz.prog.cellsOf 23 = 1 := by kernel_rfl
theorem cells_us : Tryz.prog.cellsOf 41 = 1 := by kernel_rfl
theorem cells_i : Tryz.prog.cellsOf 3 = 1 := by kernel_rfl
theorem cells_evs : Tryz.prog.cellsOf 126 = 1 := by kernel_rfl
theorem cells_sess : Tryz.prog.cellsOf 36 = 1 := by kernel_rfl
theorem cells_nods : Tryz.prog.cellsOf 37 = 1 := by kernel_rfl
theorem trod_struct6 {H : Type} {enc : TypeId × Value → H} {P : Program} {w : World} {base : Nat} {spare : Nat → Bool} {held : Bool} {t : TypeId} {f0 f1 f2 f3 f4 f5 : Field} {fuel : Nat} {cs : List Value} {x : DataW H × List MemPlace} (ht : P.underlying t = some (.struct #[f0, f1, f2, f3, f4, f5])) (h : DataW.trod enc P w base spare held fuel t cs = some x) :
  ∃ y0 y1 y2 y3 y4 y5 n, cs.length = P.cellsOf t ∧
   DataW.trod enc P w base spare held n f0.type ((cs.drop f0.offset).take (P.cellsOf f0.type)) = some y0 ∧ DataW.trod enc P w base spare held n f1.type ((cs.drop f1.offset).take (P.cellsOf f1.type)) = some y1 ∧ DataW.trod enc P w base spare held n f2.type ((cs.drop f2.offset).take (P.cellsOf f2.type)) = some y2 ∧ DataW.trod enc P w base spare held n f3.type ((cs.drop f3.offset).take (P.cellsOf f3.type)) = some y3 ∧ DataW.trod enc P w base spare held n f4.type ((cs.drop f4.offset).take (P.cellsOf f4.type)) = some y4 ∧ DataW.trod enc P w base spare held n f5.type ((cs.drop f5.offset).take (P.cellsOf f5.type)) = some y5 := by
 obtain ⟨xs, n, _, rfl, hl, hlen, hf⟩ := DataW.trod_struct ht h
 match xs, hlen with
 | [y0, y1, y2, y3, y4, y5], _ => exact ⟨y0, y1, y2, y3, y4, y5, n, hl, by simpa using hf 0 f0 rfl, by simpa using hf 1 f1 rfl, by simpa using hf 2 f2 rfl, by simpa using hf 3 f3 rfl, by simpa using hf 4 f4 rfl, by simpa using hf 5 f5 rfl⟩
theorem trod_struct8 {H : Type} {enc : TypeId × Value → H} {P : Program} {w : World} {base : Nat} {spare : Nat → Bool} {held : Bool} {t : TypeId} {f0 f1 f2 f3 f4 f5 f6 f7 : Field} {fuel : Nat} {cs : List Value} {x : DataW H × List MemPlace} (ht : P.underlying t = some (.struct #[f0, f1, f2, f3, f4, f5, f6, f7])) (h : DataW.trod enc P w base spare held fuel t cs = some x) :
  ∃ y0 y1 y2 y3 y4 y5 y6 y7 n, cs.length = P.cellsOf t ∧
   DataW.trod enc P w base spare held n f0.type ((cs.drop f0.offset).take (P.cellsOf f0.type)) = some y0 ∧ DataW.trod enc P w base spare held n f1.type ((cs.drop f1.offset).take (P.cellsOf f1.type)) = some y1 ∧ DataW.trod enc P w base spare held n f2.type ((cs.drop f2.offset).take (P.cellsOf f2.type)) = some y2 ∧ DataW.trod enc P w base spare held n f3.type ((cs.drop f3.offset).take (P.cellsOf f3.type)) = some y3 ∧ DataW.trod enc P w base spare held n f4.type ((cs.drop f4.offset).take (P.cellsOf f4.type)) = some y4 ∧ DataW.trod enc P w base spare held n f5.type ((cs.drop f5.offset).take (P.cellsOf f5.type)) = some y5 ∧ DataW.trod enc P w base spare held n f6.type ((cs.drop f6.offset).take (P.cellsOf f6.type)) = some y6 ∧ DataW.trod enc P w base spare held n f7.type ((cs.drop f7.offset).take (P.cellsOf f7.type)) = some y7 := by
 obtain ⟨xs, n, _, rfl, hl, hlen, hf⟩ := DataW.trod_struct ht h
 match xs, hlen with
 | [y0, y1, y2, y3, y4, y5, y6, y7], _ => exact ⟨y0, y1, y2, y3, y4, y5, y6, y7, n, hl, by simpa using hf 0 f0 rfl, by simpa using hf 1 f1 rfl, by simpa using hf 2 f2 rfl, by simpa using hf 3 f3 rfl, by simpa using hf 4 f4 rfl, by simpa using hf 5 f5 rfl, by simpa using hf 6 f6 rfl, by simpa using hf 7 f7 rfl⟩
theorem list_of_trod {H : Type} {enc : TypeId × Value → H} {w : World} {α : Type} [Inhabited α] {t e : TypeId} (ht : Tryz.prog.underlying t = some (.slice e)) (sz : Nat) (hsz : Tryz.prog.cellsOf e = sz) (h0 : 0 < sz) (Q : List Value → α → Prop)
  (hel : ∀ (n : Nat) (cs : List Value) (x : DataW H × List MemPlace), DataW.trod enc Tryz.prog w 0 (fun _ => true) true n e cs = some x → ∃ y, Q cs y) {fuel : Nat} {cs : List Value} {x : DataW H × List MemPlace} (h : DataW.trod enc Tryz.prog w 0 (fun _ => true) true fuel t cs = some x) :
  ∃ (p : Option Addr) (l : List α) (c : Nat), cs = [.slice p l.length c] ∧ l.length ≤ c ∧ c ≤ maxLen ∧ (l = [] ∨ ∃ b o, p = some ⟨b, o, none⟩ ∧ ∀ (i : Nat) (y : α), l[i]? = some y → ∃ cs' : List Value, (∀ (j : Nat) (v : Value), cs'[j]? = some v → w.cell? ⟨b, o + (i * sz + j), none⟩ = some v) ∧ Q cs' y) := by
 rcases open_slice ht h with ⟨rfl, _⟩ | ⟨a, len, cap, m, n, D, Pl, rfl, _, hl, hm, hmm, _, hx⟩
 ·exact ⟨none, [], 0, rfl, Nat.le_refl _, by unfold maxLen; omega, .inl rfl⟩
 ·simp only [if_true] at hmm
  subst hmm
  obtain ⟨f, hf⟩ := choose_lt (α := α) (n := len) (p := fun i y => ∃ cs' : List Value, w.cells? 0 (a.add (i * Tryz.prog.cellsOf e)) (Tryz.prog.cellsOf e) = some cs' ∧ Q cs' y) (fun i hi => by
   obtain ⟨cs', h1, h2⟩ := hx i (by omega)
   obtain ⟨y, hy⟩ := hel _ _ _ h2
   exact ⟨y, cs', h1, hy⟩)
  have hlen : ((List.range len).map f).length = len := by simp
  refine ⟨some a, (List.range len).map f, m, by rw [hlen], by rw [hlen]; exact hl, hm, ?_⟩
  by_cases hz : len = 0
  ·left; subst hz; rfl
  ·right
   obtain ⟨b, o, spot⟩ := a
   have hs : spot = none := by
    obtain ⟨cs', h1, _⟩ := hf 0 (by omega)
    obtain ⟨_, hcl, hc⟩ := World.cells?_some h1
    have := hc 0 (by rw [hsz]; exact h0)
    rw [List.getElem?_eq_getElem (by rw [hcl, hsz]; exact h0)] at this
    simpa [Addr.add] using World.cell?_spot this
   subst hs
   refine ⟨b, o, rfl, fun i y hy => ?_⟩
   have hi : i < len := by have := (List.getElem?_eq_some_iff.1 hy).1; rwa [hlen] at this
   have ey : y = f i := by
    have := (List.getElem?_eq_some_iff.1 hy).2
    simpa using this.symm
   subst ey
   obtain ⟨cs', h1, h2⟩ := hf i hi
   refine ⟨cs', fun j v hj => ?_, h2⟩
   obtain ⟨_, hcl, hc⟩ := World.cells?_some h1
   have hjl : j < Tryz.prog.cellsOf e := by rw [← hcl]; exact (List.getElem?_eq_some_iff.1 hj).1
   have := hc j hjl
   rw [hj, hsz] at this
   simp only [Addr.add_lit] at this
   rw [← this]
   congr 1
   simp [Nat.add_assoc]
theorem u64s_of_trod {H : Type} {enc : TypeId × Value → H} {w : World} {fuel : Nat} {cs : List Value} {x : DataW H × List MemPlace} (h : DataW.trod enc Tryz.prog w 0 (fun _ => true) true fuel 41 cs = some x) :
  ∃ (p : Option Addr) (l : List Int) (c : Nat), cs = [.slice p l.length c] ∧ l.length ≤ maxLen ∧ RdU w (.slice p l.length c) l ∧ ∀ i ∈ l, 0 ≤ i ∧ i < 18446744073709551616 := by
 obtain ⟨p, l, c, rfl, h1, h2, h3⟩ := list_of_trod (α := Int) Tryz.underlying41 1 cells_u (by omega) (fun cs y => cs = [.int .u64 y] ∧ 0 ≤ y ∧ y < 18446744073709551616) (fun n cs x hx => by
  obtain ⟨y, e0, _, wf⟩ := DataW.trod_int Tryz.underlying23 hx
  exact ⟨y, e0, u64_of wf⟩) h
 refine ⟨p, l, c, rfl, by omega, ⟨p, c, rfl, ?_⟩, ?_⟩
 ·rcases h3 with h3 | ⟨b, o, rfl, h3⟩
  ·exact .inl h3
  ·refine .inr ⟨b, o, rfl, fun i hi => ?_⟩
   obtain ⟨cs', g1, rfl, _⟩ := h3 i _ (List.getElem?_eq_getElem hi)
   have := g1 0 _ rfl
   rw [List.getD_eq_getElem?_getD, List.getElem?_eq_getElem hi]
   simpa using this
 ·intro y hy
  rcases h3 with h3 | ⟨b, o, rfl, h3⟩
  ·rw [h3] at hy; cases hy
  ·obtain ⟨i, hi⟩ := List.getElem?_of_mem hy
   obtain ⟨cs', _, _, g2⟩ := h3 i y hi
   exact g2
theorem evs_of_trod {H : Type} {enc : TypeId × Value → H} {w : World} {fuel : Nat} {cs : List Value} {x : DataW H × List MemPlace} (h : DataW.trod enc Tryz.prog w 0 (fun _ => true) true fuel 126 cs = some x) :
  ∃ (p : Option Addr) (l : List Ev) (c : Nat), cs = [.slice p l.length c] ∧ l.length ≤ maxLen ∧ RdE w (.slice p l.length c) l ∧ ∀ e ∈ l, e.2.length ≤ maxLen ∧ Byt e.2 := by
 obtain ⟨p, l, c, rfl, h1, h2, h3⟩ := list_of_trod (α := Ev) Tryz.underlying126 2 cells_ev (by omega) (fun cs y => ∃ q d, cs = [.int .i64 y.1, .slice q y.2.length d] ∧ Rd w (.slice q y.2.length d) y.2 ∧ y.2.length ≤ maxLen ∧ Byt y.2) (fun n cs x hx => by
  obtain ⟨y0, y1, m, _, hl, g0, g1⟩ := trod_struct2 Tryz.underlying206 hx
  rw [cells_ev] at hl
  obtain ⟨x0, x1, rfl⟩ : ∃ x0 x1, cs = [x0, x1] := by
   match cs, hl with
   | [a, b], _ => exact ⟨a, b, rfl⟩
  simp [cells_i, cells_b] at g0 g1
  obtain ⟨k, e0, _, _⟩ := DataW.trod_int Tryz.underlying3 g0
  obtain ⟨q, P, d, e1, r1, l1, _, b1⟩ := Rd.of_trod_cap g1
  simp at e0 e1
  subst e0 e1
  exact ⟨(k, P), q, d, rfl, r1, l1, b1⟩) h
 refine ⟨p, l, c, rfl, by omega, ⟨p, c, rfl, ?_⟩, ?_⟩
 ·rcases h3 with h3 | ⟨b, o, rfl, h3⟩
  ·exact .inl h3
  ·refine .inr ⟨b, o, rfl, fun i y hy => ?_⟩
   obtain ⟨cs', g1, q, d, rfl, r1, _⟩ := h3 i y hy
   exact ⟨by simpa using g1 0 _ rfl, _, by simpa [Nat.add_assoc] using g1 1 _ rfl, r1⟩
 ·intro y hy
  rcases h3 with h3 | ⟨b, o, rfl, h3⟩
  ·rw [h3] at hy; cases hy
  ·obtain ⟨i, hi⟩ := List.getElem?_of_mem hy
   obtain ⟨cs', _, q, d, _, _, g2⟩ := h3 i y hi
   exact g2
theorem sess_of_trod {H : Type} {enc : TypeId × Value → H} {w : World} {fuel : Nat} {cs : List Value} {x : DataW H × List MemPlace} (h : DataW.trod enc Tryz.prog w 0 (fun _ => true) true fuel 36 cs = some x) :
  ∃ (p : Option Addr) (l : List Ses) (c : Nat), cs = [.slice p l.length c] ∧ l.length ≤ maxLen ∧ RdS w (.slice p l.length c) l ∧ ∀ s ∈ l, s.2.2.length ≤ maxLen ∧ ∀ e ∈ s.2.2, e.2.length ≤ maxLen ∧ Byt e.2 := by
 obtain ⟨p, l, c, rfl, h1, h2, h3⟩ := list_of_trod (α := Ses) Tryz.underlying36 3 cells_ses (by omega) (fun cs y => ∃ q d, cs = [.int .u64 y.1, .int .i64 y.2.1, .slice q y.2.2.length d] ∧ RdE w (.slice q y.2.2.length d) y.2.2 ∧ y.2.2.length ≤ maxLen ∧ ∀ e ∈ y.2.2, e.2.length ≤ maxLen ∧ Byt e.2) (fun n cs x hx => by
  obtain ⟨y0, y1, y2, m, _, hl, g0, g1, g2⟩ := trod_struct3 Tryz.underlying128 hx
  rw [cells_ses] at hl
  obtain ⟨x0, x1, x2, rfl⟩ : ∃ x0 x1 x2, cs = [x0, x1, x2] := by
   match cs, hl with
   | [a, b, c], _ => exact ⟨a, b, c, rfl⟩
  simp [cells_i, cells_u, cells_evs] at g0 g1 g2
  obtain ⟨i, e0, _, _⟩ := DataW.trod_int Tryz.underlying23 g0
  obtain ⟨k, e1, _, _⟩ := DataW.trod_int Tryz.underlying3 g1
  obtain ⟨q, Q, d, e2, l1, r1, b1⟩ := evs_of_trod g2
  simp at e0 e1 e2
  subst e0 e1 e2
  exact ⟨(i, k, Q), q, d, rfl, r1, l1, b1⟩) h
 refine ⟨p, l, c, rfl, by omega, ⟨p, c, rfl, ?_⟩, ?_⟩
 ·rcases h3 with h3 | ⟨b, o, rfl, h3⟩
  ·exact .inl h3
  ·refine .inr ⟨b, o, rfl, fun i y hy => ?_⟩
   obtain ⟨cs', g1, q, d, rfl, r1, _⟩ := h3 i y hy
   exact ⟨by simpa using g1 0 _ rfl, by simpa [Nat.add_assoc] using g1 1 _ rfl, _, by simpa [Nat.add_assoc] using g1 2 _ rfl, r1⟩
 ·intro y hy
  rcases h3 with h3 | ⟨b, o, rfl, h3⟩
  ·rw [h3] at hy; cases hy
  ·obtain ⟨i, hi⟩ := List.getElem?_of_mem hy
   obtain ⟨cs', _, q, d, _, _, g2⟩ := h3 i y hi
   exact g2
theorem nods_of_trod {H : Type} {enc : TypeId × Value → H} {w : World} {fuel : Nat} {cs : List Value} {x : DataW H × List MemPlace} (h : DataW.trod enc Tryz.prog w 0 (fun _ => true) true fuel 37 cs = some x) :
  ∃ (p : Option Addr) (l : List Nod) (c : Nat), cs = [.slice p l.length c] ∧ l.length ≤ maxLen ∧ RdN w (.slice p l.length c) l ∧ ∀ nd ∈ l, (nd.path.length ≤ maxLen ∧ nd.value.length ≤ maxLen ∧ nd.holders.length ≤ maxLen ∧ nd.watchers.length ≤ maxLen) ∧ Byt nd.path ∧ (0 ≤ nd.owner ∧ nd.owner < 18446744073709551616) ∧ (∀ i ∈ nd.holders, 0 ≤ i ∧ i < 18446744073709551616) ∧ ∀ i ∈ nd.watchers, 0 ≤ i ∧ i < 18446744073709551616 := by
 have : Inhabited Nod := ⟨nod0⟩
 obtain ⟨p, l, c, rfl, h1, h2, h3⟩ := list_of_trod (α := Nod) Tryz.underlying37 8 cells_nod (by omega)
  (fun cs y => ∃ P V H U, cs = [P, V, .int .u64 y.owner, .int .i64 y.mode, H, .int .u64 y.epoch, .int .u64 y.gen, U] ∧ (Rd w P y.path ∧ Rd w V y.value ∧ RdU w H y.holders ∧ RdU w U y.watchers ∧ CapOK P) ∧ (y.path.length ≤ maxLen ∧ y.value.length ≤ maxLen ∧ y.holders.length ≤ maxLen ∧ y.watchers.length ≤ maxLen) ∧ Byt y.path ∧ (0 ≤ y.owner ∧ y.owner < 18446744073709551616) ∧ (∀ i ∈ y.holders, 0 ≤ i ∧ i < 18446744073709551616) ∧ ∀ i ∈ y.watchers, 0 ≤ i ∧ i < 18446744073709551616) (fun n cs x hx => by
  obtain ⟨y0, y1, y2, y3, y4, y5, y6, y7, m, hl, g0, g1, g2, g3, g4, g5, g6, g7⟩ := trod_struct8 Tryz.underlying130 hx
  rw [cells_nod] at hl
  obtain ⟨x0, x1, x2, x3, x4, x5, x6, x7, rfl⟩ : ∃ x0 x1 x2 x3 x4 x5 x6 x7, cs = [x0, x1, x2, x3, x4, x5, x6, x7] := by
   match cs, hl with
   | [a, b, c, d, e, f, g, h], _ => exact ⟨a, b, c, d, e, f, g, h, rfl⟩
  simp [cells_i, cells_u, cells_b, cells_us] at g0 g1 g2 g3 g4 g5 g6 g7
  obtain ⟨q0, P, d0, e0, r0, l0, cp0, b0⟩ := Rd.of_trod_cap g0
  obtain ⟨q1, V, d1, e1, r1, l1, _, _⟩ := Rd.of_trod_cap g1
  obtain ⟨ow, e2, _, w2⟩ := DataW.trod_int Tryz.underlying23 g2
  obtain ⟨mo, e3, _, _⟩ := DataW.trod_int Tryz.underlying3 g3
  obtain ⟨q4, Hs, d4, e4, l4, r4, b4⟩ := u64s_of_trod g4
  obtain ⟨ep, e5, _, _⟩ := DataW.trod_int Tryz.underlying23 g5
  obtain ⟨ge, e6, _, _⟩ := DataW.trod_int Tryz.underlying23 g6
  obtain ⟨q7, Us, d7, e7, l7, r7, b7⟩ := u64s_of_trod g7
  have cm : d0 ≤ maxLen := by
   rcases open_ints Tryz.underlying22 Tryz.underlying5 (by kernel_rfl) g0 with ⟨h0, _⟩ | ⟨a, len, cap, zs, h0, _, _, hm, _⟩
   ·rw [e0] at h0; simp at h0; omega
   ·rw [e0] at h0; simp at h0; omega
  simp at e0 e1 e2 e3 e4 e5 e6 e7
  subst e0 e1 e2 e3 e4 e5 e6 e7
  exact ⟨⟨P, V, ow, mo, Hs, ep, ge, Us⟩, _, _, _, _, rfl, ⟨r0, r1, r4, r7, _, _, _, rfl, cp0, cm⟩, ⟨l0, l1, l4, l7⟩, b0, u64_of w2, b4, b7⟩) h
 refine ⟨p, l, c, rfl, by omega, ⟨p, c, rfl, ?_⟩, ?_⟩
 ·rcases h3 with h3 | ⟨b, o, rfl, h3⟩
  ·exact .inl h3
  ·refine .inr ⟨b, o, rfl, fun i y hy => ?_⟩
   obtain ⟨cs', g1, P, V, H, U, rfl, ⟨r0, r1, r4, r7, k0⟩, _⟩ := h3 i y hy
   exact ⟨P, V, H, U, by simpa using g1 0 _ rfl, by simpa [Nat.add_assoc] using g1 1 _ rfl, by simpa [Nat.add_assoc] using g1 2 _ rfl, by simpa [Nat.add_assoc] using g1 3 _ rfl, by simpa [Nat.add_assoc] using g1 4 _ rfl, by simpa [Nat.add_assoc] using g1 5 _ rfl, by simpa [Nat.add_assoc] using g1 6 _ rfl, by simpa [Nat.add_assoc] using g1 7 _ rfl, r0, r1, r4, r7, k0⟩
 ·intro y hy
  rcases h3 with h3 | ⟨b, o, rfl, h3⟩
  ·rw [h3] at hy; cases hy
  ·obtain ⟨i, hi⟩ := List.getElem?_of_mem hy
   obtain ⟨cs', _, P, V, H, U, _, _, g2⟩ := h3 i y hi
   exact g2
theorem array6' {cs : Array Value} (h : cs.size = 6) : ∃ a b c d e f, cs = #[a, b, c, d, e, f] := by
 obtain ⟨l⟩ := cs
 simp at h
 match l, h with
 | [a, b, c, d, e, f], _ => exact ⟨a, b, c, d, e, f, rfl⟩
theorem st_of_trod {H : Type} {enc : TypeId × Value → H} {w : World} {r : Reach} {b0 : Nat} {v : Value} {d : DataW H} {ps : List MemPlace} (hv : Value.okWide Tryz.prog w r b0 39 v) (h : DataW.Trod enc Tryz.prog w 0 (fun _ => true) true 39 v d ps) :
  ∃ (e g x t : Int) (p q : Option Addr) (ss : List Ses) (ns : List Nod) (c c' : Nat), v = stV e g x t (.slice p ss.length c) (.slice q ns.length c') ∧ ss.length ≤ maxLen ∧ ns.length ≤ maxLen ∧ RdS w (.slice p ss.length c) ss ∧ RdN w (.slice q ns.length c') ns ∧
   (∀ s ∈ ss, s.2.2.length ≤ maxLen ∧ ∀ e ∈ s.2.2, e.2.length ≤ maxLen ∧ Byt e.2) ∧
   ∀ nd ∈ ns, (nd.path.length ≤ maxLen ∧ nd.value.length ≤ maxLen ∧ nd.holders.length ≤ maxLen ∧ nd.watchers.length ≤ maxLen) ∧ Byt nd.path ∧ (0 ≤ nd.owner ∧ nd.owner < 18446744073709551616) ∧ (∀ i ∈ nd.holders, 0 ≤ i ∧ i < 18446744073709551616) ∧ ∀ i ∈ nd.watchers, 0 ≤ i ∧ i < 18446744073709551616 := by
 obtain ⟨cs, rfl, hsz⟩ := okWide_struct Tryz.underlying39 hv
 obtain ⟨x0, x1, x2, x3, x4, x5, rfl⟩ := array6' (hsz.trans cells_st)
 obtain ⟨fuel, hf⟩ := h
 obtain ⟨y0, y1, y2, y3, y4, y5, m, _, h0, h1, h2, h3, h4, h5⟩ := trod_struct6 Tryz.underlying39 hf
 simp [cells_u, cells_i, cells_sess, cells_nods, Value.cells] at h0 h1 h2 h3 h4 h5
 obtain ⟨e, e0, _, _⟩ := DataW.trod_int Tryz.underlying23 h0
 obtain ⟨g, e1, _, _⟩ := DataW.trod_int Tryz.underlying23 h1
 obtain ⟨x, e2, _, _⟩ := DataW.trod_int Tryz.underlying23 h2
 obtain ⟨t, e3, _, _⟩ := DataW.trod_int Tryz.underlying3 h3
 obtain ⟨p, ss, c, e4, l4, r4, b4⟩ := sess_of_trod h4
 obtain ⟨q, ns, c', e5, l5, r5, b5⟩ := nods_of_trod h5
 simp at e0 e1 e2 e3 e4 e5
 subst e0 e1 e2 e3 e4 e5
 exact ⟨e, g, x, t, p, q, ss, ns, c, c', rfl, l4, l5, r4, r5, b4, b5⟩
end Go.Proofs.YtpbppdeleijhkaaGreatDoor
namespace Go.Proofs.YtpbppdeleijhkaaGreatDoor
open Go.ChangeShapes Go.WideShapes Go.ChangeAt Go.RowKit
set_option linter.unusedVariables false
set_option linter.unusedSimpArgs false
namespace xgRow
set_option maxRecDepth 100000 in
theorem lifted (os : Os) (started : os.Started) (H : Type) (enc : TypeId × Value → H) :
  ReturnsInHanded {} Tryz.checked os 7 .any (fun w args => (Rows.fnExactRegraceSpec.pre enc Tryz.prog Tryz.f7 Rows.fnExactRegraceRow.domain false w args ∧ laidMetH Tryz.prog Rows.fnExactRegraceRow.laid w) ∧ sizedMet enc Tryz.prog Tryz.f7 (OpenSpec.ofChange Rows.fnExactRegraceSpec) false w args)
   (Rows.fnExactRegraceSpec.post enc Tryz.prog Tryz.f7 false true false false) := by
 refine handed_both (C := Tryz.checked) (X := fun w _ => laidMetH Tryz.prog Rows.fnExactRegraceRow.laid w) (fun _ _ _ hh h => h.of_heap hh) own started (by kernel_rfl) Tryz.func7
  (ChangeSpec.witness_shaped (enc := enc) (C := Tryz.checked) (os := os) (X := fun w _ => laidMetH Tryz.prog Rows.fnExactRegraceRow.laid w) false (World.laidAll Tryz.prog os Rows.fnExactRegraceRow.laid) #[.agg #[.int .u64 0, .int .u64 0, .int .u64 0, .int .i64 0, .slice none 0 0, .slice none 0 0], .int .i64 0] 8 (World.laidAll_os _ _ _)
   (World.shaped_of_ZipB (by kernel_rfl) (by kernel_rfl)) (by kernel_rfl) (by kernel_rfl) (by kernel_rfl)
   (by rw [MakeChecks.laidMetH_plain _ _ _ (by kernel_rfl)]; exact laidMet_laidAll _ (by kernel_rfl) (by kernel_rfl))) ?_
 intro W base args ds gs before hval0 hW hL hsh
 have hval : ∀ (j : Nat) t v, Tryz.f7.params[j]? = some t → args[j]? = some v → Value.okWide Tryz.prog W .any base t v := hval0
 have hW' := hW
 obtain ⟨p, q, hA0, hV, rfl, hfz, hnd⟩ := hW
 have hA : DataW.TrodAll enc Tryz.prog W 0 (fun _ => true) true Tryz.f7.params.toList args.toList ds p := hA0
 rw [Tryz.params7] at hA hval
 obtain ⟨v0, vs0, d0, ds0, p0, q0, hargs, rfl, rfl, h0, r0⟩ := trodAll_cons hA
 obtain ⟨v1, vs1, d1, ds1, p1, q1, rfl, rfl, rfl, h1, r1'⟩ := trodAll_cons r0
 obtain ⟨rfl, rfl, rfl⟩ := trodAll_nil r1'
 obtain rfl : args = #[v0, v1] := by cases args; simp_all
 obtain ⟨rfl, rfl⟩ := trodVars_none hV
 have k0 := h0
 have lt0 : ∀ x ∈ p0, x.block < W.heap.size := by obtain ⟨m, hm⟩ := k0; exact DataW.trod_lt m _ _ _ hm
 obtain ⟨e, g, x, t, pp, pq, ss, ns, c, c', rfl, l1, l2, r1, r2, k1, k2⟩ := st_of_trod (hval 0 39 v0 rfl rfl) h0
 have kk1 := h1
 obtain ⟨y, rfl, rfl, rfl, wy⟩ := open_int Tryz.underlying3 (hval 1 3 v1 rfl rfl) h1
 clear hA0 hval0
 refine (lawReg e g x t y pp pq c _ c' _ ss ns (by show _ = _; rfl) (by show _ = _; rfl) W r1 r2 l1 l2 k1 k2 wy (maxLen_cell hsh)).mono fun r W' ⟨he, bel⟩ => ?_
 subst he
 exact ⟨_, rfl, _, _, _, [], _, [], hW', trodAll_mk1 (shut_bool Tryz.underlying4 _), (trodAll_cons_mk (Below.trod laidOut (by kernel_rfl) (of_decide_eq_true (by kernel_rfl)) k0 bel lt0) (trodAll_cons_mk (shut_int Tryz.underlying3 wy) trodAll_mk0)), rfl, bel.frame _, fun h => by cases h⟩
theorem over : Rows.fnExactRegraceRow.holds Tryz.pinned (OpenSpec.ofChange Rows.fnExactRegraceSpec) :=
 OpenClaim.holds_of_wide 7 Tryz.f7 rfl rfl rfl rfl rfl rfl rfl ⟨rfl, rfl, rfl, rfl, rfl⟩ rfl rfl rfl rfl rfl (by kernel_rfl) Tryz.func7 (by kernel_rfl)
  (of_decide_eq_true (by kernel_rfl)) (by unfold Func.isWrapper; first | (rw [if_pos (by decide +kernel)]; kernel_rfl) | (rw [if_neg (by decide +kernel)]; exact ⟨rfl, rfl⟩))
  (fun os started H enc _ => lifted os started H enc)
end xgRow
end Go.Proofs.YtpbppdeleijhkaaGreatDoor
