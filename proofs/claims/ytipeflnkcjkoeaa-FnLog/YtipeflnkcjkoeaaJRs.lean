import Derived.Test.YtipeflnkcjkoeaaJRec
namespace Go.Proofs.Ytipeflnkcjkoeaa
open Go.ChangeShapes Go.WideShapes Go.ChangeAt Go.RowKit
set_option linter.unusedVariables false
set_option linter.unusedSimpArgs false

/-- a record as data: its Seq and its Body -/
abbrev R1 := Int × List Int
/-- the cells of a row of records -/
def recCells : List R1 → List Value → List Value
  | r :: rs, v :: vs => .int .u64 r.1 :: v :: recCells rs vs
  | _, _ => []
theorem recCells_length : ∀ (rs : List R1) (vs : List Value), vs.length = rs.length → (recCells rs vs).length = rs.length * 2
  | [], vs, h => by cases vs <;> simp [recCells] at *
  | r :: rs, [], h => by simp at h
  | r :: rs, v :: vs, h => by simp [recCells, recCells_length rs vs (by simpa using h)]; omega
theorem recCells_get : ∀ (rs : List R1) (vs : List Value) (i : Nat) (r : R1) (v : Value), rs[i]? = some r → vs[i]? = some v → (recCells rs vs)[2 * i]? = some (.int .u64 r.1) ∧ (recCells rs vs)[2 * i + 1]? = some v
  | [], vs, i, r, v, h, _ => by simp at h
  | r' :: rs, [], i, r, v, _, h => by simp at h
  | r' :: rs, v' :: vs, 0, r, v, h1, h2 => by simp at h1 h2; subst h1 h2; simp [recCells]
  | r' :: rs, v' :: vs, i + 1, r, v, h1, h2 => by
    have := recCells_get rs vs i r v (by simpa using h1) (by simpa using h2)
    rw [show 2 * (i + 1) = 2 * i + 1 + 1 by omega]
    simpa [recCells] using this
theorem recCells_snoc : ∀ (rs : List R1) (vs : List Value) (r : R1) (v : Value), vs.length = rs.length → recCells (rs ++ [r]) (vs ++ [v]) = recCells rs vs ++ [.int .u64 r.1, v]
  | [], [], r, v, _ => rfl
  | [], _ :: _, r, v, h => by simp at h
  | _ :: _, [], r, v, h => by simp at h
  | r' :: rs, v' :: vs, r, v, h => by simp [recCells, recCells_snoc rs vs r v (by simpa using h)]

abbrev Apart (u v : Value) : Prop := ∀ b, u.ownBlock = some b → v.ownBlock ≠ some b

/-- a row of records of the call's own, their bodies each in a block of its own -/
structure OwnR (B : Nat) (w : World) (v : Value) (rs : List R1) (vs : List Value) : Prop where
  len : vs.length = rs.length
  row : w.ownsRow B 38 2 v rs.length (recCells rs vs)
  own : ∀ (i : Nat) r u, rs[i]? = some r → vs[i]? = some u → Own B w u r.2
  ap : vs.Pairwise Apart

/-- v is a slice whose records read rs -/
def RdR (w : World) (v : Value) (rs : List R1) : Prop :=
  ∃ p c, v = .slice p rs.length c ∧ (rs = [] ∨ ∃ g o, p = some ⟨g, o, none⟩ ∧ ∀ (i : Nat) r, rs[i]? = some r → w.cell? ⟨g, o + 2 * i, none⟩ = some (.int .u64 r.1) ∧ ∃ q d, w.cell? ⟨g, o + 2 * i + 1, none⟩ = some (.slice q r.2.length d) ∧ Rd w (.slice q r.2.length d) r.2)

theorem RdR.below {w w' : World} {v : Value} {rs : List R1} (h : RdR w v rs) (hb : Below w.heap.size w w') : RdR w' v rs := by
  obtain ⟨p, c, rfl, h⟩ := h
  refine ⟨p, c, rfl, ?_⟩
  rcases h with h | ⟨g, o, rfl, hc⟩
  · exact .inl h
  · refine .inr ⟨g, o, rfl, fun i r hi => ?_⟩
    obtain ⟨h1, q, d, h2, h3⟩ := hc i r hi
    exact ⟨cell_below h1 hb, q, d, cell_below h2 hb, h3.below hb⟩

theorem OwnR.form {B : Nat} {w : World} {v : Value} {rs : List R1} {vs : List Value} (h : OwnR B w v rs vs) : ∃ p c, v = .slice p rs.length c := by
  rcases h.row.2 with ⟨rfl, h0⟩ | ⟨g, cap, cur, rfl, _⟩
  · exact ⟨none, 0, by rw [h0]⟩
  · exact ⟨_, _, rfl⟩

theorem OwnR.rd {B : Nat} {w : World} {v : Value} {rs : List R1} {vs : List Value} (h : OwnR B w v rs vs) : RdR w v rs := by
  rcases h.row.2 with ⟨rfl, h0⟩ | ⟨g, cap, cur, rfl, hb, hg, _, _, _, ht⟩
  · have e : rs = [] := List.eq_nil_of_length_eq_zero h0
    subst e
    exact ⟨none, 0, rfl, .inl rfl⟩
  · refine ⟨_, _, rfl, .inr ⟨g, 0, rfl, fun i r hi => ?_⟩⟩
    have hlt : i < rs.length := (List.getElem?_eq_some_iff.1 hi).1
    have hlv : i < vs.length := by rw [h.len]; exact hlt
    have hv : vs[i]? = some vs[i] := List.getElem?_eq_getElem hlv
    obtain ⟨e1, e2⟩ := recCells_get rs vs i r _ hi hv
    have c1 := World.ownsRow.cellAt (w := w) (base := B) h.row (2 * i) (by omega)
    have c2 := World.ownsRow.cellAt (w := w) (base := B) h.row (2 * i + 1) (by omega)
    have ho := h.own i r _ hi hv
    obtain ⟨q, d, eq⟩ := ho.form
    rw [eq] at ho e2
    rw [Nat.zero_add]
    exact ⟨c1.trans e1, q, d, c2.trans e2, ho.rd⟩

theorem OwnR.below {B : Nat} {w w' : World} {v : Value} {rs : List R1} {vs : List Value} (h : OwnR B w v rs vs) (hb : Below w.heap.size w w') : OwnR B w' v rs vs :=
  ⟨h.len, h.row.kept (row := none) ⟨hb.os, hb.tape, hb.output, hb.size, fun k hk _ => hb.block k hk⟩ (by cases hv : v.ownBlock <;> simp), fun i r u h1 h2 => Own.below (h.own i r u h1 h2) hb, h.ap⟩
theorem OwnR.mono {B B' : Nat} {w : World} {v : Value} {rs : List R1} {vs : List Value} (h : OwnR B w v rs vs) (hB : B' ≤ B) : OwnR B' w v rs vs := by
  refine ⟨h.len, ⟨h.row.1, ?_⟩, fun i r u h1 h2 => Own.mono (h.own i r u h1 h2) hB, h.ap⟩
  rcases h.row.2 with e | ⟨g, cap, cur, rfl, hb, r⟩
  · exact .inl e
  · exact .inr ⟨g, cap, cur, rfl, by omega, r⟩
theorem OwnR.nil (B : Nat) (w : World) : OwnR B w (.slice none 0 0) [] [] := ⟨rfl, World.ownsRow_nil _ _ _ _, by simp, List.Pairwise.nil⟩

set_option maxHeartbeats 800000 in
theorem eqRecordS_same (p1 p2 : Option Addr) (c1 c2 n : Nat) (rs : List R1) (en : Hid (rs.length = n)) (w : World) (h1 : RdR w (.slice p1 n c1) rs) (h2 : RdR w (.slice p2 n c2) rs) (hn : n ≤ 1048576) (hl : ∀ r ∈ rs, r.2.length ≤ 1048576) :
    Calls Try.prog 27 #[.slice p1 n c1, .slice p2 n c2] w fun e w' => e = .returned (.bool true) ∧ Below w.heap.size w w' := by
  have hne : ((n : Int) != (n : Int)) = false := by simp
  go_enter Try.func27, Try.ntmps27
  go_wp2
  go_loopw [5] (fun i wr => ∃ k : Nat, k ≤ n ∧ i = .int .i64 k ∧ Below w.heap.size w wr) (fun i _ => n - (intOf i).toNat)
  case atStart => exact ⟨0, Nat.zero_le _, rfl, Below.refl _ _⟩
  case round =>
    obtain ⟨k, hk, rfl, hbr⟩ := hrel
    by_cases hlt : k < n
    · have e0 := unhide en
      have hk1 : k < rs.length := by omega
      obtain ⟨r, hr⟩ : ∃ r, rs[k]? = some r := ⟨_, List.getElem?_eq_getElem hk1⟩
      obtain ⟨q1, d1, ev, h1'⟩ := h1.below hbr
      simp only [Value.slice.injEq] at ev
      obtain ⟨rfl, -, rfl⟩ := ev
      obtain ⟨q2, d2, ev, h2'⟩ := h2.below hbr
      simp only [Value.slice.injEq] at ev
      obtain ⟨rfl, -, rfl⟩ := ev
      rcases h1' with rfl | ⟨g1, o1, rfl, hc1⟩
      · simp at hr
      · rcases h2' with rfl | ⟨g2, o2, rfl, hc2⟩
        · simp at hr
        · obtain ⟨a1, x1, y1, a2, a3⟩ := hc1 k r hr
          obtain ⟨a4, x2, y2, a5, a6⟩ := hc2 k r hr
          have hlr := hl r (List.mem_of_getElem? hr)
          rw [Nat.mul_comm] at a1 a2 a4 a5
          have hlti : (k : Int) < (n : Int) := by omega
          have HA := hide (And.intro a3 a6)
          have HE := hide en
          clear hc1 hc2 hr h1 h2 hl e0 hk1 a3 a6 en
          obtain ⟨s, l⟩ := r
          dsimp only at *
          go_wp2_with fail
          have k0 := And.intro a1 (And.intro a2 (And.intro a4 a5))
          go_region_held3 (fun w' => w'.cell? ⟨g1, o1 + k * 2, none⟩ = some (.int .u64 s) ∧ w'.cell? ⟨g1, o1 + k * 2 + 1, none⟩ = some (.slice x1 l.length y1) ∧ w'.cell? ⟨g2, o2 + k * 2, none⟩ = some (.int .u64 s) ∧ w'.cell? ⟨g2, o2 + k * 2 + 1, none⟩ = some (.slice x2 l.length y2)) (first | exact k0 | exact k1)
            (first | (go_at_call 23; refine (eqRecord_n s x1 x2 y1 y2 l.length l rfl _ (by exact (unhide HA).1.below (Below.refl _ _).drew) (by exact (unhide HA).2.below (Below.refl _ _).drew) (by omega)).mono ?_; rintro e w1 ⟨rfl, hb1⟩; have hb' : Below wr.heap.size wr w1 := Below.step (Below.refl wr.heap.size wr).drew hb1; have k1 := And.intro (cell_below a1 hb') (And.intro (cell_below a2 hb') (And.intro (cell_below a4 hb') (cell_below a5 hb')))))
          have b1 := Below.step hbr hb'
          clear a1 a2 a4 a5 hb1 hb' hbr k0 k1
          go_wp2
          go_roundw
          case rel => exact ⟨k + 1, by omega, by go_num, b1⟩
          case measure => simp [intOf]; omega
    · have e : k = n := by omega
      subst e
      clear h1 h2 hl
      go_wp2
      go_ret
      exact ⟨rfl, hbr⟩
end Go.Proofs.Ytipeflnkcjkoeaa
