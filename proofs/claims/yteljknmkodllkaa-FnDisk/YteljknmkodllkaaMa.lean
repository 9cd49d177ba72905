import Derived.Test.YteljknmkodllkaaTo
namespace Go.Proofs.Yteljknmkodllkaa
open Go.ChangeShapes Go.WideShapes Go.ChangeAt Go.RowKit
set_option linter.unusedVariables false
set_option linter.unusedSimpArgs false

/-- the marks that a marking loop lays from k on -/
def marks (k : Int) : Nat → List Int
  | 0 => []
  | n + 1 => marks k n ++ [(k + n) % 256]
theorem marks_length (k : Int) (n : Nat) : (marks k n).length = n := by induction n with | zero => rfl | succ n ih => simp [marks, ih]
theorem marks_get (k : Int) (n j : Nat) (h : j < n) : (marks k n)[j]? = some ((k + j) % 256) := by
  induction n with
  | zero => omega
  | succ n ih =>
    by_cases e : j = n
    · subst e; simp [marks, marks_length]
    · rw [marks, List.getElem?_append_left (by rw [marks_length]; omega)]; exact ih (by omega)

/-- what a marked list reads behind j rounds -/
def marked (l : List Int) (k : Int) (j : Nat) : List Int := marks k j ++ l.drop j
theorem marked_length (l : List Int) (k : Int) (j : Nat) (h : j ≤ l.length) : (marked l k j).length = l.length := by simp [marked, marks_length]; omega
theorem marked_zero (l : List Int) (k : Int) : marked l k 0 = l := by simp [marked, marks]
theorem marked_full (l : List Int) (k : Int) : marked l k l.length = marks k l.length := by simp [marked]
theorem marked_step (l : List Int) (k : Int) (j : Nat) (h : j < l.length) : (U (marked l k j)).set j (.int .u8 ((k + j) % 256)) = U (marked l k (j + 1)) := by
  have e2 : l.drop j = l[j] :: l.drop (j + 1) := List.drop_eq_getElem_cons h
  have e4 : (marked l k j).set j ((k + j) % 256) = marked l k (j + 1) := by
    unfold marked
    rw [e2, List.set_append_right _ _ (by rw [marks_length]; omega), marks_length, Nat.sub_self, List.set_cons_zero]
    simp [marks]
  rw [← e4, U, U, List.map_set]

theorem grown_refl (w : World) (row : Option Nat) : w.grownBy w row := ⟨rfl, rfl, rfl, Nat.le_refl _, fun _ _ _ => rfl⟩
theorem grown_trans {w w1 w2 : World} {row : Option Nat} (h : w.grownBy w1 row) (k : w1.grownBy w2 row) : w.grownBy w2 row :=
  ⟨k.os.trans h.os, k.tape.trans h.tape, k.output.trans h.output, Nat.le_trans h.size k.size, fun i hi hne => (k.block i (Nat.lt_of_lt_of_le hi h.size) hne).trans (h.block i hi hne)⟩

set_option maxHeartbeats 400000 in
theorem markByteS_any (B : Nat) (p : Option Addr) (c : Nat) (l : List Int) (k : Int) (w : World) (h : Own B w (.slice p l.length c) l) (hl : l.length ≤ 1048576) (k0 : 0 ≤ k) (k1 : k ≤ 100000000) :
    Calls Try.prog 32 #[.slice p l.length c, .int .i64 k] w fun e w' => e = .returned (.int .i64 (k + l.length)) ∧ Own B w' (.slice p l.length c) (marks k l.length) ∧ w.grownBy w' (Value.ownBlock (.slice p l.length c)) := by
  have hcases : (p = none ∧ l = []) ∨ ∃ g, p = some ⟨g, 0, none⟩ := by
    rcases h.2 with ⟨e, h0⟩ | ⟨g, cap, cur, e, _⟩
    · simp at e; exact .inl ⟨e.1, e.2.1⟩
    · simp at e; exact .inr ⟨g, e.1⟩
  go_enter Try.func32, Try.ntmps32
  go_wp2
  go_loopw [1, 5] (fun kk i wr => ∃ j : Nat, j ≤ l.length ∧ i = .int .i64 j ∧ kk = .int .i64 (k + j) ∧ wr.ownsRow B 5 1 (.slice p l.length c) l.length (U (marked l k j)) ∧ w.grownBy wr (Value.ownBlock (.slice p l.length c))) (fun _ i _ => l.length - (intOf i).toNat)
  case atStart => exact ⟨0, Nat.zero_le _, rfl, by simp, by rw [marked_zero]; exact h, grown_refl _ _⟩
  case round =>
    obtain ⟨j, hj, rfl, rfl, ho, hg⟩ := hrel
    by_cases hlt : j < l.length
    · rcases hcases with ⟨rfl, rfl⟩ | ⟨g, rfl⟩
      · simp at hlt
      · have hfz := ho.frozenAt j
        have hcc : ∃ u, wr.cell? ⟨g, j, none⟩ = some u := by
          rw [ho.cellAt j (by omega)]
          exact ⟨_, List.getElem?_eq_getElem (by rw [List.length_map, marked_length l k j hj]; omega)⟩
        obtain ⟨u, hcu⟩ := hcc
        have hst := ho.stored j (.int .u8 ((k + j) % 256))
        rw [marked_step l k j hlt] at hst
        have HS := hide hst.1
        have HG := hide (grown_trans hg hst.2)
        clear hst h ho
        go_wp2
        go_roundw
        case rel => exact ⟨j + 1, by omega, by go_num, by go_num, by simpa using HS.out, by simpa using HG.out⟩
        case measure => simp [intOf]; omega
    · have : j = l.length := by omega
      subst this
      rw [marked_full] at ho
      go_wp2
      go_ret
      refine ⟨rfl, ?_, hg⟩
      unfold Own
      rw [marks_length]
      exact ho

set_option maxHeartbeats 400000 in
theorem heldByteS_any (p : Option Addr) (c n : Nat) (k : Int) (w : World) (h : Rd w (.slice p n c) (marks k n)) (hl : n ≤ 1048576) (k0 : 0 ≤ k) (k1 : k ≤ 100000000) :
    Calls Try.prog 65 #[.slice p n c, .int .i64 k] w fun e w' => e = .returned (.int .i64 (k + n)) ∧ Below w.heap.size w w' := by
  have hcases : n = 0 ∨ ∃ g o, p = some ⟨g, o, none⟩ ∧ ∀ j, j < n → w.cell? ⟨g, o + j, none⟩ = some (.int .u8 ((k + j) % 256)) := by
    obtain ⟨q, cap, e, h⟩ := h
    simp only [Value.slice.injEq, marks_length] at e
    obtain ⟨rfl, -, rfl⟩ := e
    rcases h with e | ⟨b, o, rfl, hc⟩
    · left; have := congrArg List.length e; simpa [marks_length] using this
    · right
      refine ⟨b, o, rfl, fun j hj => ?_⟩
      rw [hc j (by rw [marks_length]; exact hj)]
      simp [List.getD, marks_get k n j hj]
  clear h
  go_enter Try.func65, Try.ntmps65
  go_wp2
  go_loopw [1, 5] (fun kk i wr => ∃ j : Nat, j ≤ n ∧ i = .int .i64 j ∧ kk = .int .i64 (k + j) ∧ Below w.heap.size w wr) (fun _ i _ => n - (intOf i).toNat)
  case atStart => exact ⟨0, Nat.zero_le _, rfl, by simp, Below.refl _ _⟩
  case round =>
    obtain ⟨j, hj, rfl, rfl, hbr⟩ := hrel
    by_cases hlt : j < n
    · rcases hcases with rfl | ⟨g, o, rfl, hc⟩
      · omega
      · have hcx : wr.cell? ⟨g, o + j, none⟩ = some (.int .u8 ((k + j) % 256)) := (hbr.cell (p := ⟨g, o + j, none⟩) (World.block_lt_of_cell? w _ (hc j hlt))).trans (hc j hlt)
        have hne : ((k + (j : Int)) % 256 != (k + (j : Int)) % 256) = false := by simp
        clear hc
        go_wp2
        go_roundw
        case rel => exact ⟨j + 1, by omega, by go_num, by go_num, by first | exact hbr | exact below_drewN hbr _⟩
        case measure => simp [intOf]; omega
    · have : j = n := by omega
      subst this
      clear hcases
      go_wp2
      go_ret
      exact ⟨rfl, hbr⟩

/-- w' is w with new blocks, and with writes to the listed slices' blocks alone -/
structure Kept (vs : List Value) (w w' : World) : Prop where
  os : w'.os = w.os
  tape : w'.tape = w.tape
  output : w'.output = w.output
  size : w.heap.size ≤ w'.heap.size
  block : ∀ k, k < w.heap.size → (∀ v ∈ vs, v.ownBlock ≠ some k) → w'.heap[k]? = w.heap[k]?

theorem Kept.refl (vs : List Value) (w : World) : Kept vs w w := ⟨rfl, rfl, rfl, Nat.le_refl _, fun _ _ _ => rfl⟩
theorem Kept.trans {vs : List Value} {w w1 w2 : World} (h : Kept vs w w1) (k : Kept vs w1 w2) : Kept vs w w2 :=
  ⟨k.os.trans h.os, k.tape.trans h.tape, k.output.trans h.output, Nat.le_trans h.size k.size, fun i hi hne => (k.block i (Nat.lt_of_lt_of_le hi h.size) hne).trans (h.block i hi hne)⟩
theorem Kept.of_below {vs : List Value} {w w' : World} (h : Below w.heap.size w w') : Kept vs w w' := ⟨h.os, h.tape, h.output, h.size, fun k hk _ => h.block k hk⟩
theorem Kept.of_grown {vs : List Value} {w w' : World} {v : Value} (h : w.grownBy w' v.ownBlock) (hv : v ∈ vs) : Kept vs w w' :=
  ⟨h.os, h.tape, h.output, h.size, fun k hk hne => h.block k hk (fun e => hne v hv e.symm)⟩
theorem Kept.alloc {vs : List Value} {w w' : World} (h : Kept vs w w') (o : Obj) : Kept vs w (w'.alloc o) := h.trans (Kept.of_below ((Below.refl _ _).alloc (Nat.le_refl _) _))
theorem Kept.below {vs : List Value} {w w' : World} {B : Nat} (h : Kept vs w w') (hB : B ≤ w.heap.size) (hv : ∀ v ∈ vs, ∀ b, v.ownBlock = some b → B ≤ b) : Below B w w' :=
  ⟨h.os, h.tape, h.output, h.size, fun k hk => h.block k (by omega) (fun v hv' e => by have := hv v hv' k e; omega)⟩
theorem Rd.kept {vs : List Value} {w w' : World} {v : Value} {l : List Int} (h : Rd w v l) (hk : Kept vs w w') (hne : ∀ u ∈ vs, ∀ b, v.ownBlock = some b → u.ownBlock ≠ some b) : Rd w' v l := by
  obtain ⟨p, cap, rfl, h⟩ := h
  refine ⟨p, cap, rfl, ?_⟩
  rcases h with h | ⟨b, o, rfl, hc⟩
  · exact .inl h
  · refine .inr ⟨b, o, rfl, fun i hi => ?_⟩
    have e := hc i hi
    rw [← e]
    exact World.cell?_of_block (hk.block b (World.block_lt_of_cell? w _ e) (fun u hu => hne u hu b rfl))
theorem Own.keptBy {B : Nat} {vs : List Value} {w w' : World} {v : Value} {l : List Int} (h : Own B w v l) (hk : Kept vs w w') (hne : ∀ u ∈ vs, ∀ b, v.ownBlock = some b → u.ownBlock ≠ some b) : Own B w' v l := by
  refine ⟨h.1, ?_⟩
  rcases h.2 with hn | ⟨g, cap, cur, rfl, hb, hgg, rest⟩
  · exact .inl hn
  · refine .inr ⟨g, cap, cur, rfl, hb, ?_, rest⟩
    rw [hk.block g (Array.getElem?_eq_some_iff.1 hgg).1 (fun u hu => hne u hu g rfl)]
    exact hgg
theorem Own3.below {B : Nat} {w w' : World} {v0 v1 v2 : Value} {l0 l1 l2 : List Int} (h : Own3 B w v0 v1 v2 l0 l1 l2) (hb : Below w.heap.size w w') : Own3 B w' v0 v1 v2 l0 l1 l2 :=
  ⟨Own.below h.o0 hb, Own.below h.o1 hb, Own.below h.o2 hb, h.n01, h.n02, h.n12⟩
theorem Own3.keptBy {B : Nat} {vs : List Value} {w w' : World} {v0 v1 v2 : Value} {l0 l1 l2 : List Int} (h : Own3 B w v0 v1 v2 l0 l1 l2) (hk : Kept vs w w') (hne : ∀ u ∈ vs, ∀ b, (v0.ownBlock = some b ∨ v1.ownBlock = some b ∨ v2.ownBlock = some b) → u.ownBlock ≠ some b) : Own3 B w' v0 v1 v2 l0 l1 l2 :=
  ⟨Own.keptBy h.o0 hk (fun u hu b e => hne u hu b (.inl e)), Own.keptBy h.o1 hk (fun u hu b e => hne u hu b (.inr (.inl e))), Own.keptBy h.o2 hk (fun u hu b e => hne u hu b (.inr (.inr e))), h.n01, h.n02, h.n12⟩

set_option maxHeartbeats 400000 in
theorem markFile_any (B : Nat) (p : Option Addr) (c : Nat) (l : List Int) (s k : Int) (w : World) (h : Own B w (.slice p l.length c) l) (hl : l.length ≤ 1048576) (k0 : 0 ≤ k) (k1 : k ≤ 100000000) :
    Calls Try.prog 53 #[fileV (.slice p l.length c) s, .int .i64 k] w fun e w' => e = .returned (.int .i64 (k + l.length)) ∧ Own B w' (.slice p l.length c) (marks k l.length) ∧ Kept [.slice p l.length c] w w' := by
  have hR := fun (w' : World) (hb : Below w.heap.size w w') => Own.below h hb
  clear h
  go_enter Try.func53, Try.ntmps53
  go_wp2_with fail
  refine (markByteS_any B p c l k _ (hR _ (by exact (Below.refl _ _).alloc (Nat.le_refl _) _)) hl k0 k1).mono ?_
  rintro e w1 ⟨rfl, ho, hg⟩
  have hk : Kept [.slice p l.length c] w w1 := (Kept.of_below ((Below.refl _ _).alloc (Nat.le_refl _) _)).trans (Kept.of_grown hg (by simp))
  clear hR hg
  go_wp2
  go_ret
  exact ⟨rfl, ho, hk⟩

set_option maxHeartbeats 400000 in
theorem heldFile_any (p : Option Addr) (c n : Nat) (s k : Int) (w : World) (h : Rd w (.slice p n c) (marks k n)) (hl : n ≤ 1048576) (k0 : 0 ≤ k) (k1 : k ≤ 100000000) :
    Calls Try.prog 54 #[fileV (.slice p n c) s, .int .i64 k] w fun e w' => e = .returned (.int .i64 (k + n)) ∧ Below w.heap.size w w' := by
  have hR := fun (w' : World) (hb : Below w.heap.size w w') => Rd.below h hb
  clear h
  go_enter Try.func54, Try.ntmps54
  go_wp2_with fail
  refine (heldByteS_any p c n k _ (hR _ (by exact (Below.refl _ _).alloc (Nat.le_refl _) _)) hl k0 k1).mono ?_
  rintro e w1 ⟨rfl, hb1⟩
  have b1 : Below w.heap.size w w1 := ((Below.refl _ _).alloc (Nat.le_refl _) _).trans (hb1.mono (by simp))
  clear hR hb1
  go_wp2
  go_ret
  exact ⟨rfl, b1⟩
end Go.Proofs.Yteljknmkodllkaa
