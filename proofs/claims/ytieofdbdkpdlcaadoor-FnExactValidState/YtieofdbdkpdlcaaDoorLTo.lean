import Derived.Test.YtieofdbdkpdlcaaDoorVC2
namespace Go.Proofs.YtieofdbdkpdlcaaDoor
open Go.ChangeShapes Go.WideShapes Go.ChangeAt Go.RowKit
set_option linter.unusedVariables false
set_option linter.unusedSimpArgs false
set_option maxRecDepth 100000

/-- Q holds in every world that has w's blocks from B on -/
def Ab (B : Nat) (w : World) (Q : World → Prop) : Prop := ∀ w' : World, (∀ k, B ≤ k → k < w.heap.size → w'.heap[k]? = w.heap[k]?) → Q w'
theorem Ab.self {B : Nat} {w : World} {Q : World → Prop} (h : Ab B w Q) : Q w := h w (fun _ _ _ => rfl)
theorem Ab.step {B : Nat} {w w' : World} {Q : World → Prop} (h : Ab B w Q) (hs : w.heap.size ≤ w'.heap.size) (hk : ∀ k, B ≤ k → k < w.heap.size → w'.heap[k]? = w.heap[k]?) : Ab B w' Q :=
  fun u hu => h u (fun k h1 h2 => (hu k h1 (Nat.lt_of_lt_of_le h2 hs)).trans (hk k h1 h2))
theorem Ab.below {B : Nat} {w w' : World} {Q : World → Prop} (h : Ab B w Q) (hb : Below w.heap.size w w') : Ab B w' Q := h.step hb.size (fun k _ h2 => hb.block k h2)
theorem Ab.mono {B B' : Nat} {w : World} {Q : World → Prop} (h : Ab B' w Q) (hB : B ≤ B') : Ab B w Q := fun u hu => h u (fun k h1 h2 => hu k (Nat.le_trans hB h1) h2)
theorem Ab.set {B : Nat} {w : World} {Q : World → Prop} (h : Ab B w Q) {a : Addr} (ha : a.block < B) (v : Value) : Ab B (w.setCell a v) Q :=
  h.step (by simp) (fun k h1 _ => RowKit.Below.heap_setCell _ _ _ _ (by omega))
theorem Ab.imp {B : Nat} {w : World} {Q R : World → Prop} (h : Ab B w Q) (hi : ∀ u, Q u → R u) : Ab B w R := fun u hu => hi u (h u hu)
theorem Ab.and {B : Nat} {w : World} {Q R : World → Prop} (h : Ab B w Q) (k : Ab B w R) : Ab B w (fun u => Q u ∧ R u) := fun u hu => ⟨h u hu, k u hu⟩
theorem cell_at_heap {w w' : World} {b : Nat} (h : w'.heap[b]? = w.heap[b]?) (o : Nat) : w'.cell? ⟨b, o, none⟩ = w.cell? ⟨b, o, none⟩ := by
  unfold World.cell?
  rw [h]
theorem Own.ab {B : Nat} {w : World} {p : Option Addr} {n c : Nat} {l : List Int} (h : Own B w (.slice p n c) l) : Ab B w (fun u => Rd u (.slice p n c) l ∧ CapOK (.slice p n c)) := by
  refine fun u hu => ⟨?_, p, n, c, rfl, h.cap, h.capMax⟩
  obtain ⟨p', c', e, hd⟩ := h.rd
  refine ⟨p', c', e, ?_⟩
  rcases hd with h0 | ⟨b, o, hp, hc⟩
  · exact .inl h0
  · refine .inr ⟨b, o, hp, fun i hi => ?_⟩
    simp only [Value.slice.injEq] at e
    have hb : B ≤ b ∧ b < w.heap.size := h.lt b (by rw [e.1, hp]; rfl)
    exact (cell_at_heap (hu b hb.1 hb.2) _).trans (hc i hi)
theorem toByteS_ab (p : Option Addr) (c n : Nat) (l : List Int) (en : Hid (l.length = n)) (w : World) (h : Rd w (.slice p n c) l) (hl : n ≤ 1048576) :
    Calls Tryd.prog 8 #[.slice p n c] w fun e w' => ∃ p' c', e = .returned (.slice p' n c') ∧ Ab w.heap.size w' (fun u => Rd u (.slice p' n c') l ∧ CapOK (.slice p' n c')) ∧ Below w.heap.size w w' := by
  refine (toByteS_n p c n l en w h hl).mono ?_
  rintro e w' ⟨p', c', rfl, ho, hb⟩
  exact ⟨p', c', rfl, ho.ab, hb⟩
theorem set_get {l : List Value} {j k : Nat} {v : Value} (h : j ≠ k) : (l.set j v)[k]? = l[k]? := List.getElem?_set_ne h

theorem Tryd.infoU64 : (Tryd.prog.info? 26).map (fun i => (i.zero, i.size, i.bytes)) = some (some (.int .u64 0), 1, 8) := by kernel_rfl
theorem Tryd.infoEv : (Tryd.prog.info? 137).map (fun i => (i.zero, i.size, i.bytes)) = some (some (.agg #[.int .i64 0, .slice none 0 0]), 2, 32) := by kernel_rfl
theorem Tryd.infoSes : (Tryd.prog.info? 101).map (fun i => (i.zero, i.size, i.bytes)) = some (some (.agg #[.int .u64 0, .int .i64 0, .slice none 0 0]), 3, 40) := by kernel_rfl
theorem Tryd.infoNod : (Tryd.prog.info? 103).map (fun i => (i.zero, i.size, i.bytes)) = some (some (.agg #[.slice none 0 0, .slice none 0 0, .int .u64 0, .int .i64 0, .slice none 0 0, .int .u64 0, .int .u64 0, .slice none 0 0]), 8, 128) := by kernel_rfl

set_option maxHeartbeats 800000 in
theorem toUint64S_ab (p : Option Addr) (c n : Nat) (l : List Int) (en : Hid (l.length = n)) (w : World) (h : RdU w (.slice p n c) l) (hn : n ≤ 1048576) :
    Calls Tryd.prog 101 #[.slice p n c] w fun e w' => ∃ p' c', e = .returned (.slice p' n c') ∧ Ab w.heap.size w' (fun u => RdU u (.slice p' n c') l) ∧ Below w.heap.size w w' := by
  obtain ⟨i, hi, hz0, hz1, hz2⟩ := info_parts Tryd.infoU64
  have HR := hide fun (w' : World) (hb : Below w.heap.size w w') => h.below hb
  clear h
  go_enter Tryd.func101, Tryd.ntmps101
  go_wp2_with (first | (at_make; refine wpList_make_full _ rfl _ _ 96 rfl w.heap.size 26 i (.int .u64 0) 1 Tryd.underlying96 hi hz0 hz1 _ _ _ _ n rfl rfl rfl rfl ?b2 ?b3 ?b4 ?_))
  case b2 => rw [hz2]; omega
  case b3 => unfold maxLen; omega
  case b4 => exact Nat.le_refl _
  intro w1 hown hg
  have hb := grown_below hg
  obtain ⟨G, eG⟩ : ∃ G, G = w.heap.size := ⟨_, rfl⟩
  rw [← eG] at hown ⊢
  have zG : G < w1.heap.size := (World.ownsRow.lt hown G rfl).2
  have hG1 : w.heap.size ≤ G := by omega
  have hG2 : G ≤ w.heap.size := by omega
  clear hg eG
  go_wp2
  go_loopw [4] (fun iv wr => ∃ (k : Nat) (L : List Value), k ≤ n ∧ iv = .int .i64 k ∧ Hid (wr.ownsRow G 26 1 (.slice (some ⟨G, 0, none⟩) n n) n L ∧ ∀ j, j < k → L[j]? = some (.int .u64 (l.getD j 0))) ∧ Below w.heap.size w wr ∧ G < wr.heap.size) (fun iv _ => n - (intOf iv).toNat)
  case atStart => exact ⟨0, _, Nat.zero_le _, rfl, ⟨hown, fun j hj => by omega⟩, hb, zG⟩
  case round =>
    obtain ⟨k, L, hk, rfl, hin, hbr, hzr⟩ := hrel
    by_cases hlt : k < n
    · have hlt' : (k : Int) < (n : Int) := by omega
      have hkl : k < l.length := by rw [unhide en]; exact hlt
      obtain ⟨b, o, rfl, hcell⟩ : ∃ b o, p = some ⟨b, o, none⟩ ∧ wr.cell? ⟨b, o + k, none⟩ = some (.int .u64 (l.getD k 0)) := by
        obtain ⟨p', c', ev, hd⟩ := unhide HR _ hbr
        simp only [Value.slice.injEq] at ev
        obtain ⟨rfl, -, -⟩ := ev
        rcases hd with h0 | ⟨b, o, h1, h2⟩
        · rw [h0] at hkl; simp at hkl
        · exact ⟨b, o, h1, h2 k hkl⟩
      obtain ⟨ho, hL⟩ := unhide hin
      have hlen : L.length = n * 1 := ho.1
      obtain ⟨u0, hc0⟩ : ∃ u, wr.cell? ⟨G, k, none⟩ = some u := by
        rw [ho.cellAt k (by omega)]
        exact ⟨_, List.getElem?_eq_getElem (by omega)⟩
      have hf0 := ho.frozenAt k
      obtain ⟨y, ey⟩ : ∃ y, l.getD k 0 = y := ⟨_, rfl⟩
      rw [ey] at hcell
      have HIN : Hid ((wr.setCell ⟨G, k, none⟩ (.int .u64 y)).ownsRow G 26 1 (.slice (some ⟨G, 0, none⟩) n n) n (L.set k (.int .u64 y)) ∧ ∀ j, j < k + 1 → (L.set k (.int .u64 y))[j]? = some (.int .u64 (l.getD j 0))) := by
        refine ⟨(ho.stored k _).1, fun j hj => ?_⟩
        by_cases e : j = k
        · subst e
          rw [List.getElem?_set_self (by omega), ey]
        · rw [List.getElem?_set_ne (by omega)]
          exact hL j (by omega)
      have bb := hbr.setCell (p := ⟨G, k, none⟩) hG1 (.int .u64 y)
      clear ho hL hin hkl ey hlen hown hb
      go_wp2
      go_roundw
      case rel => exact ⟨k + 1, _, by omega, by go_num, HIN, bb, by simpa using hzr⟩
      case measure => simp [intOf]; omega
    · have hlt' : ¬ (k : Int) < (n : Int) := by omega
      have ekn : k = n := by omega
      subst ekn
      obtain ⟨ho, hL⟩ := unhide hin
      have hfin : Ab w.heap.size wr (fun u => RdU u (.slice (some ⟨G, 0, none⟩) k k) l) := by
        intro u hu
        refine ⟨some ⟨G, 0, none⟩, k, by rw [unhide en], ?_⟩
        refine .inr ⟨G, 0, rfl, fun i hi => ?_⟩
        rw [unhide en] at hi
        rw [Nat.zero_add, cell_at_heap (hu G (by omega) hzr), ho.cellAt i (by omega)]
        exact hL i hi
      clear ho hL hin hown hb
      go_wp2
      go_ret
      exact ⟨_, _, rfl, hfin, hbr⟩
/-- a block's cells, none of them frozen -/
def CellsAre (w : World) (b : Nat) (vs : List Value) : Prop := (∀ i v, vs[i]? = some v → w.cell? ⟨b, i, none⟩ = some v) ∧ ∀ o, w.frozen? ⟨b, o, none⟩ = false
theorem CellsAre.alloc (w : World) (cs : Array Value) (t : TypeId) : CellsAre (w.alloc (.cells cs t)) w.heap.size cs.toList := by
  refine ⟨fun i v h => ?_, fun o => ?_⟩
  · rw [Array.getElem?_toList] at h
    simp [h]
  · simp [go_sem]
theorem CellsAre.below {w w' : World} {b : Nat} {vs : List Value} (h : CellsAre w b vs) (hb : b < w.heap.size) (hbl : Below w.heap.size w w') : CellsAre w' b vs :=
  ⟨fun i v hi => (hbl.cell (p := ⟨b, i, none⟩) hb).trans (h.1 i v hi), fun o => (hbl.frozen (p := ⟨b, o, none⟩) hb).trans (h.2 o)⟩
theorem CellsAre.far {w : World} {b : Nat} {vs : List Value} (h : CellsAre w b vs) {a : Addr} (ha : b ≠ a.block) (u : Value) : CellsAre (w.setCell a u) b vs := by
  have hh : (w.setCell a u).heap[b]? = w.heap[b]? := RowKit.Below.heap_setCell _ _ _ _ ha
  refine ⟨fun i v hi => (cell_at_heap hh _).trans (h.1 i v hi), fun o => ?_⟩
  have : (w.setCell a u).frozen? ⟨b, o, none⟩ = w.frozen? ⟨b, o, none⟩ := World.frozen?_of_block hh
  rw [this]
  exact h.2 o
theorem CellsAre.near {w : World} {b : Nat} {vs : List Value} (h : CellsAre w b vs) (j : Nat) (hj : j < vs.length) (u : Value) : CellsAre (w.setCell ⟨b, j, none⟩ u) b (vs.set j u) := by
  have hc := h.1 j _ (List.getElem?_eq_getElem hj)
  refine ⟨fun i v hi => ?_, fun o => by simp [h.2 o]⟩
  by_cases e : j = i
  · subst e
    rw [List.getElem?_set_self hj] at hi
    cases hi
    exact World.cell?_setCell_same _ _ _ hc
  · rw [List.getElem?_set_ne e] at hi
    have := h.1 i v hi
    simp [go_sem, e, this]
theorem grown_of_b {w w' : World} (h : Below w.heap.size w w') : w.grownBy w' none := ⟨h.os, h.tape, h.output, h.size, fun i hi _ => h.block i hi⟩

set_option maxHeartbeats 3200000 in
theorem toEvent_ab (K : Int) (p : Option Addr) (c n : Nat) (P : List Int) (en : Hid (P.length = n)) (w : World) (h : Rd w (.slice p n c) P) (hn : n ≤ 1048576) :
    Calls Tryd.prog 118 #[.agg #[.int .i64 K, .slice p n c]] w fun r w' => ∃ p1 d1, r = .returned (.agg #[.int .i64 K, .slice p1 n d1]) ∧ Ab w.heap.size w' (fun u => (Rd u (.slice p1 n d1) P ∧ CapOK (.slice p1 n d1))) ∧ Below w.heap.size w w' := by
  have R1 := hide fun (w' : World) (hb : Below w.heap.size w w') => h.below hb
  clear h
  go_enter Tryd.func118, Tryd.ntmps118
  go_wp2_with fail
  obtain ⟨W1, hW1⟩ : ∃ W, W = w.alloc (.cells #[.int .i64 K, .slice p n c] 153) := ⟨_, rfl⟩
  obtain ⟨W2, hW2⟩ : ∃ W, W = W1.alloc (.cells #[.int .i64 0, .slice none 0 0] 137) := ⟨_, rfl⟩
  obtain ⟨W, hW⟩ : ∃ W, W = W2.alloc (.cells #[.int .i64 K, .slice none 0 0] 137) := ⟨_, rfl⟩
  have z1 : W1.heap.size = w.heap.size + 1 := by rw [hW1]; simp
  have z2 : W2.heap.size = w.heap.size + 2 := by rw [hW2]; simp; omega
  have zW : W.heap.size = w.heap.size + 3 := by rw [hW]; simp; omega
  have b1 : Below w.heap.size w W1 := by rw [hW1]; exact (Below.refl _ _).alloc (Nat.le_refl _) _
  have b2 : Below W1.heap.size W1 W2 := by rw [hW2]; exact (Below.refl _ _).alloc (Nat.le_refl _) _
  have b3 : Below W2.heap.size W2 W := by rw [hW]; exact (Below.refl _ _).alloc (Nat.le_refl _) _
  have bW : Below w.heap.size w W := Below.step (Below.step b1 b2) b3
  obtain ⟨A, eA⟩ : ∃ A, A = w.heap.size := ⟨_, rfl⟩
  obtain ⟨R, eR⟩ : ∃ R, R = A + 1 := ⟨_, rfl⟩
  obtain ⟨C, eC⟩ : ∃ C, C = R + 1 := ⟨_, rfl⟩
  have hA : CellsAre W A [.int .i64 K, .slice p n c] := by
    have h0 : CellsAre W1 A [.int .i64 K, .slice p n c] := by rw [hW1, eA]; exact CellsAre.alloc w #[.int .i64 K, .slice p n c] _
    exact (h0.below (by omega) b2).below (by omega) b3
  have hR : CellsAre W R [.int .i64 0, .slice none 0 0] := by
    have h0 : CellsAre W2 R [.int .i64 0, .slice none 0 0] := by
      rw [hW2, show R = W1.heap.size by omega]; exact CellsAre.alloc W1 #[.int .i64 0, .slice none 0 0] _
    exact h0.below (by omega) b3
  have hC : CellsAre W C [.int .i64 K, .slice none 0 0] := by rw [hW, show C = W2.heap.size by omega]; exact CellsAre.alloc W2 #[.int .i64 K, .slice none 0 0] _
  rw [← hW1, ← hW2, ← hW, ← eA, ← eR, ← eC]
  have HE := hide (And.intro eA (And.intro eR (And.intro eC zW)))
  have BW := hide bW
  have HA := hide hA
  have HRR := hide hR
  have HC := hide hC
  clear hW hW1 hW2 eA eR eC zW bW z1 z2 b1 b2 b3 hA hR hC
  refine (toByteS_ab p c n P en _ (unhide R1 _ (unhide BW)) hn).mono ?_
  rintro r w1 ⟨p1, d1, rfl, ab1, hb1⟩
  have ZS1 : Hid (W.heap.size ≤ W.heap.size ∧ W.heap.size ≤ w1.heap.size) := ⟨Nat.le_refl _, hb1.size⟩
  have HA_1 := hide ((unhide HA).below (by obtain ⟨eA, eR, eC, zW⟩ := unhide HE; have := unhide ZS1; omega) hb1)
  have HRR_1 := hide ((unhide HRR).below (by obtain ⟨eA, eR, eC, zW⟩ := unhide HE; have := unhide ZS1; omega) hb1)
  have HC_1 := hide ((unhide HC).below (by obtain ⟨eA, eR, eC, zW⟩ := unhide HE; have := unhide ZS1; omega) hb1)
  have B1 := hide (Below.step (unhide BW) hb1)
  have AB1_1 := hide (Ab.mono (B := W.heap.size) ab1 (unhide ZS1).1)
  clear ab1 hb1
  have ca0 := (unhide HA_1).1 0 _ rfl
  have ca1 := (unhide HA_1).1 1 _ rfl
  have cc0 := (unhide HC_1).1 0 _ rfl
  have cc1 := (unhide HC_1).1 1 _ rfl
  have fC := (unhide HC_1).2
  have hAC : ¬ C = A := by obtain ⟨eA, eR, eC, zW⟩ := unhide HE; omega
  have cr0 := (unhide HRR_1).1 0 _ rfl
  have cr1 := (unhide HRR_1).1 1 _ rfl
  have fR := (unhide HRR_1).2
  have hAR : ¬ R = A := by obtain ⟨eA, eR, eC, zW⟩ := unhide HE; omega
  have hRC : ¬ R = C := by obtain ⟨eA, eR, eC, zW⟩ := unhide HE; omega
  have hCR : ¬ C = R := by obtain ⟨eA, eR, eC, zW⟩ := unhide HE; omega
  go_wp2
  obtain ⟨eA, eR, eC, zW⟩ := unhide HE
  have zz := unhide ZS1
  refine bodyPost_ret (v := .agg #[.int .i64 K, .slice p1 n d1]) (by simp [results, Tryd.results118, go_sem, cc0, cc1, cr0, cr1, hAC, hAR, hRC, hCR]) rfl ⟨p1, d1, rfl, Ab.mono (B := w.heap.size) (B' := W.heap.size) ?_ (by omega), ?_⟩
  · iterate 3 (refine Ab.set ?_ (by simp; omega) _)
    exact unhide AB1_1
  · iterate 3 (refine Below.setCell ?_ (by simp; omega) _)
    exact unhide B1

set_option maxHeartbeats 3200000 in
theorem toEventS_ab (p : Option Addr) (c n : Nat) (l : List Ev) (en : Hid (l.length = n)) (w : World) (h : RdE w (.slice p n c) l) (hn : n ≤ 1048576) (hel : Hid (∀ y ∈ l, y.2.length ≤ 1048576)) :
    Calls Tryd.prog 100 #[.slice p n c] w fun e w' => ∃ p' c', e = .returned (.slice p' n c') ∧ Ab w.heap.size w' (fun u => RdEc u (.slice p' n c') l) ∧ Below w.heap.size w w' := by
  obtain ⟨i, hi, hz0, hz1, hz2⟩ := info_parts Tryd.infoEv
  have HR := hide fun (w' : World) (hb : Below w.heap.size w w') => h.below hb
  clear h
  go_enter Tryd.func100, Tryd.ntmps100
  go_wp2_with (first | (at_make; refine wpList_make_full _ rfl _ _ 99 rfl w.heap.size 137 i _ 2 Tryd.underlying99 hi hz0 hz1 _ _ _ _ n rfl rfl rfl rfl ?b2 ?b3 ?b4 ?_))
  case b2 => rw [hz2]; omega
  case b3 => unfold maxLen; omega
  case b4 => exact Nat.le_refl _
  intro w1 hown hg
  have hb := grown_below hg
  obtain ⟨G, eG⟩ : ∃ G, G = w.heap.size := ⟨_, rfl⟩
  rw [← eG] at hown ⊢
  have zG : G < w1.heap.size := (World.ownsRow.lt hown G rfl).2
  have hG1 : w.heap.size ≤ G := by omega
  have hG2 : G ≤ w.heap.size := by omega
  clear hg eG
  go_wp2_with fail
  go_loopw [4] (fun iv wr => ∃ (k : Nat) (L : List Value), k ≤ n ∧ iv = .int .i64 k ∧ Hid (wr.ownsRow G 137 2 (.slice (some ⟨G, 0, none⟩) n n) n L ∧ ∀ (j : Nat) (y : Ev), j < k → l[j]? = some y → L[j * 2]? = some (.int .i64 y.1) ∧ ∃ v, L[j * 2 + 1]? = some v ∧ Ab (G + 1) wr (fun u => Rd u v y.2 ∧ CapOK v)) ∧ Below w.heap.size w wr ∧ G < wr.heap.size) (fun iv _ => n - (intOf iv).toNat)
  case atStart => exact ⟨0, _, Nat.zero_le _, rfl, ⟨hown, fun j y hj => by omega⟩, hb, zG⟩
  case round =>
    obtain ⟨k, L, hk, rfl, hin, hbr, hzr⟩ := hrel
    by_cases hlt : k < n
    · have hlt' : (k : Int) < (n : Int) := by omega
      have hkl : k < l.length := by rw [unhide en]; exact hlt
      obtain ⟨y, hy⟩ : ∃ y, l[k]? = some y := ⟨_, List.getElem?_eq_getElem hkl⟩
      have hby := unhide hel y (List.mem_of_getElem? hy)
      obtain ⟨K, P⟩ := y
      obtain ⟨b, o, rfl, hcK, u, hcP, hrP⟩ : ∃ b o, p = some ⟨b, o, none⟩ ∧ wr.cell? ⟨b, o + k * 2, none⟩ = some (.int .i64 K) ∧ ∃ u, wr.cell? ⟨b, o + k * 2 + 1, none⟩ = some u ∧ Rd wr u P := by
        obtain ⟨p', c', ev, hd⟩ := unhide HR _ hbr
        simp only [Value.slice.injEq] at ev
        obtain ⟨rfl, -, -⟩ := ev
        rcases hd with h0 | ⟨b, o, h1, h2⟩
        · rw [h0] at hkl; simp at hkl
        · exact ⟨b, o, h1, h2 k _ hy⟩
      obtain ⟨pp, pc, m, rfl, em⟩ := hrP.slc
      have hm : m ≤ 1048576 := by rw [← unhide em]; exact hby
      have HRP := hide hrP
      clear hrP
      clear hkl hby
      go_wp2_with fail
      refine (toEvent_ab K pp pc m P em _ (unhide HRP) hm).mono ?_
      rintro r w2 ⟨p1, d1, rfl, hab, hb2⟩
      have b2 := Below.step hbr hb2
      obtain ⟨ho, hL⟩ := unhide hin
      have ho2 := ho.kept (grown_of_b hb2) (by right; simp [Value.ownBlock])
      have hlen : L.length = n * 2 := ho.1
      obtain ⟨u0, hc0⟩ : ∃ u, w2.cell? ⟨G, k * 2, none⟩ = some u := by
        rw [ho2.cellAt (k * 2) (by omega)]
        exact ⟨_, List.getElem?_eq_getElem (by omega)⟩
      have hf0 := ho2.frozenAt (k * 2)
      obtain ⟨u1, hc1⟩ : ∃ u, w2.cell? ⟨G, k * 2 + 1, none⟩ = some u := by
        rw [ho2.cellAt (k * 2 + 1) (by omega)]
        exact ⟨_, List.getElem?_eq_getElem (by omega)⟩
      have hf1 := ho2.frozenAt (k * 2 + 1)
      have hzz : G < w2.heap.size := Nat.lt_of_lt_of_le hzr hb2.size
      obtain ⟨w3, hw3⟩ : ∃ w3, w3 = ((w2.setCell ⟨G, k * 2, none⟩ (.int .i64 K)).setCell ⟨G, k * 2 + 1, none⟩ (.slice p1 m d1)) := ⟨_, rfl⟩
      have HIN : Hid (w3.ownsRow G 137 2 (.slice (some ⟨G, 0, none⟩) n n) n (((L).set (k * 2) (.int .i64 K)).set (k * 2 + 1) (.slice p1 m d1)) ∧ ∀ (j : Nat) (y : Ev), j < k + 1 → l[j]? = some y → (((L).set (k * 2) (.int .i64 K)).set (k * 2 + 1) (.slice p1 m d1))[j * 2]? = some (.int .i64 y.1) ∧ ∃ v, (((L).set (k * 2) (.int .i64 K)).set (k * 2 + 1) (.slice p1 m d1))[j * 2 + 1]? = some v ∧ Ab (G + 1) w3 (fun u => Rd u v y.2 ∧ CapOK v)) := by
        refine ⟨by rw [hw3]; exact (World.ownsRow.stored ((World.ownsRow.stored (ho2) (k * 2) _).1) (k * 2 + 1) _).1, fun j z hj hz => ?_⟩
        by_cases ej : j = k
        · rw [ej] at hz ⊢
          rw [hy] at hz
          cases hz
          refine ⟨by rw [List.getElem?_set_ne (by omega)]; exact List.getElem?_set_self (by first | omega | (simp only [List.length_set]; omega)), _, by  exact List.getElem?_set_self (by first | omega | (simp only [List.length_set]; omega)), ?_⟩
          exact (by rw [hw3]; exact Ab.set (Ab.set (Ab.mono hab (by omega)) (a := ⟨G, k * 2, none⟩) (by show G < _; omega) _) (a := ⟨G, k * 2 + 1, none⟩) (by show G < _; omega) _)
        · obtain ⟨q1, v, q2, q3⟩ := hL j z (by omega) hz
          refine ⟨(by rw [List.getElem?_set_ne (by omega)]; rw [List.getElem?_set_ne (by omega)]; exact q1), v, (by rw [List.getElem?_set_ne (by omega)]; rw [List.getElem?_set_ne (by omega)]; exact q2), ?_⟩
          exact (by rw [hw3]; exact Ab.set (Ab.set (q3.below hb2) (a := ⟨G, k * 2, none⟩) (by show G < _; omega) _) (a := ⟨G, k * 2 + 1, none⟩) (by show G < _; omega) _)
      have bb : Below w.heap.size w w3 := by rw [hw3]; exact Below.setCell (Below.setCell (b2) (p := ⟨G, k * 2, none⟩) hG1 _) (p := ⟨G, k * 2 + 1, none⟩) hG1 _
      have zz3 : G < w3.heap.size := by rw [hw3]; simpa using hzz
      clear ho hL hin ho2 hab hlen hown hb b2 hb2 hbr
      go_wp2_with fail
      rw [← hw3]
      clear hw3 hc0 hc1 hf0 hf1 hcK hcP
      go_wp2
      go_roundw
      case rel => exact ⟨k + 1, _, by omega, by go_num, HIN, bb, zz3⟩
      case measure => simp [intOf]; omega
    · have hlt' : ¬ (k : Int) < (n : Int) := by omega
      have ekn : k = n := by omega
      subst ekn
      obtain ⟨ho, hL⟩ := unhide hin
      have hfin : Ab w.heap.size wr (fun u => RdEc u (.slice (some ⟨G, 0, none⟩) k k) l) := by
        intro u hu
        refine ⟨some ⟨G, 0, none⟩, k, by rw [unhide en], ?_⟩
        refine .inr ⟨G, 0, rfl, fun i y hy => ?_⟩
        have hil : i < k := by rw [← unhide en]; exact (List.getElem?_eq_some_iff.1 hy).1
        have hcc : ∀ j, j < k * 2 → u.cell? ⟨G, 0 + j, none⟩ = L[j]? := fun j hj => by
          rw [Nat.zero_add, cell_at_heap (hu G (by omega) hzr), ho.cellAt j hj]
        have hu' : ∀ q, G + 1 ≤ q → q < wr.heap.size → u.heap[q]? = wr.heap[q]? := fun q h1 h2 => hu q (by omega) h2
        obtain ⟨q1, v, q2, q3⟩ := hL i y hil hy
        refine ⟨by rw [hcc _ (by omega)]; exact q1, v, by rw [Nat.add_assoc, hcc _ (by omega)]; exact q2, (q3 u hu').1, (q3 u hu').2⟩
      clear ho hL hin hown hb
      go_wp2
      go_ret
      exact ⟨_, _, rfl, hfin, hbr⟩
end Go.Proofs.YtieofdbdkpdlcaaDoor
