import Derived.Test.YtpbppdeleijhkaaGreatDoorVC2
namespace Go.Proofs.YtpbppdeleijhkaaGreatDoor
open Go.ChangeShapes Go.WideShapes Go.ChangeAt Go.RowKit
set_option linter.unusedVariables false
set_option linter.unusedSimpArgs false
set_option maxRecDepth 100000

/-- Q holds in every world that has w's blocks from B on -/
def Ab (B : Nat) (w : World) (Q : World → Prop) : Prop := ∀ w' : World, (∀ k, B ≤ k → k < w.heap.size → w'.heap[k]? = w.heap[k]?) → Q w'
theorem Ab.self {B : Nat} {w : World} {Q : World → Prop} (h : Ab B w Q) : Q w := h w (fun _ _ _ => rfl)
theorem Ab.step {B : Nat} {w w' : World} {Q : World → Prop} (h : Ab B w Q) (hs : w.heap.size ≤ w'.heap.size) (hk : ∀ k, B ≤ k → k < w.heap.size → w'.heap[k]? = w.heap[k]?) : Ab B w' Q :=
  fun u hu => h u (fun k h1 h2 => (hu k h1 (Nat.lt_of_lt_of_le h2 hs)).trans (hk k h1 h2))
theorem Ab.below {B : Nat} {w w' : World} {Q : World → Prop} (h : Ab B w Q) (hb : Below w.heap.size w w') : Ab B w' Q := h.step hb.size (fun k _ h2 => hb.block k h2)
theorem Ab.mono {B B' : Nat} {w : World} {Q : World → Prop} (h : Ab B' w Q) (hB : B ≤ B') : Ab B w Q := fun u hu => h u (fun k h1 h2 => hu k (Nat.le_trans hB h1) h2)
theorem Ab.set {B : Nat} {w : World} {Q : World → Prop} (h : Ab B w Q) {a : Addr} (ha : a.block < B) (v : Value) : Ab B (w.setCell a v) Q :=
  h.step (by simp) (fun k h1 _ => RowKit.Below.heap_setCell _ _ _ _ (by omega))
theorem Ab.imp {B : Nat} {w : World} {Q R : World → Prop} (h : Ab B w Q) (hi : ∀ u, Q u → R u) : Ab B w R := fun u hu => hi u (h u hu)
theorem Ab.and {B : Nat} {w : World} {Q R : World → Prop} (h : Ab B w Q) (k : Ab B w R) : Ab B w (fun u => Q u ∧ R u) := fun u hu => ⟨h u hu, k u hu⟩
theorem cell_at_heap {w w' : World} {b : Nat} (h : w'.heap[b]? = w.heap[b]?) (o : Nat) : w'.cell? ⟨b, o, none⟩ = w.cell? ⟨b, o, none⟩ := by
  unfold World.cell?
  rw [h]
theorem Own.ab {B : Nat} {w : World} {p : Option Addr} {n c : Nat} {l : List Int} (h : Own B w (.slice p n c) l) : Ab B w (fun u => Rd u (.slice p n c) l ∧ CapOK (.slice p n c)) := by
  refine fun u hu => ⟨?_, p, n, c, rfl, h.cap, h.capMax⟩
  obtain ⟨p', c', e, hd⟩ := h.rd
  refine ⟨p', c', e, ?_⟩
  rcases hd with h0 | ⟨b, o, hp, hc⟩
  · exact .inl h0
  · refine .inr ⟨b, o, hp, fun i hi => ?_⟩
    simp only [Value.slice.injEq] at e
    have hb : B ≤ b ∧ b < w.heap.size := h.lt b (by rw [e.1, hp]; rfl)
    exact (cell_at_heap (hu b hb.1 hb.2) _).trans (hc i hi)
theorem toByteS_ab (p : Option Addr) (c n : Nat) (l : List Int) (en : Hid (l.length = n)) (w : World) (h : Rd w (.slice p n c) l) (hl : n ≤ 1048576) :
    Calls Tryz.prog 10 #[.slice p n c] w fun e w' => ∃ p' c', e = .returned (.slice p' n c') ∧ Ab w.heap.size w' (fun u => Rd u (.slice p' n c') l ∧ CapOK (.slice p' n c')) ∧ Below w.heap.size w w' := by
  refine (toByteS_n p c n l en w h hl).mono ?_
  rintro e w' ⟨p', c', rfl, ho, hb⟩
  exact ⟨p', c', rfl, ho.ab, hb⟩
theorem set_get {l : List Value} {j k : Nat} {v : Value} (h : j ≠ k) : (l.set j v)[k]? = l[k]? := List.getElem?_set_ne h

theorem Tryz.infoU64 : (Tryz.prog.info? 23).map (fun i => (i.zero, i.size, i.bytes)) = some (some (.int .u64 0), 1, 8) := by kernel_rfl
theorem Tryz.infoEv : (Tryz.prog.info? 169).map (fun i => (i.zero, i.size, i.bytes)) = some (some (.agg #[.int .i64 0, .slice none 0 0]), 2, 32) := by kernel_rfl
theorem Tryz.infoSes : (Tryz.prog.info? 65).map (fun i => (i.zero, i.size, i.bytes)) = some (some (.agg #[.int .u64 0, .int .i64 0, .slice none 0 0]), 3, 40) := by kernel_rfl
theorem Tryz.infoNod : (Tryz.prog.info? 71).map (fun i => (i.zero, i.size, i.bytes)) = some (some (.agg #[.slice none 0 0, .slice none 0 0, .int .u64 0, .int .i64 0, .slice none 0 0, .int .u64 0, .int .u64 0, .slice none 0 0]), 8, 128) := by kernel_rfl

set_option maxHeartbeats 800000 in
theorem toUint64S_ab (p : Option Addr) (c n : Nat) (l : List Int) (en : Hid (l.length = n)) (w : World) (h : RdU w (.slice p n c) l) (hn : n ≤ 1048576) :
    Calls Tryz.prog 149 #[.slice p n c] w fun e w' => ∃ p' c', e = .returned (.slice p' n c') ∧ Ab w.heap.size w' (fun u => RdU u (.slice p' n c') l) ∧ Below w.heap.size w w' := by
  obtain ⟨i, hi, hz0, hz1, hz2⟩ := info_parts Tryz.infoU64
  have HR := hide fun (w' : World) (hb : Below w.heap.size w w') => h.below hb
  clear h
  go_enter Tryz.func149, Tryz.ntmps149
  go_wp2_with (first | (at_make; refine wpList_make_full _ rfl _ _ 41 rfl w.heap.size 23 i (.int .u64 0) 1 Tryz.underlying41 hi hz0 hz1 _ _ _ _ n rfl rfl rfl rfl ?b2 ?b3 ?b4 ?_))
  case b2 => rw [hz2]; omega
  case b3 => unfold maxLen; omega
  case b4 => exact Nat.le_refl _
  intro w1 hown hg
  have hb := grown_below hg
  obtain ⟨G, eG⟩ : ∃ G, G = w.heap.size := ⟨_, rfl⟩
  rw [← eG] at hown ⊢
  have zG : G < w1.heap.size := (World.ownsRow.lt hown G rfl).2
  have hG1 : w.heap.size ≤ G := by omega
  have hG2 : G ≤ w.heap.size := by omega
  clear hg eG
  go_wp2
  go_loopw [4] (fun iv wr => ∃ (k : Nat) (L : List Value), k ≤ n ∧ iv = .int .i64 k ∧ Hid (wr.ownsRow G 23 1 (.slice (some ⟨G, 0, none⟩) n n) n L ∧ ∀ j, j < k → L[j]? = some (.int .u64 (l.getD j 0))) ∧ Below w.heap.size w wr ∧ G < wr.heap.size) (fun iv _ => n - (intOf iv).toNat)
  case atStart => exact ⟨0, _, Nat.zero_le _, rfl, ⟨hown, fun j hj => by omega⟩, hb, zG⟩
  case round =>
    obtain ⟨k, L, hk, rfl, hin, hbr, hzr⟩ := hrel
    by_cases hlt : k < n
    · have hlt' : (k : Int) < (n : Int) := by omega
      have hkl : k < l.length := by rw [unhide en]; exact hlt
      obtain ⟨b, o, rfl, hcell⟩ : ∃ b o, p = some ⟨b, o, none⟩ ∧ wr.cell? ⟨b, o + k, none⟩ = some (.int .u64 (l.getD k 0)) := by
        obtain ⟨p', c', ev, hd⟩ := unhide HR _ hbr
        simp only [Value.slice.injEq] at ev
        obtain ⟨rfl, -, -⟩ := ev
        rcases hd with h0 | ⟨b, o, h1, h2⟩
        · rw [h0] at hkl; simp at hkl
        · exact ⟨b, o, h1, h2 k hkl⟩
      obtain ⟨ho, hL⟩ := unhide hin
      have hlen : L.length = n * 1 := ho.1
      obtain ⟨u0, hc0⟩ : ∃ u, wr.cell? ⟨G, k, none⟩ = some u := by
        rw [ho.cellAt k (by omega)]
        exact ⟨_, List.getElem?_eq_getElem (by omega)⟩
      have hf0 := ho.frozenAt k
      obtain ⟨y, ey⟩ : ∃ y, l.getD k 0 = y := ⟨_, rfl⟩
      rw [ey] at hcell
      have HIN : Hid ((wr.setCell ⟨G, k, none⟩ (.int .u64 y)).ownsRow G 23 1 (.slice (some ⟨G, 0, none⟩) n n) n (L.set k (.int .u64 y)) ∧ ∀ j, j < k + 1 → (L.set k (.int .u64 y))[j]? = some (.int .u64 (l.getD j 0))) := by
        refine ⟨(ho.stored k _).1, fun j hj => ?_⟩
        by_cases e : j = k
        · subst e
          rw [List.getElem?_set_self (by omega), ey]
        · rw [List.getElem?_set_ne (by omega)]
          exact hL j (by omega)
      have bb := hbr.setCell (p := ⟨G, k, none⟩) hG1 (.int .u64 y)
      clear ho hL hin hkl ey hlen hown hb
      go_wp2
      go_roundw
      case rel => exact ⟨k + 1, _, by omega, by go_num, HIN, bb, by simpa using hzr⟩
      case measure => simp [intOf]; omega
    · have hlt' : ¬ (k : Int) < (n : Int) := by omega
      have ekn : k = n := by omega
      subst ekn
      obtain ⟨ho, hL⟩ := unhide hin
      have hfin : Ab w.heap.size wr (fun u => RdU u (.slice (some ⟨G, 0, none⟩) k k) l) := by
        intro u hu
        refine ⟨some ⟨G, 0, none⟩, k, by rw [unhide en], ?_⟩
        refine .inr ⟨G, 0, rfl, fun i hi => ?_⟩
        rw [unhide en] at hi
        rw [Nat.zero_add, cell_at_heap (hu G (by omega) hzr), ho.cellAt i (by omega)]
        exact hL i hi
      clear ho hL hin hown hb
      go_wp2
      go_ret
      exact ⟨_, _, rfl, hfin, hbr⟩
/-- a block's cells, none of them frozen -/
def CellsAre (w : World) (b : Nat) (vs : List Value) : Prop := (∀ i v, vs[i]? = some v → w.cell? ⟨b, i, none⟩ = some v) ∧ ∀ o, w.frozen? ⟨b, o, none⟩ = false
theorem CellsAre.alloc (w : World) (cs : Array Value) (t : TypeId) : CellsAre (w.alloc (.cells cs t)) w.heap.size cs.toList := by
  refine ⟨fun i v h => ?_, fun o => ?_⟩
  · rw [Array.getElem?_toList] at h
    simp [h]
  · simp [go_sem]
theorem CellsAre.below {w w' : World} {b : Nat} {vs : List Value} (h : CellsAre w b vs) (hb : b < w.heap.size) (hbl : Below w.heap.size w w') : CellsAre w' b vs :=
  ⟨fun i v hi => (hbl.cell (p := ⟨b, i, none⟩) hb).trans (h.1 i v hi), fun o => (hbl.frozen (p := ⟨b, o, none⟩) hb).trans (h.2 o)⟩
theorem CellsAre.far {w : World} {b : Nat} {vs : List Value} (h : CellsAre w b vs) {a : Addr} (ha : b ≠ a.block) (u : Value) : CellsAre (w.setCell a u) b vs := by
  have hh : (w.setCell a u).heap[b]? = w.heap[b]? := RowKit.Below.heap_setCell _ _ _ _ ha
  refine ⟨fun i v hi => (cell_at_heap hh _).trans (h.1 i v hi), fun o => ?_⟩
  have : (w.setCell a u).frozen? ⟨b, o, none⟩ = w.frozen? ⟨b, o, none⟩ := World.frozen?_of_block hh
  rw [this]
  exact h.2 o
theorem CellsAre.near {w : World} {b : Nat} {vs : List Value} (h : CellsAre w b vs) (j : Nat) (hj : j < vs.length) (u : Value) : CellsAre (w.setCell ⟨b, j, none⟩ u) b (vs.set j u) := by
  have hc := h.1 j _ (List.getElem?_eq_getElem hj)
  refine ⟨fun i v hi => ?_, fun o => by simp [h.2 o]⟩
  by_cases e : j = i
  · subst e
    rw [List.getElem?_set_self hj] at hi
    cases hi
    exact World.cell?_setCell_same _ _ _ hc
  · rw [List.getElem?_set_ne e] at hi
    have := h.1 i v hi
    simp [go_sem, e, this]
theorem grown_of_b {w w' : World} (h : Below w.heap.size w w') : w.grownBy w' none := ⟨h.os, h.tape, h.output, h.size, fun i hi _ => h.block i hi⟩

set_option maxHeartbeats 3200000 in
theorem toEvent_ab (K : Int) (p : Option Addr) (c n : Nat) (P : List Int) (en : Hid (P.length = n)) (w : World) (h : Rd w (.slice p n c) P) (hn : n ≤ 1048576) :
    Calls Tryz.prog 178 #[.agg #[.int .i64 K, .slice p n c]] w fun r w' => ∃ p1 d1, r = .returned (.agg #[.int .i64 K, .slice p1 n d1]) ∧ Ab w.heap.size w' (fun u => (Rd u (.slice p1 n d1) P ∧ CapOK (.slice p1 n d1))) ∧ Below w.heap.size w w' := by
  have R1 := hide fun (w' : World) (hb : Below w.heap.size w w') => h.below hb
  clear h
  go_enter Tryz.func178, Tryz.ntmps178
  go_wp2_with fail
  obtain ⟨W1, hW1⟩ : ∃ W, W = w.alloc (.cells #[.int .i64 K, .slice p n c] 206) := ⟨_, rfl⟩
  obtain ⟨W2, hW2⟩ : ∃ W, W = W1.alloc (.cells #[.int .i64 0, .slice none 0 0] 169) := ⟨_, rfl⟩
  obtain ⟨W, hW⟩ : ∃ W, W = W2.alloc (.cells #[.int .i64 K, .slice none 0 0] 169) := ⟨_, rfl⟩
  have z1 : W1.heap.size = w.heap.size + 1 := by rw [hW1]; simp
  have z2 : W2.heap.size = w.heap.size + 2 := by rw [hW2]; simp; omega
  have zW : W.heap.size = w.heap.size + 3 := by rw [hW]; simp; omega
  have b1 : Below w.heap.size w W1 := by rw [hW1]; exact (Below.refl _ _).alloc (Nat.le_refl _) _
  have b2 : Below W1.heap.size W1 W2 := by rw [hW2]; exact (Below.refl _ _).alloc (Nat.le_refl _) _
  have b3 : Below W2.heap.size W2 W := by rw [hW]; exact (Below.refl _ _).alloc (Nat.le_refl _) _
  have bW : Below w.heap.size w W := Below.step (Below.step b1 b2) b3
  obtain ⟨A, eA⟩ : ∃ A, A = w.heap.size := ⟨_, rfl⟩
  obtain ⟨R, eR⟩ : ∃ R, R = A + 1 := ⟨_, rfl⟩
  obtain ⟨C, eC⟩ : ∃ C, C = R + 1 := ⟨_, rfl⟩
  have hA : CellsAre W A [.int .i64 K, .slice p n c] := by
    have h0 : CellsAre W1 A [.int .i64 K, .slice p n c] := by rw [hW1, eA]; exact CellsAre.alloc w #[.int .i64 K, .slice p n c] _
    exact (h0.below (by omega) b2).below (by omega) b3
  have hR : CellsAre W R [.int .i64 0, .slice none 0 0] := by
    have h0 : CellsAre W2 R [.int .i64 0, .slice none 0 0] := by
      rw [hW2, show R = W1.heap.size by omega]; exact CellsAre.alloc W1 #[.int .i64 0, .slice none 0 0] _
    exact h0.below (by omega) b3
  have hC : CellsAre W C [.int .i64 K, .slice none 0 0] := by rw [hW, show C = W2.heap.size by omega]; exact CellsAre.alloc W2 #[.int .i64 K, .slice none 0 0] _
  rw [← hW1, ← hW2, ← hW, ← eA, ← eR, ← eC]
  have HE := hide (And.intro eA (And.intro eR (And.intro eC zW)))
  have BW := hide bW
  have HA := hide hA
  have HRR := hide hR
  have HC := hide hC
  clear hW hW1 hW2 eA eR eC zW bW z1 z2 b1 b2 b3 hA hR hC
  refine (toByteS_ab p c n P en _ (unhide R1 _ (unhide BW)) hn).mono ?_
  rintro r w1 ⟨p1, d1, rfl, ab1, hb1⟩
  have ZS1 : Hid (W.heap.size ≤ W.heap.size ∧ W.heap.size ≤ w1.heap.size) := ⟨Nat.le_refl _, hb1.size⟩
  have HA_1 := hide ((unhide HA).below (by obtain ⟨eA, eR, eC, zW⟩ := unhide HE; have := unhide ZS1; omega) hb1)
  have HRR_1 := hide ((unhide HRR).below (by obtain ⟨eA, eR, eC, zW⟩ := unhide HE; have := unhide ZS1; omega) hb1)
  have HC_1 := hide ((unhide HC).below (by obtain ⟨eA, eR, eC, zW⟩ := unhide HE; have := unhide ZS1; omega) hb1)
  have B1 := hide (Below.step (unhide BW) hb1)
  have AB1_1 := hide (Ab.mono (B := W.heap.size) ab1 (unhide ZS1).1)
  clear ab1 hb1
  have ca0 := (unhide HA_1).1 0 _ rfl
  have ca1 := (unhide HA_1).1 1 _ rfl
  have cc0 := (unhide HC_1).1 0 _ rfl
  have cc1 := (unhide HC_1).1 1 _ rfl
  have fC := (unhide HC_1).2
  have hAC : ¬ C = A := by obtain ⟨eA, eR, eC, zW⟩ := unhide HE; omega
  have cr0 := (unhide HRR_1).1 0 _ rfl
  have cr1 := (unhide HRR_1).1 1 _ rfl
  have fR := (unhide HRR_1).2
  have hAR : ¬ R = A := by obtain ⟨eA, eR, eC, zW⟩ := unhide HE; omega
  have hRC : ¬ R = C := by obtain ⟨eA, eR, eC, zW⟩ := unhide HE; omega
  have hCR : ¬ C = R := by obtain ⟨eA, eR, eC, zW⟩ := unhide HE; omega
  go_wp2
  obtain ⟨eA, eR, eC, zW⟩ := unhide HE
  have zz := unhide ZS1
  refine bodyPost_ret (v := .agg #[.int .i64 K, .slice p1 n d1]) (by simp [results, Tryz.results178, go_sem, cc0, cc1, cr0, cr1, hAC, hAR, hRC, hCR]) rfl ⟨p1, d1, rfl, Ab.mono (B := w.heap.size) (B' := W.heap.size) ?_ (by omega), ?_⟩
  · iterate 3 (refine Ab.set ?_ (by simp; omega) _)
    exact unhide AB1_1
  · iterate 3 (refine Below.setCell ?_ (by simp; omega) _)
    exact unhide B1

set_option maxHeartbeats 3200000 in
theorem toEventS_ab (p : Option Addr) (c n : Nat) (l : List Ev) (en : Hid (l.length = n)) (w : World) (h : RdE w (.slice p n c) l) (hn : n ≤ 1048576) (hel : Hid (∀ y ∈ l, y.2.length ≤ 1048576)) :
    Calls Tryz.prog 148 #[.slice p n c] w fun e w' => ∃ p' c', e = .returned (.slice p' n c') ∧ Ab w.heap.size w' (fun u => RdEc u (.slice p' n c') l) ∧ Below w.heap.size w w' := by
  obtain ⟨i, hi, hz0, hz1, hz2⟩ := info_parts Tryz.infoEv
  have HR := hide fun (w' : World) (hb : Below w.heap.size w w') => h.below hb
  clear h
  go_enter Tryz.func148, Tryz.ntmps148
  go_wp2_with (first | (at_make; refine wpList_make_full _ rfl _ _ 63 rfl w.heap.size 169 i _ 2 Tryz.underlying63 hi hz0 hz1 _ _ _ _ n rfl rfl rfl rfl ?b2 ?b3 ?b4 ?_))
  case b2 => rw [hz2]; omega
  case b3 => unfold maxLen; omega
  case b4 => exact Nat.le_refl _
  intro w1 hown hg
  have hb := grown_below hg
  obtain ⟨G, eG⟩ : ∃ G, G = w.heap.size := ⟨_, rfl⟩
  rw [← eG] at hown ⊢
  have zG : G < w1.heap.size := (World.ownsRow.lt hown G rfl).2
  have hG1 : w.heap.size ≤ G := by omega
  have hG2 : G ≤ w.heap.size := by omega
  clear hg eG
  go_wp2_with fail
  go_loopw [4] (fun iv wr => ∃ (k : Nat) (L : List Value), k ≤ n ∧ iv = .int .i64 k ∧ Hid (wr.ownsRow G 169 2 (.slice (some ⟨G, 0, none⟩) n n) n L ∧ ∀ (j : Nat) (y : Ev), j < k → l[j]? = some y → L[j * 2]? = some (.int .i64 y.1) ∧ ∃ v, L[j * 2 + 1]? = some v ∧ Ab (G + 1) wr (fun u => Rd u v y.2 ∧ CapOK v)) ∧ Below w.heap.size w wr ∧ G < wr.heap.size) (fun iv _ => n - (intOf iv).toNat)
  case atStart => exact ⟨0, _, Nat.zero_le _, rfl, ⟨hown, fun j y hj => by omega⟩, hb, zG⟩
  case round =>
    obtain ⟨k, L, hk, rfl, hin, hbr, hzr⟩ := hrel
    by_cases hlt : k < n
    · have hlt' : (k : Int) < (n : Int) := by omega
      have hkl : k < l.length := by rw [unhide en]; exact hlt
      obtain ⟨y, hy⟩ : ∃ y, l[k]? = some y := ⟨_, List.getElem?_eq_getElem hkl⟩
      have hby := unhide hel y (List.mem_of_getElem? hy)
      obtain ⟨K, P⟩ := y
      obtain ⟨b, o, rfl, hcK, u, hcP, hrP⟩ : ∃ b o, p = some ⟨b, o, none⟩ ∧ wr.cell? ⟨b, o + k * 2, none⟩ = some (.int .i64 K) ∧ ∃ u, wr.cell? ⟨b, o + k * 2 + 1, none⟩ = some u ∧ Rd wr u P := by
        obtain ⟨p', c', ev, hd⟩ := unhide HR _ hbr
        simp only [Value.slice.injEq] at ev
        obtain ⟨rfl, -, -⟩ := ev
        rcases hd with h0 | ⟨b, o, h1, h2⟩
        · rw [h0] at hkl; simp at hkl
        · exact ⟨b, o, h1, h2 k _ hy⟩
      obtain ⟨pp, pc, m, rfl, em⟩ := hrP.slc
      have hm : m ≤ 1048576 := by rw [← unhide em]; exact hby
      have HRP := hide hrP
      clear hrP
      clear hkl hby
      go_wp2_with fail
      refine (toEvent_ab K pp pc m P em _ (unhide HRP) hm).mono ?_
      rintro r w2 ⟨p1, d1, rfl, hab, hb2⟩
      have b2 := Below.step hbr hb2
      obtain ⟨ho, hL⟩ := unhide hin
      have ho2 := ho.kept (grown_of_b hb2) (by right; simp [Value.ownBlock])
      have hlen : L.length = n * 2 := ho.1
      obtain ⟨u0, hc0⟩ : ∃ u, w2.cell? ⟨G, k * 2, none⟩ = some u := by
        rw [ho2.cellAt (k * 2) (by omega)]
        exact ⟨_, List.getElem?_eq_getElem (by omega)⟩
      have hf0 := ho2.frozenAt (k * 2)
      obtain ⟨u1, hc1⟩ : ∃ u, w2.cell? ⟨G, k * 2 + 1, none⟩ = some u := by
        rw [ho2.cellAt (k * 2 + 1) (by omega)]
        exact ⟨_, List.getElem?_eq_getElem (by omega)⟩
      have hf1 := ho2.frozenAt (k * 2 + 1)
      have hzz : G < w2.heap.size := Nat.lt_of_lt_of_le hzr hb2.size
      obtain ⟨w3, hw3⟩ : ∃ w3, w3 = ((w2.setCell ⟨G, k * 2, none⟩ (.int .i64 K)).setCell ⟨G, k * 2 + 1, none⟩ (.slice p1 m d1)) := ⟨_, rfl⟩
      have HIN : Hid (w3.ownsRow G 169 2 (.slice (some ⟨G, 0, none⟩) n n) n (((L).set (k * 2) (.int .i64 K)).set (k * 2 + 1) (.slice p1 m d1)) ∧ ∀ (j : Nat) (y : Ev), j < k + 1 → l[j]? = some y → (((L).set (k * 2) (.int .i64 K)).set (k * 2 + 1) (.slice p1 m d1))[j * 2]? = some (.int .i64 y.1) ∧ ∃ v, (((L).set (k * 2) (.int .i64 K)).set (k * 2 + 1) (.slice p1 m d1))[j * 2 + 1]? = some v ∧ Ab (G + 1) w3 (fun u => Rd u v y.2 ∧ CapOK v)) := by
        refine ⟨by rw [hw3]; exact (World.ownsRow.stored ((World.ownsRow.stored (ho2) (k * 2) _).1) (k * 2 + 1) _).1, fun j z hj hz => ?_⟩
        by_cases ej : j = k
        · rw [ej] at hz ⊢
          rw [hy] at hz
          cases hz
          refine ⟨by rw [List.getElem?_set_ne (by omega)]; exact List.getElem?_set_self (by first | omega | (simp only [List.length_set]; omega)), _, by  exact List.getElem?_set_self (by first | omega | (simp only [List.length_set]; omega)), ?_⟩
          exact (by rw [hw3]; exact Ab.set (Ab.set (Ab.mono hab (by omega)) (a := ⟨G, k * 2, none⟩) (by show G < _; omega) _) (a := ⟨G, k * 2 + 1, none⟩) (by show G < _; omega) _)
        · obtain ⟨q1, v, q2, q3⟩ := hL j z (by omega) hz
          refine ⟨(by rw [List.getElem?_set_ne (by omega)]; rw [List.getElem?_set_ne (by omega)]; exact q1), v, (by rw [List.getElem?_set_ne (by omega)]; rw [List.getElem?_set_ne (by omega)]; exact q2), ?_⟩
          exact (by rw [hw3]; exact Ab.set (Ab.set (q3.below hb2) (a := ⟨G, k * 2, none⟩) (by show G < _; omega) _) (a := ⟨G, k * 2 + 1, none⟩) (by show G < _; omega) _)
      have bb : Below w.heap.size w w3 := by rw [hw3]; exact Below.setCell (Below.setCell (b2) (p := ⟨G, k * 2, none⟩) hG1 _) (p := ⟨G, k * 2 + 1, none⟩) hG1 _
      have zz3 : G < w3.heap.size := by rw [hw3]; simpa using hzz
      clear ho hL hin ho2 hab hlen hown hb b2 hb2 hbr
      go_wp2_with fail
      rw [← hw3]
      clear hw3 hc0 hc1 hf0 hf1 hcK hcP
      go_wp2
      go_roundw
      case rel => exact ⟨k + 1, _, by omega, by go_num, HIN, bb, zz3⟩
      case measure => simp [intOf]; omega
    · have hlt' : ¬ (k : Int) < (n : Int) := by omega
      have ekn : k = n := by omega
      subst ekn
      obtain ⟨ho, hL⟩ := unhide hin
      have hfin : Ab w.heap.size wr (fun u => RdEc u (.slice (some ⟨G, 0, none⟩) k k) l) := by
        intro u hu
        refine ⟨some ⟨G, 0, none⟩, k, by rw [unhide en], ?_⟩
        refine .inr ⟨G, 0, rfl, fun i y hy => ?_⟩
        have hil : i < k := by rw [← unhide en]; exact (List.getElem?_eq_some_iff.1 hy).1
        have hcc : ∀ j, j < k * 2 → u.cell? ⟨G, 0 + j, none⟩ = L[j]? := fun j hj => by
          rw [Nat.zero_add, cell_at_heap (hu G (by omega) hzr), ho.cellAt j hj]
        have hu' : ∀ q, G + 1 ≤ q → q < wr.heap.size → u.heap[q]? = wr.heap[q]? := fun q h1 h2 => hu q (by omega) h2
        obtain ⟨q1, v, q2, q3⟩ := hL i y hil hy
        refine ⟨by rw [hcc _ (by omega)]; exact q1, v, by rw [Nat.add_assoc, hcc _ (by omega)]; exact q2, (q3 u hu').1, (q3 u hu').2⟩
      clear ho hL hin hown hb
      go_wp2
      go_ret
      exact ⟨_, _, rfl, hfin, hbr⟩
end Go.Proofs.YtpbppdeleijhkaaGreatDoor
namespace Go.Proofs.YtpbppdeleijhkaaGreatDoor
open Go.ChangeShapes Go.WideShapes Go.ChangeAt Go.RowKit
set_option linter.unusedVariables false
set_option linter.unusedSimpArgs false
set_option maxRecDepth 100000

set_option maxHeartbeats 3200000 in
theorem toSession_ab (I D : Int) (p : Option Addr) (c n : Nat) (Q : List Ev) (en : Hid (Q.length = n)) (w : World) (h : RdE w (.slice p n c) Q) (hn : n ≤ 1048576) (hel : Hid (∀ y ∈ Q, y.2.length ≤ 1048576)) :
    Calls Tryz.prog 106 #[.agg #[.int .u64 I, .int .i64 D, .slice p n c]] w fun r w' => ∃ p2 d2, r = .returned (.agg #[.int .u64 I, .int .i64 D, .slice p2 n d2]) ∧ Ab w.heap.size w' (fun u => RdEc u (.slice p2 n d2) Q) ∧ Below w.heap.size w w' := by
  have R2 := hide fun (w' : World) (hb : Below w.heap.size w w') => h.below hb
  clear h
  go_enter Tryz.func106, Tryz.ntmps106
  go_wp2_with fail
  obtain ⟨W1, hW1⟩ : ∃ W, W = w.alloc (.cells #[.int .u64 I, .int .i64 D, .slice p n c] 128) := ⟨_, rfl⟩
  obtain ⟨W2, hW2⟩ : ∃ W, W = W1.alloc (.cells #[.int .u64 0, .int .i64 0, .slice none 0 0] 65) := ⟨_, rfl⟩
  obtain ⟨W, hW⟩ : ∃ W, W = W2.alloc (.cells #[.int .u64 I, .int .i64 D, .slice none 0 0] 65) := ⟨_, rfl⟩
  have z1 : W1.heap.size = w.heap.size + 1 := by rw [hW1]; simp
  have z2 : W2.heap.size = w.heap.size + 2 := by rw [hW2]; simp; omega
  have zW : W.heap.size = w.heap.size + 3 := by rw [hW]; simp; omega
  have b1 : Below w.heap.size w W1 := by rw [hW1]; exact (Below.refl _ _).alloc (Nat.le_refl _) _
  have b2 : Below W1.heap.size W1 W2 := by rw [hW2]; exact (Below.refl _ _).alloc (Nat.le_refl _) _
  have b3 : Below W2.heap.size W2 W := by rw [hW]; exact (Below.refl _ _).alloc (Nat.le_refl _) _
  have bW : Below w.heap.size w W := Below.step (Below.step b1 b2) b3
  obtain ⟨A, eA⟩ : ∃ A, A = w.heap.size := ⟨_, rfl⟩
  obtain ⟨R, eR⟩ : ∃ R, R = A + 1 := ⟨_, rfl⟩
  obtain ⟨C, eC⟩ : ∃ C, C = R + 1 := ⟨_, rfl⟩
  have hA : CellsAre W A [.int .u64 I, .int .i64 D, .slice p n c] := by
    have h0 : CellsAre W1 A [.int .u64 I, .int .i64 D, .slice p n c] := by rw [hW1, eA]; exact CellsAre.alloc w #[.int .u64 I, .int .i64 D, .slice p n c] _
    exact (h0.below (by omega) b2).below (by omega) b3
  have hR : CellsAre W R [.int .u64 0, .int .i64 0, .slice none 0 0] := by
    have h0 : CellsAre W2 R [.int .u64 0, .int .i64 0, .slice none 0 0] := by
      rw [hW2, show R = W1.heap.size by omega]; exact CellsAre.alloc W1 #[.int .u64 0, .int .i64 0, .slice none 0 0] _
    exact h0.below (by omega) b3
  have hC : CellsAre W C [.int .u64 I, .int .i64 D, .slice none 0 0] := by rw [hW, show C = W2.heap.size by omega]; exact CellsAre.alloc W2 #[.int .u64 I, .int .i64 D, .slice none 0 0] _
  rw [← hW1, ← hW2, ← hW, ← eA, ← eR, ← eC]
  have HE := hide (And.intro eA (And.intro eR (And.intro eC zW)))
  have BW := hide bW
  have HA := hide hA
  have HRR := hide hR
  have HC := hide hC
  clear hW hW1 hW2 eA eR eC zW bW z1 z2 b1 b2 b3 hA hR hC
  refine (toEventS_ab p c n Q en _ (unhide R2 _ (unhide BW)) hn hel).mono ?_
  rintro r w2 ⟨p2, d2, rfl, ab2, hb2⟩
  have ZS2 : Hid (W.heap.size ≤ W.heap.size ∧ W.heap.size ≤ w2.heap.size) := ⟨Nat.le_refl _, hb2.size⟩
  have HA_2 := hide ((unhide HA).below (by obtain ⟨eA, eR, eC, zW⟩ := unhide HE; have := unhide ZS2; omega) hb2)
  have HRR_2 := hide ((unhide HRR).below (by obtain ⟨eA, eR, eC, zW⟩ := unhide HE; have := unhide ZS2; omega) hb2)
  have HC_2 := hide ((unhide HC).below (by obtain ⟨eA, eR, eC, zW⟩ := unhide HE; have := unhide ZS2; omega) hb2)
  have B2 := hide (Below.step (unhide BW) hb2)
  have AB2_2 := hide (Ab.mono (B := W.heap.size) ab2 (unhide ZS2).1)
  clear ab2 hb2
  have ca0 := (unhide HA_2).1 0 _ rfl
  have ca1 := (unhide HA_2).1 1 _ rfl
  have ca2 := (unhide HA_2).1 2 _ rfl
  have cc0 := (unhide HC_2).1 0 _ rfl
  have cc1 := (unhide HC_2).1 1 _ rfl
  have cc2 := (unhide HC_2).1 2 _ rfl
  have fC := (unhide HC_2).2
  have hAC : ¬ C = A := by obtain ⟨eA, eR, eC, zW⟩ := unhide HE; omega
  have cr0 := (unhide HRR_2).1 0 _ rfl
  have cr1 := (unhide HRR_2).1 1 _ rfl
  have cr2 := (unhide HRR_2).1 2 _ rfl
  have fR := (unhide HRR_2).2
  have hAR : ¬ R = A := by obtain ⟨eA, eR, eC, zW⟩ := unhide HE; omega
  have hRC : ¬ R = C := by obtain ⟨eA, eR, eC, zW⟩ := unhide HE; omega
  have hCR : ¬ C = R := by obtain ⟨eA, eR, eC, zW⟩ := unhide HE; omega
  go_wp2
  obtain ⟨eA, eR, eC, zW⟩ := unhide HE
  have zz := unhide ZS2
  refine bodyPost_ret (v := .agg #[.int .u64 I, .int .i64 D, .slice p2 n d2]) (by simp [results, Tryz.results106, go_sem, cc0, cc1, cc2, cr0, cr1, cr2, hAC, hAR, hRC, hCR]) rfl ⟨p2, d2, rfl, Ab.mono (B := w.heap.size) (B' := W.heap.size) ?_ (by omega), ?_⟩
  · iterate 4 (refine Ab.set ?_ (by simp; omega) _)
    exact unhide AB2_2
  · iterate 4 (refine Below.setCell ?_ (by simp; omega) _)
    exact unhide B2

set_option maxHeartbeats 3200000 in
theorem toSessionS_ab (p : Option Addr) (c n : Nat) (l : List Ses) (en : Hid (l.length = n)) (w : World) (h : RdS w (.slice p n c) l) (hn : n ≤ 1048576) (hel : Hid (∀ y ∈ l, y.2.2.length ≤ 1048576 ∧ ∀ e ∈ y.2.2, e.2.length ≤ 1048576)) :
    Calls Tryz.prog 62 #[.slice p n c] w fun e w' => ∃ p' c', e = .returned (.slice p' n c') ∧ Ab w.heap.size w' (fun u => RdSc u (.slice p' n c') l) ∧ Below w.heap.size w w' := by
  obtain ⟨i, hi, hz0, hz1, hz2⟩ := info_parts Tryz.infoSes
  have HR := hide fun (w' : World) (hb : Below w.heap.size w w') => h.below hb
  clear h
  go_enter Tryz.func62, Tryz.ntmps62
  go_wp2_with (first | (at_make; refine wpList_make_full _ rfl _ _ 24 rfl w.heap.size 65 i _ 3 Tryz.underlying24 hi hz0 hz1 _ _ _ _ n rfl rfl rfl rfl ?b2 ?b3 ?b4 ?_))
  case b2 => rw [hz2]; omega
  case b3 => unfold maxLen; omega
  case b4 => exact Nat.le_refl _
  intro w1 hown hg
  have hb := grown_below hg
  obtain ⟨G, eG⟩ : ∃ G, G = w.heap.size := ⟨_, rfl⟩
  rw [← eG] at hown ⊢
  have zG : G < w1.heap.size := (World.ownsRow.lt hown G rfl).2
  have hG1 : w.heap.size ≤ G := by omega
  have hG2 : G ≤ w.heap.size := by omega
  clear hg eG
  go_wp2_with fail
  go_loopw [4] (fun iv wr => ∃ (k : Nat) (L : List Value), k ≤ n ∧ iv = .int .i64 k ∧ Hid (wr.ownsRow G 65 3 (.slice (some ⟨G, 0, none⟩) n n) n L ∧ ∀ (j : Nat) (y : Ses), j < k → l[j]? = some y → L[j * 3]? = some (.int .u64 y.1) ∧ L[j * 3 + 1]? = some (.int .i64 y.2.1) ∧ ∃ v, L[j * 3 + 2]? = some v ∧ Ab (G + 1) wr (fun u => RdEc u v y.2.2)) ∧ Below w.heap.size w wr ∧ G < wr.heap.size) (fun iv _ => n - (intOf iv).toNat)
  case atStart => exact ⟨0, _, Nat.zero_le _, rfl, ⟨hown, fun j y hj => by omega⟩, hb, zG⟩
  case round =>
    obtain ⟨k, L, hk, rfl, hin, hbr, hzr⟩ := hrel
    by_cases hlt : k < n
    · have hlt' : (k : Int) < (n : Int) := by omega
      have hkl : k < l.length := by rw [unhide en]; exact hlt
      obtain ⟨y, hy⟩ : ∃ y, l[k]? = some y := ⟨_, List.getElem?_eq_getElem hkl⟩
      have hby := unhide hel y (List.mem_of_getElem? hy)
      obtain ⟨I, D, Q⟩ := y
      obtain ⟨b, o, rfl, hcI, hcD, u, hcQ, hrQ⟩ : ∃ b o, p = some ⟨b, o, none⟩ ∧ wr.cell? ⟨b, o + k * 3, none⟩ = some (.int .u64 I) ∧ wr.cell? ⟨b, o + k * 3 + 1, none⟩ = some (.int .i64 D) ∧ ∃ u, wr.cell? ⟨b, o + k * 3 + 2, none⟩ = some u ∧ RdE wr u Q := by
        obtain ⟨p', c', ev, hd⟩ := unhide HR _ hbr
        simp only [Value.slice.injEq] at ev
        obtain ⟨rfl, -, -⟩ := ev
        rcases hd with h0 | ⟨b, o, h1, h2⟩
        · rw [h0] at hkl; simp at hkl
        · exact ⟨b, o, h1, h2 k _ hy⟩
      obtain ⟨pq, cq, rfl, -⟩ := id hrQ
      obtain ⟨m, em⟩ : ∃ m, Q.length = m := ⟨_, rfl⟩
      rw [em] at hrQ hcQ
      have hm : m ≤ 1048576 := by rw [← em]; exact hby.1
      have EM := hide em
      have HEL : Hid (∀ y ∈ Q, y.2.length ≤ 1048576) := hby.2
      have HRQ := hide hrQ
      clear hrQ em
      clear hkl hby
      go_wp2_with fail
      refine (toSession_ab I D pq cq m Q EM _ (unhide HRQ) hm HEL).mono ?_
      rintro r w2 ⟨p2, d2, rfl, hab, hb2⟩
      have b2 := Below.step hbr hb2
      obtain ⟨ho, hL⟩ := unhide hin
      have ho2 := ho.kept (grown_of_b hb2) (by right; simp [Value.ownBlock])
      have hlen : L.length = n * 3 := ho.1
      obtain ⟨u0, hc0⟩ : ∃ u, w2.cell? ⟨G, k * 3, none⟩ = some u := by
        rw [ho2.cellAt (k * 3) (by omega)]
        exact ⟨_, List.getElem?_eq_getElem (by omega)⟩
      have hf0 := ho2.frozenAt (k * 3)
      obtain ⟨u1, hc1⟩ : ∃ u, w2.cell? ⟨G, k * 3 + 1, none⟩ = some u := by
        rw [ho2.cellAt (k * 3 + 1) (by omega)]
        exact ⟨_, List.getElem?_eq_getElem (by omega)⟩
      have hf1 := ho2.frozenAt (k * 3 + 1)
      obtain ⟨u2, hc2⟩ : ∃ u, w2.cell? ⟨G, k * 3 + 2, none⟩ = some u := by
        rw [ho2.cellAt (k * 3 + 2) (by omega)]
        exact ⟨_, List.getElem?_eq_getElem (by omega)⟩
      have hf2 := ho2.frozenAt (k * 3 + 2)
      have hzz : G < w2.heap.size := Nat.lt_of_lt_of_le hzr hb2.size
      obtain ⟨w3, hw3⟩ : ∃ w3, w3 = (((w2.setCell ⟨G, k * 3, none⟩ (.int .u64 I)).setCell ⟨G, k * 3 + 1, none⟩ (.int .i64 D)).setCell ⟨G, k * 3 + 2, none⟩ (.slice p2 m d2)) := ⟨_, rfl⟩
      have HIN : Hid (w3.ownsRow G 65 3 (.slice (some ⟨G, 0, none⟩) n n) n ((((L).set (k * 3) (.int .u64 I)).set (k * 3 + 1) (.int .i64 D)).set (k * 3 + 2) (.slice p2 m d2)) ∧ ∀ (j : Nat) (y : Ses), j < k + 1 → l[j]? = some y → ((((L).set (k * 3) (.int .u64 I)).set (k * 3 + 1) (.int .i64 D)).set (k * 3 + 2) (.slice p2 m d2))[j * 3]? = some (.int .u64 y.1) ∧ ((((L).set (k * 3) (.int .u64 I)).set (k * 3 + 1) (.int .i64 D)).set (k * 3 + 2) (.slice p2 m d2))[j * 3 + 1]? = some (.int .i64 y.2.1) ∧ ∃ v, ((((L).set (k * 3) (.int .u64 I)).set (k * 3 + 1) (.int .i64 D)).set (k * 3 + 2) (.slice p2 m d2))[j * 3 + 2]? = some v ∧ Ab (G + 1) w3 (fun u => RdEc u v y.2.2)) := by
        refine ⟨by rw [hw3]; exact (World.ownsRow.stored ((World.ownsRow.stored ((World.ownsRow.stored (ho2) (k * 3) _).1) (k * 3 + 1) _).1) (k * 3 + 2) _).1, fun j z hj hz => ?_⟩
        by_cases ej : j = k
        · rw [ej] at hz ⊢
          rw [hy] at hz
          cases hz
          refine ⟨by rw [List.getElem?_set_ne (by omega)]; rw [List.getElem?_set_ne (by omega)]; exact List.getElem?_set_self (by first | omega | (simp only [List.length_set]; omega)), by rw [List.getElem?_set_ne (by omega)]; exact List.getElem?_set_self (by first | omega | (simp only [List.length_set]; omega)), _, by  exact List.getElem?_set_self (by first | omega | (simp only [List.length_set]; omega)), ?_⟩
          exact (by rw [hw3]; exact Ab.set (Ab.set (Ab.set (Ab.mono hab (by omega)) (a := ⟨G, k * 3, none⟩) (by show G < _; omega) _) (a := ⟨G, k * 3 + 1, none⟩) (by show G < _; omega) _) (a := ⟨G, k * 3 + 2, none⟩) (by show G < _; omega) _)
        · obtain ⟨q1, q2, v, q3, q4⟩ := hL j z (by omega) hz
          refine ⟨(by rw [List.getElem?_set_ne (by omega)]; rw [List.getElem?_set_ne (by omega)]; rw [List.getElem?_set_ne (by omega)]; exact q1), (by rw [List.getElem?_set_ne (by omega)]; rw [List.getElem?_set_ne (by omega)]; rw [List.getElem?_set_ne (by omega)]; exact q2), v, (by rw [List.getElem?_set_ne (by omega)]; rw [List.getElem?_set_ne (by omega)]; rw [List.getElem?_set_ne (by omega)]; exact q3), ?_⟩
          exact (by rw [hw3]; exact Ab.set (Ab.set (Ab.set (q4.below hb2) (a := ⟨G, k * 3, none⟩) (by show G < _; omega) _) (a := ⟨G, k * 3 + 1, none⟩) (by show G < _; omega) _) (a := ⟨G, k * 3 + 2, none⟩) (by show G < _; omega) _)
      have bb : Below w.heap.size w w3 := by rw [hw3]; exact Below.setCell (Below.setCell (Below.setCell (b2) (p := ⟨G, k * 3, none⟩) hG1 _) (p := ⟨G, k * 3 + 1, none⟩) hG1 _) (p := ⟨G, k * 3 + 2, none⟩) hG1 _
      have zz3 : G < w3.heap.size := by rw [hw3]; simpa using hzz
      clear ho hL hin ho2 hab hlen hown hb b2 hb2 hbr
      go_wp2_with fail
      rw [← hw3]
      clear hw3 hc0 hc1 hc2 hf0 hf1 hf2 hcI hcD hcQ
      go_wp2
      go_roundw
      case rel => exact ⟨k + 1, _, by omega, by go_num, HIN, bb, zz3⟩
      case measure => simp [intOf]; omega
    · have hlt' : ¬ (k : Int) < (n : Int) := by omega
      have ekn : k = n := by omega
      subst ekn
      obtain ⟨ho, hL⟩ := unhide hin
      have hfin : Ab w.heap.size wr (fun u => RdSc u (.slice (some ⟨G, 0, none⟩) k k) l) := by
        intro u hu
        refine ⟨some ⟨G, 0, none⟩, k, by rw [unhide en], ?_⟩
        refine .inr ⟨G, 0, rfl, fun i y hy => ?_⟩
        have hil : i < k := by rw [← unhide en]; exact (List.getElem?_eq_some_iff.1 hy).1
        have hcc : ∀ j, j < k * 3 → u.cell? ⟨G, 0 + j, none⟩ = L[j]? := fun j hj => by
          rw [Nat.zero_add, cell_at_heap (hu G (by omega) hzr), ho.cellAt j hj]
        have hu' : ∀ q, G + 1 ≤ q → q < wr.heap.size → u.heap[q]? = wr.heap[q]? := fun q h1 h2 => hu q (by omega) h2
        obtain ⟨q1, q2, v, q3, q4⟩ := hL i y hil hy
        refine ⟨by rw [hcc _ (by omega)]; exact q1, by rw [Nat.add_assoc, hcc _ (by omega)]; exact q2, v, by rw [Nat.add_assoc, hcc _ (by omega)]; exact q3, q4 u hu'⟩
      clear ho hL hin hown hb
      go_wp2
      go_ret
      exact ⟨_, _, rfl, hfin, hbr⟩
end Go.Proofs.YtpbppdeleijhkaaGreatDoor
namespace Go.Proofs.YtpbppdeleijhkaaGreatDoor
open Go.ChangeShapes Go.WideShapes Go.ChangeAt Go.RowKit
set_option linter.unusedVariables false
set_option linter.unusedSimpArgs false
set_option maxRecDepth 100000

set_option maxHeartbeats 3200000 in
theorem toNode_ab (ow mo ep ge : Int) (pp pv ph pu : Option Addr) (a1 a2 a3 a4 n1 n2 n3 n4 : Nat) (P V H U : List Int) (e1 : Hid (P.length = n1)) (e2 : Hid (V.length = n2)) (e3 : Hid (H.length = n3)) (e4 : Hid (U.length = n4)) (w : World) (h1 : Rd w (.slice pp n1 a1) P) (h2 : Rd w (.slice pv n2 a2) V) (h3 : RdU w (.slice ph n3 a3) H) (h4 : RdU w (.slice pu n4 a4) U) (m1 : n1 ≤ 1048576) (m2 : n2 ≤ 1048576) (m3 : n3 ≤ 1048576) (m4 : n4 ≤ 1048576) :
    Calls Tryz.prog 107 #[.agg #[.slice pp n1 a1, .slice pv n2 a2, .int .u64 ow, .int .i64 mo, .slice ph n3 a3, .int .u64 ep, .int .u64 ge, .slice pu n4 a4]] w fun r w' => ∃ p0 d0 p1 d1 p4 d4 p7 d7, r = .returned (.agg #[.slice p0 n1 d0, .slice p1 n2 d1, .int .u64 ow, .int .i64 mo, .slice p4 n3 d4, .int .u64 ep, .int .u64 ge, .slice p7 n4 d7]) ∧ Ab w.heap.size w' (fun u => (Rd u (.slice p0 n1 d0) P ∧ CapOK (.slice p0 n1 d0)) ∧ (Rd u (.slice p1 n2 d1) V ∧ CapOK (.slice p1 n2 d1)) ∧ RdU u (.slice p4 n3 d4) H ∧ RdU u (.slice p7 n4 d7) U) ∧ Below w.heap.size w w' := by
  have R0 := hide fun (w' : World) (hb : Below w.heap.size w w') => h1.below hb
  have R1 := hide fun (w' : World) (hb : Below w.heap.size w w') => h2.below hb
  have R4 := hide fun (w' : World) (hb : Below w.heap.size w w') => h3.below hb
  have R7 := hide fun (w' : World) (hb : Below w.heap.size w w') => h4.below hb
  clear h1 h2 h3 h4
  go_enter Tryz.func107, Tryz.ntmps107
  go_wp2_with fail
  obtain ⟨W1, hW1⟩ : ∃ W, W = w.alloc (.cells #[.slice pp n1 a1, .slice pv n2 a2, .int .u64 ow, .int .i64 mo, .slice ph n3 a3, .int .u64 ep, .int .u64 ge, .slice pu n4 a4] 130) := ⟨_, rfl⟩
  obtain ⟨W2, hW2⟩ : ∃ W, W = W1.alloc (.cells #[.slice none 0 0, .slice none 0 0, .int .u64 0, .int .i64 0, .slice none 0 0, .int .u64 0, .int .u64 0, .slice none 0 0] 71) := ⟨_, rfl⟩
  obtain ⟨W, hW⟩ : ∃ W, W = W2.alloc (.cells #[.slice none 0 0, .slice none 0 0, .int .u64 0, .int .i64 0, .slice none 0 0, .int .u64 0, .int .u64 0, .slice none 0 0] 71) := ⟨_, rfl⟩
  have z1 : W1.heap.size = w.heap.size + 1 := by rw [hW1]; simp
  have z2 : W2.heap.size = w.heap.size + 2 := by rw [hW2]; simp; omega
  have zW : W.heap.size = w.heap.size + 3 := by rw [hW]; simp; omega
  have b1 : Below w.heap.size w W1 := by rw [hW1]; exact (Below.refl _ _).alloc (Nat.le_refl _) _
  have b2 : Below W1.heap.size W1 W2 := by rw [hW2]; exact (Below.refl _ _).alloc (Nat.le_refl _) _
  have b3 : Below W2.heap.size W2 W := by rw [hW]; exact (Below.refl _ _).alloc (Nat.le_refl _) _
  have bW : Below w.heap.size w W := Below.step (Below.step b1 b2) b3
  obtain ⟨A, eA⟩ : ∃ A, A = w.heap.size := ⟨_, rfl⟩
  obtain ⟨R, eR⟩ : ∃ R, R = A + 1 := ⟨_, rfl⟩
  obtain ⟨C, eC⟩ : ∃ C, C = R + 1 := ⟨_, rfl⟩
  have hA : CellsAre W A [.slice pp n1 a1, .slice pv n2 a2, .int .u64 ow, .int .i64 mo, .slice ph n3 a3, .int .u64 ep, .int .u64 ge, .slice pu n4 a4] := by
    have h0 : CellsAre W1 A [.slice pp n1 a1, .slice pv n2 a2, .int .u64 ow, .int .i64 mo, .slice ph n3 a3, .int .u64 ep, .int .u64 ge, .slice pu n4 a4] := by rw [hW1, eA]; exact CellsAre.alloc w #[.slice pp n1 a1, .slice pv n2 a2, .int .u64 ow, .int .i64 mo, .slice ph n3 a3, .int .u64 ep, .int .u64 ge, .slice pu n4 a4] _
    exact (h0.below (by omega) b2).below (by omega) b3
  have hR : CellsAre W R [.slice none 0 0, .slice none 0 0, .int .u64 0, .int .i64 0, .slice none 0 0, .int .u64 0, .int .u64 0, .slice none 0 0] := by
    have h0 : CellsAre W2 R [.slice none 0 0, .slice none 0 0, .int .u64 0, .int .i64 0, .slice none 0 0, .int .u64 0, .int .u64 0, .slice none 0 0] := by
      rw [hW2, show R = W1.heap.size by omega]; exact CellsAre.alloc W1 #[.slice none 0 0, .slice none 0 0, .int .u64 0, .int .i64 0, .slice none 0 0, .int .u64 0, .int .u64 0, .slice none 0 0] _
    exact h0.below (by omega) b3
  have hC : CellsAre W C [.slice none 0 0, .slice none 0 0, .int .u64 0, .int .i64 0, .slice none 0 0, .int .u64 0, .int .u64 0, .slice none 0 0] := by rw [hW, show C = W2.heap.size by omega]; exact CellsAre.alloc W2 #[.slice none 0 0, .slice none 0 0, .int .u64 0, .int .i64 0, .slice none 0 0, .int .u64 0, .int .u64 0, .slice none 0 0] _
  rw [← hW1, ← hW2, ← hW, ← eA, ← eR, ← eC]
  have HE := hide (And.intro eA (And.intro eR (And.intro eC zW)))
  have BW := hide bW
  have HA := hide hA
  have HRR := hide hR
  have HC := hide hC
  clear hW hW1 hW2 eA eR eC zW bW z1 z2 b1 b2 b3 hA hR hC
  refine (toByteS_ab pp a1 n1 P e1 _ (unhide R0 _ (unhide BW)) m1).mono ?_
  rintro r w0 ⟨p0, d0, rfl, ab0, hb0⟩
  have ZS0 : Hid (W.heap.size ≤ W.heap.size ∧ W.heap.size ≤ w0.heap.size) := ⟨Nat.le_refl _, hb0.size⟩
  have HA_0 := hide ((unhide HA).below (by obtain ⟨eA, eR, eC, zW⟩ := unhide HE; have := unhide ZS0; omega) hb0)
  have HRR_0 := hide ((unhide HRR).below (by obtain ⟨eA, eR, eC, zW⟩ := unhide HE; have := unhide ZS0; omega) hb0)
  have HC_0 := hide ((unhide HC).below (by obtain ⟨eA, eR, eC, zW⟩ := unhide HE; have := unhide ZS0; omega) hb0)
  have B0 := hide (Below.step (unhide BW) hb0)
  have AB0_0 := hide (Ab.mono (B := W.heap.size) ab0 (unhide ZS0).1)
  clear ab0 hb0
  have ca0 := (unhide HA_0).1 0 _ rfl
  have ca1 := (unhide HA_0).1 1 _ rfl
  have ca2 := (unhide HA_0).1 2 _ rfl
  have ca3 := (unhide HA_0).1 3 _ rfl
  have ca4 := (unhide HA_0).1 4 _ rfl
  have ca5 := (unhide HA_0).1 5 _ rfl
  have ca6 := (unhide HA_0).1 6 _ rfl
  have ca7 := (unhide HA_0).1 7 _ rfl
  have cc0 := (unhide HC_0).1 0 _ rfl
  have cc1 := (unhide HC_0).1 1 _ rfl
  have cc2 := (unhide HC_0).1 2 _ rfl
  have cc3 := (unhide HC_0).1 3 _ rfl
  have cc4 := (unhide HC_0).1 4 _ rfl
  have cc5 := (unhide HC_0).1 5 _ rfl
  have cc6 := (unhide HC_0).1 6 _ rfl
  have cc7 := (unhide HC_0).1 7 _ rfl
  have fC := (unhide HC_0).2
  have hAC : ¬ C = A := by obtain ⟨eA, eR, eC, zW⟩ := unhide HE; omega
  go_wp2_with fail
  clear ca0 ca1 ca2 ca3 ca4 ca5 ca6 ca7 cc0 cc1 cc2 cc3 cc4 cc5 cc6 cc7 fC hAC
  obtain ⟨X0, hX0⟩ : ∃ X, X = (w0.setCell ⟨C, 0, none⟩ (.slice p0 n1 d0)) := ⟨_, rfl⟩
  have HAx0 : Hid (CellsAre X0 A [.slice pp n1 a1, .slice pv n2 a2, .int .u64 ow, .int .i64 mo, .slice ph n3 a3, .int .u64 ep, .int .u64 ge, .slice pu n4 a4]) := by show CellsAre _ _ _; rw [hX0]; exact CellsAre.far (unhide HA_0) (a := ⟨C, 0, none⟩) (by obtain ⟨eA, eR, eC, zW⟩ := unhide HE; simp; omega) _
  have HRRx0 : Hid (CellsAre X0 R [.slice none 0 0, .slice none 0 0, .int .u64 0, .int .i64 0, .slice none 0 0, .int .u64 0, .int .u64 0, .slice none 0 0]) := by show CellsAre _ _ _; rw [hX0]; exact CellsAre.far (unhide HRR_0) (a := ⟨C, 0, none⟩) (by obtain ⟨eA, eR, eC, zW⟩ := unhide HE; simp; omega) _
  have HCx0 : Hid (CellsAre X0 C [.slice p0 n1 d0, .slice none 0 0, .int .u64 0, .int .i64 0, .slice none 0 0, .int .u64 0, .int .u64 0, .slice none 0 0]) := by show CellsAre _ _ _; rw [hX0]; exact CellsAre.near (unhide HC_0) 0 (by simp) (.slice p0 n1 d0)
  have BX0 : Hid (Below w.heap.size w X0) := by show Below _ _ _; rw [hX0]; exact Below.setCell (unhide B0) (p := ⟨C, 0, none⟩) (by obtain ⟨eA, eR, eC, zW⟩ := unhide HE; simp; omega) _
  have ABx0_0 : Hid (Ab W.heap.size X0 (fun u => (Rd u (.slice p0 n1 d0) P ∧ CapOK (.slice p0 n1 d0)))) := by show Ab _ _ _; rw [hX0]; exact Ab.set (unhide AB0_0) (a := ⟨C, 0, none⟩) (by obtain ⟨eA, eR, eC, zW⟩ := unhide HE; simp; omega) _
  have ZZX0 : Hid (W.heap.size ≤ X0.heap.size) := by show _ ≤ _; rw [hX0]; simp; have := unhide ZS0; omega
  rw [← hX0]
  clear hX0
  refine (toByteS_ab pv a2 n2 V e2 _ (unhide R1 _ (unhide BX0)) m2).mono ?_
  rintro r w1 ⟨p1, d1, rfl, ab1, hb1⟩
  have ZS1 : Hid (W.heap.size ≤ X0.heap.size ∧ X0.heap.size ≤ w1.heap.size) := ⟨(unhide ZZX0), hb1.size⟩
  have HA_1 := hide ((unhide HAx0).below (by obtain ⟨eA, eR, eC, zW⟩ := unhide HE; have := unhide ZS1; omega) hb1)
  have HRR_1 := hide ((unhide HRRx0).below (by obtain ⟨eA, eR, eC, zW⟩ := unhide HE; have := unhide ZS1; omega) hb1)
  have HC_1 := hide ((unhide HCx0).below (by obtain ⟨eA, eR, eC, zW⟩ := unhide HE; have := unhide ZS1; omega) hb1)
  have B1 := hide (Below.step (unhide BX0) hb1)
  have AB1_1 := hide (Ab.mono (B := W.heap.size) ab1 (unhide ZS1).1)
  have AB0_1 := hide ((unhide ABx0_0).below hb1)
  clear ab1 hb1
  have ca0 := (unhide HA_1).1 0 _ rfl
  have ca1 := (unhide HA_1).1 1 _ rfl
  have ca2 := (unhide HA_1).1 2 _ rfl
  have ca3 := (unhide HA_1).1 3 _ rfl
  have ca4 := (unhide HA_1).1 4 _ rfl
  have ca5 := (unhide HA_1).1 5 _ rfl
  have ca6 := (unhide HA_1).1 6 _ rfl
  have ca7 := (unhide HA_1).1 7 _ rfl
  have cc0 := (unhide HC_1).1 0 _ rfl
  have cc1 := (unhide HC_1).1 1 _ rfl
  have cc2 := (unhide HC_1).1 2 _ rfl
  have cc3 := (unhide HC_1).1 3 _ rfl
  have cc4 := (unhide HC_1).1 4 _ rfl
  have cc5 := (unhide HC_1).1 5 _ rfl
  have cc6 := (unhide HC_1).1 6 _ rfl
  have cc7 := (unhide HC_1).1 7 _ rfl
  have fC := (unhide HC_1).2
  have hAC : ¬ C = A := by obtain ⟨eA, eR, eC, zW⟩ := unhide HE; omega
  go_wp2_with fail
  clear ca0 ca1 ca2 ca3 ca4 ca5 ca6 ca7 cc0 cc1 cc2 cc3 cc4 cc5 cc6 cc7 fC hAC
  obtain ⟨X1, hX1⟩ : ∃ X, X = (((w1.setCell ⟨C, 1, none⟩ (.slice p1 n2 d1)).setCell ⟨C, 2, none⟩ (.int .u64 ow)).setCell ⟨C, 3, none⟩ (.int .i64 mo)) := ⟨_, rfl⟩
  have HAx1 : Hid (CellsAre X1 A [.slice pp n1 a1, .slice pv n2 a2, .int .u64 ow, .int .i64 mo, .slice ph n3 a3, .int .u64 ep, .int .u64 ge, .slice pu n4 a4]) := by show CellsAre _ _ _; rw [hX1]; exact CellsAre.far (CellsAre.far (CellsAre.far (unhide HA_1) (a := ⟨C, 1, none⟩) (by obtain ⟨eA, eR, eC, zW⟩ := unhide HE; simp; omega) _) (a := ⟨C, 2, none⟩) (by obtain ⟨eA, eR, eC, zW⟩ := unhide HE; simp; omega) _) (a := ⟨C, 3, none⟩) (by obtain ⟨eA, eR, eC, zW⟩ := unhide HE; simp; omega) _
  have HRRx1 : Hid (CellsAre X1 R [.slice none 0 0, .slice none 0 0, .int .u64 0, .int .i64 0, .slice none 0 0, .int .u64 0, .int .u64 0, .slice none 0 0]) := by show CellsAre _ _ _; rw [hX1]; exact CellsAre.far (CellsAre.far (CellsAre.far (unhide HRR_1) (a := ⟨C, 1, none⟩) (by obtain ⟨eA, eR, eC, zW⟩ := unhide HE; simp; omega) _) (a := ⟨C, 2, none⟩) (by obtain ⟨eA, eR, eC, zW⟩ := unhide HE; simp; omega) _) (a := ⟨C, 3, none⟩) (by obtain ⟨eA, eR, eC, zW⟩ := unhide HE; simp; omega) _
  have HCx1 : Hid (CellsAre X1 C [.slice p0 n1 d0, .slice p1 n2 d1, .int .u64 ow, .int .i64 mo, .slice none 0 0, .int .u64 0, .int .u64 0, .slice none 0 0]) := by show CellsAre _ _ _; rw [hX1]; exact CellsAre.near (CellsAre.near (CellsAre.near (unhide HC_1) 1 (by simp) (.slice p1 n2 d1)) 2 (by simp) (.int .u64 ow)) 3 (by simp) (.int .i64 mo)
  have BX1 : Hid (Below w.heap.size w X1) := by show Below _ _ _; rw [hX1]; exact Below.setCell (Below.setCell (Below.setCell (unhide B1) (p := ⟨C, 1, none⟩) (by obtain ⟨eA, eR, eC, zW⟩ := unhide HE; simp; omega) _) (p := ⟨C, 2, none⟩) (by obtain ⟨eA, eR, eC, zW⟩ := unhide HE; simp; omega) _) (p := ⟨C, 3, none⟩) (by obtain ⟨eA, eR, eC, zW⟩ := unhide HE; simp; omega) _
  have ABx0_1 : Hid (Ab W.heap.size X1 (fun u => (Rd u (.slice p0 n1 d0) P ∧ CapOK (.slice p0 n1 d0)))) := by show Ab _ _ _; rw [hX1]; exact Ab.set (Ab.set (Ab.set (unhide AB0_1) (a := ⟨C, 1, none⟩) (by obtain ⟨eA, eR, eC, zW⟩ := unhide HE; simp; omega) _) (a := ⟨C, 2, none⟩) (by obtain ⟨eA, eR, eC, zW⟩ := unhide HE; simp; omega) _) (a := ⟨C, 3, none⟩) (by obtain ⟨eA, eR, eC, zW⟩ := unhide HE; simp; omega) _
  have ABx1_1 : Hid (Ab W.heap.size X1 (fun u => (Rd u (.slice p1 n2 d1) V ∧ CapOK (.slice p1 n2 d1)))) := by show Ab _ _ _; rw [hX1]; exact Ab.set (Ab.set (Ab.set (unhide AB1_1) (a := ⟨C, 1, none⟩) (by obtain ⟨eA, eR, eC, zW⟩ := unhide HE; simp; omega) _) (a := ⟨C, 2, none⟩) (by obtain ⟨eA, eR, eC, zW⟩ := unhide HE; simp; omega) _) (a := ⟨C, 3, none⟩) (by obtain ⟨eA, eR, eC, zW⟩ := unhide HE; simp; omega) _
  have ZZX1 : Hid (W.heap.size ≤ X1.heap.size) := by show _ ≤ _; rw [hX1]; simp; have := unhide ZS1; omega
  rw [← hX1]
  clear hX1
  refine (toUint64S_ab ph a3 n3 H e3 _ (unhide R4 _ (unhide BX1)) m3).mono ?_
  rintro r w4 ⟨p4, d4, rfl, ab4, hb4⟩
  have ZS4 : Hid (W.heap.size ≤ X1.heap.size ∧ X1.heap.size ≤ w4.heap.size) := ⟨(unhide ZZX1), hb4.size⟩
  have HA_4 := hide ((unhide HAx1).below (by obtain ⟨eA, eR, eC, zW⟩ := unhide HE; have := unhide ZS4; omega) hb4)
  have HRR_4 := hide ((unhide HRRx1).below (by obtain ⟨eA, eR, eC, zW⟩ := unhide HE; have := unhide ZS4; omega) hb4)
  have HC_4 := hide ((unhide HCx1).below (by obtain ⟨eA, eR, eC, zW⟩ := unhide HE; have := unhide ZS4; omega) hb4)
  have B4 := hide (Below.step (unhide BX1) hb4)
  have AB4_4 := hide (Ab.mono (B := W.heap.size) ab4 (unhide ZS4).1)
  have AB0_4 := hide ((unhide ABx0_1).below hb4)
  have AB1_4 := hide ((unhide ABx1_1).below hb4)
  clear ab4 hb4
  have ca0 := (unhide HA_4).1 0 _ rfl
  have ca1 := (unhide HA_4).1 1 _ rfl
  have ca2 := (unhide HA_4).1 2 _ rfl
  have ca3 := (unhide HA_4).1 3 _ rfl
  have ca4 := (unhide HA_4).1 4 _ rfl
  have ca5 := (unhide HA_4).1 5 _ rfl
  have ca6 := (unhide HA_4).1 6 _ rfl
  have ca7 := (unhide HA_4).1 7 _ rfl
  have cc0 := (unhide HC_4).1 0 _ rfl
  have cc1 := (unhide HC_4).1 1 _ rfl
  have cc2 := (unhide HC_4).1 2 _ rfl
  have cc3 := (unhide HC_4).1 3 _ rfl
  have cc4 := (unhide HC_4).1 4 _ rfl
  have cc5 := (unhide HC_4).1 5 _ rfl
  have cc6 := (unhide HC_4).1 6 _ rfl
  have cc7 := (unhide HC_4).1 7 _ rfl
  have fC := (unhide HC_4).2
  have hAC : ¬ C = A := by obtain ⟨eA, eR, eC, zW⟩ := unhide HE; omega
  go_wp2_with fail
  clear ca0 ca1 ca2 ca3 ca4 ca5 ca6 ca7 cc0 cc1 cc2 cc3 cc4 cc5 cc6 cc7 fC hAC
  obtain ⟨X4, hX4⟩ : ∃ X, X = (((w4.setCell ⟨C, 4, none⟩ (.slice p4 n3 d4)).setCell ⟨C, 5, none⟩ (.int .u64 ep)).setCell ⟨C, 6, none⟩ (.int .u64 ge)) := ⟨_, rfl⟩
  have HAx4 : Hid (CellsAre X4 A [.slice pp n1 a1, .slice pv n2 a2, .int .u64 ow, .int .i64 mo, .slice ph n3 a3, .int .u64 ep, .int .u64 ge, .slice pu n4 a4]) := by show CellsAre _ _ _; rw [hX4]; exact CellsAre.far (CellsAre.far (CellsAre.far (unhide HA_4) (a := ⟨C, 4, none⟩) (by obtain ⟨eA, eR, eC, zW⟩ := unhide HE; simp; omega) _) (a := ⟨C, 5, none⟩) (by obtain ⟨eA, eR, eC, zW⟩ := unhide HE; simp; omega) _) (a := ⟨C, 6, none⟩) (by obtain ⟨eA, eR, eC, zW⟩ := unhide HE; simp; omega) _
  have HRRx4 : Hid (CellsAre X4 R [.slice none 0 0, .slice none 0 0, .int .u64 0, .int .i64 0, .slice none 0 0, .int .u64 0, .int .u64 0, .slice none 0 0]) := by show CellsAre _ _ _; rw [hX4]; exact CellsAre.far (CellsAre.far (CellsAre.far (unhide HRR_4) (a := ⟨C, 4, none⟩) (by obtain ⟨eA, eR, eC, zW⟩ := unhide HE; simp; omega) _) (a := ⟨C, 5, none⟩) (by obtain ⟨eA, eR, eC, zW⟩ := unhide HE; simp; omega) _) (a := ⟨C, 6, none⟩) (by obtain ⟨eA, eR, eC, zW⟩ := unhide HE; simp; omega) _
  have HCx4 : Hid (CellsAre X4 C [.slice p0 n1 d0, .slice p1 n2 d1, .int .u64 ow, .int .i64 mo, .slice p4 n3 d4, .int .u64 ep, .int .u64 ge, .slice none 0 0]) := by show CellsAre _ _ _; rw [hX4]; exact CellsAre.near (CellsAre.near (CellsAre.near (unhide HC_4) 4 (by simp) (.slice p4 n3 d4)) 5 (by simp) (.int .u64 ep)) 6 (by simp) (.int .u64 ge)
  have BX4 : Hid (Below w.heap.size w X4) := by show Below _ _ _; rw [hX4]; exact Below.setCell (Below.setCell (Below.setCell (unhide B4) (p := ⟨C, 4, none⟩) (by obtain ⟨eA, eR, eC, zW⟩ := unhide HE; simp; omega) _) (p := ⟨C, 5, none⟩) (by obtain ⟨eA, eR, eC, zW⟩ := unhide HE; simp; omega) _) (p := ⟨C, 6, none⟩) (by obtain ⟨eA, eR, eC, zW⟩ := unhide HE; simp; omega) _
  have ABx0_4 : Hid (Ab W.heap.size X4 (fun u => (Rd u (.slice p0 n1 d0) P ∧ CapOK (.slice p0 n1 d0)))) := by show Ab _ _ _; rw [hX4]; exact Ab.set (Ab.set (Ab.set (unhide AB0_4) (a := ⟨C, 4, none⟩) (by obtain ⟨eA, eR, eC, zW⟩ := unhide HE; simp; omega) _) (a := ⟨C, 5, none⟩) (by obtain ⟨eA, eR, eC, zW⟩ := unhide HE; simp; omega) _) (a := ⟨C, 6, none⟩) (by obtain ⟨eA, eR, eC, zW⟩ := unhide HE; simp; omega) _
  have ABx1_4 : Hid (Ab W.heap.size X4 (fun u => (Rd u (.slice p1 n2 d1) V ∧ CapOK (.slice p1 n2 d1)))) := by show Ab _ _ _; rw [hX4]; exact Ab.set (Ab.set (Ab.set (unhide AB1_4) (a := ⟨C, 4, none⟩) (by obtain ⟨eA, eR, eC, zW⟩ := unhide HE; simp; omega) _) (a := ⟨C, 5, none⟩) (by obtain ⟨eA, eR, eC, zW⟩ := unhide HE; simp; omega) _) (a := ⟨C, 6, none⟩) (by obtain ⟨eA, eR, eC, zW⟩ := unhide HE; simp; omega) _
  have ABx4_4 : Hid (Ab W.heap.size X4 (fun u => RdU u (.slice p4 n3 d4) H)) := by show Ab _ _ _; rw [hX4]; exact Ab.set (Ab.set (Ab.set (unhide AB4_4) (a := ⟨C, 4, none⟩) (by obtain ⟨eA, eR, eC, zW⟩ := unhide HE; simp; omega) _) (a := ⟨C, 5, none⟩) (by obtain ⟨eA, eR, eC, zW⟩ := unhide HE; simp; omega) _) (a := ⟨C, 6, none⟩) (by obtain ⟨eA, eR, eC, zW⟩ := unhide HE; simp; omega) _
  have ZZX4 : Hid (W.heap.size ≤ X4.heap.size) := by show _ ≤ _; rw [hX4]; simp; have := unhide ZS4; omega
  rw [← hX4]
  clear hX4
  refine (toUint64S_ab pu a4 n4 U e4 _ (unhide R7 _ (unhide BX4)) m4).mono ?_
  rintro r w7 ⟨p7, d7, rfl, ab7, hb7⟩
  have ZS7 : Hid (W.heap.size ≤ X4.heap.size ∧ X4.heap.size ≤ w7.heap.size) := ⟨(unhide ZZX4), hb7.size⟩
  have HA_7 := hide ((unhide HAx4).below (by obtain ⟨eA, eR, eC, zW⟩ := unhide HE; have := unhide ZS7; omega) hb7)
  have HRR_7 := hide ((unhide HRRx4).below (by obtain ⟨eA, eR, eC, zW⟩ := unhide HE; have := unhide ZS7; omega) hb7)
  have HC_7 := hide ((unhide HCx4).below (by obtain ⟨eA, eR, eC, zW⟩ := unhide HE; have := unhide ZS7; omega) hb7)
  have B7 := hide (Below.step (unhide BX4) hb7)
  have AB7_7 := hide (Ab.mono (B := W.heap.size) ab7 (unhide ZS7).1)
  have AB0_7 := hide ((unhide ABx0_4).below hb7)
  have AB1_7 := hide ((unhide ABx1_4).below hb7)
  have AB4_7 := hide ((unhide ABx4_4).below hb7)
  clear ab7 hb7
  have ca0 := (unhide HA_7).1 0 _ rfl
  have ca1 := (unhide HA_7).1 1 _ rfl
  have ca2 := (unhide HA_7).1 2 _ rfl
  have ca3 := (unhide HA_7).1 3 _ rfl
  have ca4 := (unhide HA_7).1 4 _ rfl
  have ca5 := (unhide HA_7).1 5 _ rfl
  have ca6 := (unhide HA_7).1 6 _ rfl
  have ca7 := (unhide HA_7).1 7 _ rfl
  have cc0 := (unhide HC_7).1 0 _ rfl
  have cc1 := (unhide HC_7).1 1 _ rfl
  have cc2 := (unhide HC_7).1 2 _ rfl
  have cc3 := (unhide HC_7).1 3 _ rfl
  have cc4 := (unhide HC_7).1 4 _ rfl
  have cc5 := (unhide HC_7).1 5 _ rfl
  have cc6 := (unhide HC_7).1 6 _ rfl
  have cc7 := (unhide HC_7).1 7 _ rfl
  have fC := (unhide HC_7).2
  have hAC : ¬ C = A := by obtain ⟨eA, eR, eC, zW⟩ := unhide HE; omega
  have cr0 := (unhide HRR_7).1 0 _ rfl
  have cr1 := (unhide HRR_7).1 1 _ rfl
  have cr2 := (unhide HRR_7).1 2 _ rfl
  have cr3 := (unhide HRR_7).1 3 _ rfl
  have cr4 := (unhide HRR_7).1 4 _ rfl
  have cr5 := (unhide HRR_7).1 5 _ rfl
  have cr6 := (unhide HRR_7).1 6 _ rfl
  have cr7 := (unhide HRR_7).1 7 _ rfl
  have fR := (unhide HRR_7).2
  have hAR : ¬ R = A := by obtain ⟨eA, eR, eC, zW⟩ := unhide HE; omega
  have hRC : ¬ R = C := by obtain ⟨eA, eR, eC, zW⟩ := unhide HE; omega
  have hCR : ¬ C = R := by obtain ⟨eA, eR, eC, zW⟩ := unhide HE; omega
  go_wp2
  obtain ⟨eA, eR, eC, zW⟩ := unhide HE
  have zz := unhide ZS7
  refine bodyPost_ret (v := .agg #[.slice p0 n1 d0, .slice p1 n2 d1, .int .u64 ow, .int .i64 mo, .slice p4 n3 d4, .int .u64 ep, .int .u64 ge, .slice p7 n4 d7]) (by simp [results, Tryz.results107, go_sem, cc0, cc1, cc2, cc3, cc4, cc5, cc6, cc7, cr0, cr1, cr2, cr3, cr4, cr5, cr6, cr7, hAC, hAR, hRC, hCR]) rfl ⟨p0, d0, p1, d1, p4, d4, p7, d7, rfl, Ab.mono (B := w.heap.size) (B' := W.heap.size) ?_ (by omega), ?_⟩
  · iterate 9 (refine Ab.set ?_ (by simp; omega) _)
    exact (unhide AB0_7).and ((unhide AB1_7).and ((unhide AB4_7).and (unhide AB7_7)))
  · iterate 9 (refine Below.setCell ?_ (by simp; omega) _)
    exact unhide B7
end Go.Proofs.YtpbppdeleijhkaaGreatDoor
namespace Go.Proofs.YtpbppdeleijhkaaGreatDoor
open Go.ChangeShapes Go.WideShapes Go.ChangeAt Go.RowKit
set_option linter.unusedVariables false
set_option linter.unusedSimpArgs false
set_option maxRecDepth 100000

set_option maxHeartbeats 3200000 in
theorem toNodeS_ab (p : Option Addr) (c n : Nat) (l : List Nod) (en : Hid (l.length = n)) (w : World) (h : RdN w (.slice p n c) l) (hn : n ≤ 1048576) (hel : Hid (∀ y ∈ l, y.path.length ≤ 1048576 ∧ y.value.length ≤ 1048576 ∧ y.holders.length ≤ 1048576 ∧ y.watchers.length ≤ 1048576)) :
    Calls Tryz.prog 63 #[.slice p n c] w fun e w' => ∃ p' c', e = .returned (.slice p' n c') ∧ Ab w.heap.size w' (fun u => RdN u (.slice p' n c') l) ∧ Below w.heap.size w w' := by
  obtain ⟨i, hi, hz0, hz1, hz2⟩ := info_parts Tryz.infoNod
  have HR := hide fun (w' : World) (hb : Below w.heap.size w w') => h.below hb
  clear h
  go_enter Tryz.func63, Tryz.ntmps63
  go_wp2_with (first | (at_make; refine wpList_make_full _ rfl _ _ 25 rfl w.heap.size 71 i _ 8 Tryz.underlying25 hi hz0 hz1 _ _ _ _ n rfl rfl rfl rfl ?b2 ?b3 ?b4 ?_))
  case b2 => rw [hz2]; omega
  case b3 => unfold maxLen; omega
  case b4 => exact Nat.le_refl _
  intro w1 hown hg
  have hb := grown_below hg
  obtain ⟨G, eG⟩ : ∃ G, G = w.heap.size := ⟨_, rfl⟩
  rw [← eG] at hown ⊢
  have zG : G < w1.heap.size := (World.ownsRow.lt hown G rfl).2
  have hG1 : w.heap.size ≤ G := by omega
  have hG2 : G ≤ w.heap.size := by omega
  clear hg eG
  go_wp2_with fail
  go_loopw [4] (fun iv wr => ∃ (k : Nat) (L : List Value), k ≤ n ∧ iv = .int .i64 k ∧ Hid (wr.ownsRow G 71 8 (.slice (some ⟨G, 0, none⟩) n n) n L ∧ ∀ (j : Nat) (y : Nod), j < k → l[j]? = some y → ∃ P V H U, L[j * 8]? = some (P) ∧ L[j * 8 + 1]? = some (V) ∧ L[j * 8 + 2]? = some (.int .u64 y.owner) ∧ L[j * 8 + 3]? = some (.int .i64 y.mode) ∧ L[j * 8 + 4]? = some (H) ∧ L[j * 8 + 5]? = some (.int .u64 y.epoch) ∧ L[j * 8 + 6]? = some (.int .u64 y.gen) ∧ L[j * 8 + 7]? = some (U) ∧ Ab (G + 1) wr (fun u => (Rd u P y.path ∧ CapOK P) ∧ (Rd u V y.value ∧ CapOK V) ∧ RdU u H y.holders ∧ RdU u U y.watchers)) ∧ Below w.heap.size w wr ∧ G < wr.heap.size) (fun iv _ => n - (intOf iv).toNat)
  case atStart => exact ⟨0, _, Nat.zero_le _, rfl, ⟨hown, fun j y hj => by omega⟩, hb, zG⟩
  case round =>
    obtain ⟨k, L, hk, rfl, hin, hbr, hzr⟩ := hrel
    by_cases hlt : k < n
    · have hlt' : (k : Int) < (n : Int) := by omega
      have hkl : k < l.length := by rw [unhide en]; exact hlt
      obtain ⟨y, hy⟩ : ∃ y, l[k]? = some y := ⟨_, List.getElem?_eq_getElem hkl⟩
      have hby := unhide hel y (List.mem_of_getElem? hy)
      obtain ⟨b, o, rfl, hA⟩ := (unhide HR _ hbr).at (by omega)
      obtain ⟨P1, V1, H1, U1, na⟩ := hA k y hy
      obtain ⟨pp, a1, n1, rfl, e1⟩ := na.r0.slc
      obtain ⟨pv, a2, n2, rfl, e2⟩ := na.r1.slc
      obtain ⟨ph, a3, n3, rfl, e3⟩ := na.r4.slc
      obtain ⟨pu, a4, n4, rfl, e4⟩ := na.r7.slc
      have m1 : n1 ≤ 1048576 := by rw [← unhide e1]; exact hby.1
      have m2 : n2 ≤ 1048576 := by rw [← unhide e2]; exact hby.2.1
      have m3 : n3 ≤ 1048576 := by rw [← unhide e3]; exact hby.2.2.1
      have m4 : n4 ≤ 1048576 := by rw [← unhide e4]; exact hby.2.2.2
      have HA := hide (And.intro na.r0 (And.intro na.r1 (And.intro na.r4 na.r7)))
      obtain ⟨z0, z1, z2, z3, z4, z5, z6, z7, -, -, -, -, -⟩ := na
      obtain ⟨ow, mo, ep, ge, g1, g2, g3, g4⟩ : ∃ a b c d, y.owner = a ∧ y.mode = b ∧ y.epoch = c ∧ y.gen = d := ⟨_, _, _, _, rfl, rfl, rfl, rfl⟩
      rw [g1] at z2
      rw [g2] at z3
      rw [g3] at z5
      rw [g4] at z6
      clear hA
      clear hkl hby
      go_wp2_with fail
      refine (toNode_ab ow mo ep ge pp pv ph pu a1 a2 a3 a4 n1 n2 n3 n4 y.path y.value y.holders y.watchers e1 e2 e3 e4 _ (unhide HA).1 (unhide HA).2.1 (unhide HA).2.2.1 (unhide HA).2.2.2 m1 m2 m3 m4).mono ?_
      rintro r w2 ⟨p0, d0, p1, d1, p4, d4, p7, d7, rfl, hab, hb2⟩
      have b2 := Below.step hbr hb2
      obtain ⟨ho, hL⟩ := unhide hin
      have ho2 := ho.kept (grown_of_b hb2) (by right; simp [Value.ownBlock])
      have hlen : L.length = n * 8 := ho.1
      obtain ⟨u0, hc0⟩ : ∃ u, w2.cell? ⟨G, k * 8, none⟩ = some u := by
        rw [ho2.cellAt (k * 8) (by omega)]
        exact ⟨_, List.getElem?_eq_getElem (by omega)⟩
      have hf0 := ho2.frozenAt (k * 8)
      obtain ⟨u1, hc1⟩ : ∃ u, w2.cell? ⟨G, k * 8 + 1, none⟩ = some u := by
        rw [ho2.cellAt (k * 8 + 1) (by omega)]
        exact ⟨_, List.getElem?_eq_getElem (by omega)⟩
      have hf1 := ho2.frozenAt (k * 8 + 1)
      obtain ⟨u2, hc2⟩ : ∃ u, w2.cell? ⟨G, k * 8 + 2, none⟩ = some u := by
        rw [ho2.cellAt (k * 8 + 2) (by omega)]
        exact ⟨_, List.getElem?_eq_getElem (by omega)⟩
      have hf2 := ho2.frozenAt (k * 8 + 2)
      obtain ⟨u3, hc3⟩ : ∃ u, w2.cell? ⟨G, k * 8 + 3, none⟩ = some u := by
        rw [ho2.cellAt (k * 8 + 3) (by omega)]
        exact ⟨_, List.getElem?_eq_getElem (by omega)⟩
      have hf3 := ho2.frozenAt (k * 8 + 3)
      obtain ⟨u4, hc4⟩ : ∃ u, w2.cell? ⟨G, k * 8 + 4, none⟩ = some u := by
        rw [ho2.cellAt (k * 8 + 4) (by omega)]
        exact ⟨_, List.getElem?_eq_getElem (by omega)⟩
      have hf4 := ho2.frozenAt (k * 8 + 4)
      obtain ⟨u5, hc5⟩ : ∃ u, w2.cell? ⟨G, k * 8 + 5, none⟩ = some u := by
        rw [ho2.cellAt (k * 8 + 5) (by omega)]
        exact ⟨_, List.getElem?_eq_getElem (by omega)⟩
      have hf5 := ho2.frozenAt (k * 8 + 5)
      obtain ⟨u6, hc6⟩ : ∃ u, w2.cell? ⟨G, k * 8 + 6, none⟩ = some u := by
        rw [ho2.cellAt (k * 8 + 6) (by omega)]
        exact ⟨_, List.getElem?_eq_getElem (by omega)⟩
      have hf6 := ho2.frozenAt (k * 8 + 6)
      obtain ⟨u7, hc7⟩ : ∃ u, w2.cell? ⟨G, k * 8 + 7, none⟩ = some u := by
        rw [ho2.cellAt (k * 8 + 7) (by omega)]
        exact ⟨_, List.getElem?_eq_getElem (by omega)⟩
      have hf7 := ho2.frozenAt (k * 8 + 7)
      have hzz : G < w2.heap.size := Nat.lt_of_lt_of_le hzr hb2.size
      obtain ⟨w3, hw3⟩ : ∃ w3, w3 = ((((((((w2.setCell ⟨G, k * 8, none⟩ (.slice p0 n1 d0)).setCell ⟨G, k * 8 + 1, none⟩ (.slice p1 n2 d1)).setCell ⟨G, k * 8 + 2, none⟩ (.int .u64 ow)).setCell ⟨G, k * 8 + 3, none⟩ (.int .i64 mo)).setCell ⟨G, k * 8 + 4, none⟩ (.slice p4 n3 d4)).setCell ⟨G, k * 8 + 5, none⟩ (.int .u64 ep)).setCell ⟨G, k * 8 + 6, none⟩ (.int .u64 ge)).setCell ⟨G, k * 8 + 7, none⟩ (.slice p7 n4 d7)) := ⟨_, rfl⟩
      have HIN : Hid (w3.ownsRow G 71 8 (.slice (some ⟨G, 0, none⟩) n n) n (((((((((L).set (k * 8) (.slice p0 n1 d0)).set (k * 8 + 1) (.slice p1 n2 d1)).set (k * 8 + 2) (.int .u64 ow)).set (k * 8 + 3) (.int .i64 mo)).set (k * 8 + 4) (.slice p4 n3 d4)).set (k * 8 + 5) (.int .u64 ep)).set (k * 8 + 6) (.int .u64 ge)).set (k * 8 + 7) (.slice p7 n4 d7)) ∧ ∀ (j : Nat) (y : Nod), j < k + 1 → l[j]? = some y → ∃ P V H U, (((((((((L).set (k * 8) (.slice p0 n1 d0)).set (k * 8 + 1) (.slice p1 n2 d1)).set (k * 8 + 2) (.int .u64 ow)).set (k * 8 + 3) (.int .i64 mo)).set (k * 8 + 4) (.slice p4 n3 d4)).set (k * 8 + 5) (.int .u64 ep)).set (k * 8 + 6) (.int .u64 ge)).set (k * 8 + 7) (.slice p7 n4 d7))[j * 8]? = some (P) ∧ (((((((((L).set (k * 8) (.slice p0 n1 d0)).set (k * 8 + 1) (.slice p1 n2 d1)).set (k * 8 + 2) (.int .u64 ow)).set (k * 8 + 3) (.int .i64 mo)).set (k * 8 + 4) (.slice p4 n3 d4)).set (k * 8 + 5) (.int .u64 ep)).set (k * 8 + 6) (.int .u64 ge)).set (k * 8 + 7) (.slice p7 n4 d7))[j * 8 + 1]? = some (V) ∧ (((((((((L).set (k * 8) (.slice p0 n1 d0)).set (k * 8 + 1) (.slice p1 n2 d1)).set (k * 8 + 2) (.int .u64 ow)).set (k * 8 + 3) (.int .i64 mo)).set (k * 8 + 4) (.slice p4 n3 d4)).set (k * 8 + 5) (.int .u64 ep)).set (k * 8 + 6) (.int .u64 ge)).set (k * 8 + 7) (.slice p7 n4 d7))[j * 8 + 2]? = some (.int .u64 y.owner) ∧ (((((((((L).set (k * 8) (.slice p0 n1 d0)).set (k * 8 + 1) (.slice p1 n2 d1)).set (k * 8 + 2) (.int .u64 ow)).set (k * 8 + 3) (.int .i64 mo)).set (k * 8 + 4) (.slice p4 n3 d4)).set (k * 8 + 5) (.int .u64 ep)).set (k * 8 + 6) (.int .u64 ge)).set (k * 8 + 7) (.slice p7 n4 d7))[j * 8 + 3]? = some (.int .i64 y.mode) ∧ (((((((((L).set (k * 8) (.slice p0 n1 d0)).set (k * 8 + 1) (.slice p1 n2 d1)).set (k * 8 + 2) (.int .u64 ow)).set (k * 8 + 3) (.int .i64 mo)).set (k * 8 + 4) (.slice p4 n3 d4)).set (k * 8 + 5) (.int .u64 ep)).set (k * 8 + 6) (.int .u64 ge)).set (k * 8 + 7) (.slice p7 n4 d7))[j * 8 + 4]? = some (H) ∧ (((((((((L).set (k * 8) (.slice p0 n1 d0)).set (k * 8 + 1) (.slice p1 n2 d1)).set (k * 8 + 2) (.int .u64 ow)).set (k * 8 + 3) (.int .i64 mo)).set (k * 8 + 4) (.slice p4 n3 d4)).set (k * 8 + 5) (.int .u64 ep)).set (k * 8 + 6) (.int .u64 ge)).set (k * 8 + 7) (.slice p7 n4 d7))[j * 8 + 5]? = some (.int .u64 y.epoch) ∧ (((((((((L).set (k * 8) (.slice p0 n1 d0)).set (k * 8 + 1) (.slice p1 n2 d1)).set (k * 8 + 2) (.int .u64 ow)).set (k * 8 + 3) (.int .i64 mo)).set (k * 8 + 4) (.slice p4 n3 d4)).set (k * 8 + 5) (.int .u64 ep)).set (k * 8 + 6) (.int .u64 ge)).set (k * 8 + 7) (.slice p7 n4 d7))[j * 8 + 6]? = some (.int .u64 y.gen) ∧ (((((((((L).set (k * 8) (.slice p0 n1 d0)).set (k * 8 + 1) (.slice p1 n2 d1)).set (k * 8 + 2) (.int .u64 ow)).set (k * 8 + 3) (.int .i64 mo)).set (k * 8 + 4) (.slice p4 n3 d4)).set (k * 8 + 5) (.int .u64 ep)).set (k * 8 + 6) (.int .u64 ge)).set (k * 8 + 7) (.slice p7 n4 d7))[j * 8 + 7]? = some (U) ∧ Ab (G + 1) w3 (fun u => (Rd u P y.path ∧ CapOK P) ∧ (Rd u V y.value ∧ CapOK V) ∧ RdU u H y.holders ∧ RdU u U y.watchers)) := by
        refine ⟨by rw [hw3]; exact (World.ownsRow.stored ((World.ownsRow.stored ((World.ownsRow.stored ((World.ownsRow.stored ((World.ownsRow.stored ((World.ownsRow.stored ((World.ownsRow.stored ((World.ownsRow.stored (ho2) (k * 8) _).1) (k * 8 + 1) _).1) (k * 8 + 2) _).1) (k * 8 + 3) _).1) (k * 8 + 4) _).1) (k * 8 + 5) _).1) (k * 8 + 6) _).1) (k * 8 + 7) _).1, fun j z hj hz => ?_⟩
        by_cases ej : j = k
        · rw [ej] at hz ⊢
          rw [hy] at hz
          cases hz
          refine ⟨_, _, _, _, by rw [List.getElem?_set_ne (by omega)]; rw [List.getElem?_set_ne (by omega)]; rw [List.getElem?_set_ne (by omega)]; rw [List.getElem?_set_ne (by omega)]; rw [List.getElem?_set_ne (by omega)]; rw [List.getElem?_set_ne (by omega)]; rw [List.getElem?_set_ne (by omega)]; exact List.getElem?_set_self (by first | omega | (simp only [List.length_set]; omega)), by rw [List.getElem?_set_ne (by omega)]; rw [List.getElem?_set_ne (by omega)]; rw [List.getElem?_set_ne (by omega)]; rw [List.getElem?_set_ne (by omega)]; rw [List.getElem?_set_ne (by omega)]; rw [List.getElem?_set_ne (by omega)]; exact List.getElem?_set_self (by first | omega | (simp only [List.length_set]; omega)), by rw [List.getElem?_set_ne (by omega)]; rw [List.getElem?_set_ne (by omega)]; rw [List.getElem?_set_ne (by omega)]; rw [List.getElem?_set_ne (by omega)]; rw [List.getElem?_set_ne (by omega)]; rw [g1]; exact List.getElem?_set_self (by first | omega | (simp only [List.length_set]; omega)), by rw [List.getElem?_set_ne (by omega)]; rw [List.getElem?_set_ne (by omega)]; rw [List.getElem?_set_ne (by omega)]; rw [List.getElem?_set_ne (by omega)]; rw [g2]; exact List.getElem?_set_self (by first | omega | (simp only [List.length_set]; omega)), by rw [List.getElem?_set_ne (by omega)]; rw [List.getElem?_set_ne (by omega)]; rw [List.getElem?_set_ne (by omega)]; exact List.getElem?_set_self (by first | omega | (simp only [List.length_set]; omega)), by rw [List.getElem?_set_ne (by omega)]; rw [List.getElem?_set_ne (by omega)]; rw [g3]; exact List.getElem?_set_self (by first | omega | (simp only [List.length_set]; omega)), by rw [List.getElem?_set_ne (by omega)]; rw [g4]; exact List.getElem?_set_self (by first | omega | (simp only [List.length_set]; omega)), by  exact List.getElem?_set_self (by first | omega | (simp only [List.length_set]; omega)), ?_⟩
          exact (by rw [hw3]; exact Ab.set (Ab.set (Ab.set (Ab.set (Ab.set (Ab.set (Ab.set (Ab.set (Ab.mono hab (by omega)) (a := ⟨G, k * 8, none⟩) (by show G < _; omega) _) (a := ⟨G, k * 8 + 1, none⟩) (by show G < _; omega) _) (a := ⟨G, k * 8 + 2, none⟩) (by show G < _; omega) _) (a := ⟨G, k * 8 + 3, none⟩) (by show G < _; omega) _) (a := ⟨G, k * 8 + 4, none⟩) (by show G < _; omega) _) (a := ⟨G, k * 8 + 5, none⟩) (by show G < _; omega) _) (a := ⟨G, k * 8 + 6, none⟩) (by show G < _; omega) _) (a := ⟨G, k * 8 + 7, none⟩) (by show G < _; omega) _)
        · obtain ⟨P, V, H, U, q0, q1, q2, q3, q4, q5, q6, q7, q8⟩ := hL j z (by omega) hz
          refine ⟨P, V, H, U, (by rw [List.getElem?_set_ne (by omega)]; rw [List.getElem?_set_ne (by omega)]; rw [List.getElem?_set_ne (by omega)]; rw [List.getElem?_set_ne (by omega)]; rw [List.getElem?_set_ne (by omega)]; rw [List.getElem?_set_ne (by omega)]; rw [List.getElem?_set_ne (by omega)]; rw [List.getElem?_set_ne (by omega)]; exact q0), (by rw [List.getElem?_set_ne (by omega)]; rw [List.getElem?_set_ne (by omega)]; rw [List.getElem?_set_ne (by omega)]; rw [List.getElem?_set_ne (by omega)]; rw [List.getElem?_set_ne (by omega)]; rw [List.getElem?_set_ne (by omega)]; rw [List.getElem?_set_ne (by omega)]; rw [List.getElem?_set_ne (by omega)]; exact q1), (by rw [List.getElem?_set_ne (by omega)]; rw [List.getElem?_set_ne (by omega)]; rw [List.getElem?_set_ne (by omega)]; rw [List.getElem?_set_ne (by omega)]; rw [List.getElem?_set_ne (by omega)]; rw [List.getElem?_set_ne (by omega)]; rw [List.getElem?_set_ne (by omega)]; rw [List.getElem?_set_ne (by omega)]; exact q2), (by rw [List.getElem?_set_ne (by omega)]; rw [List.getElem?_set_ne (by omega)]; rw [List.getElem?_set_ne (by omega)]; rw [List.getElem?_set_ne (by omega)]; rw [List.getElem?_set_ne (by omega)]; rw [List.getElem?_set_ne (by omega)]; rw [List.getElem?_set_ne (by omega)]; rw [List.getElem?_set_ne (by omega)]; exact q3), (by rw [List.getElem?_set_ne (by omega)]; rw [List.getElem?_set_ne (by omega)]; rw [List.getElem?_set_ne (by omega)]; rw [List.getElem?_set_ne (by omega)]; rw [List.getElem?_set_ne (by omega)]; rw [List.getElem?_set_ne (by omega)]; rw [List.getElem?_set_ne (by omega)]; rw [List.getElem?_set_ne (by omega)]; exact q4), (by rw [List.getElem?_set_ne (by omega)]; rw [List.getElem?_set_ne (by omega)]; rw [List.getElem?_set_ne (by omega)]; rw [List.getElem?_set_ne (by omega)]; rw [List.getElem?_set_ne (by omega)]; rw [List.getElem?_set_ne (by omega)]; rw [List.getElem?_set_ne (by omega)]; rw [List.getElem?_set_ne (by omega)]; exact q5), (by rw [List.getElem?_set_ne (by omega)]; rw [List.getElem?_set_ne (by omega)]; rw [List.getElem?_set_ne (by omega)]; rw [List.getElem?_set_ne (by omega)]; rw [List.getElem?_set_ne (by omega)]; rw [List.getElem?_set_ne (by omega)]; rw [List.getElem?_set_ne (by omega)]; rw [List.getElem?_set_ne (by omega)]; exact q6), (by rw [List.getElem?_set_ne (by omega)]; rw [List.getElem?_set_ne (by omega)]; rw [List.getElem?_set_ne (by omega)]; rw [List.getElem?_set_ne (by omega)]; rw [List.getElem?_set_ne (by omega)]; rw [List.getElem?_set_ne (by omega)]; rw [List.getElem?_set_ne (by omega)]; rw [List.getElem?_set_ne (by omega)]; exact q7), ?_⟩
          exact (by rw [hw3]; exact Ab.set (Ab.set (Ab.set (Ab.set (Ab.set (Ab.set (Ab.set (Ab.set (q8.below hb2) (a := ⟨G, k * 8, none⟩) (by show G < _; omega) _) (a := ⟨G, k * 8 + 1, none⟩) (by show G < _; omega) _) (a := ⟨G, k * 8 + 2, none⟩) (by show G < _; omega) _) (a := ⟨G, k * 8 + 3, none⟩) (by show G < _; omega) _) (a := ⟨G, k * 8 + 4, none⟩) (by show G < _; omega) _) (a := ⟨G, k * 8 + 5, none⟩) (by show G < _; omega) _) (a := ⟨G, k * 8 + 6, none⟩) (by show G < _; omega) _) (a := ⟨G, k * 8 + 7, none⟩) (by show G < _; omega) _)
      have bb : Below w.heap.size w w3 := by rw [hw3]; exact Below.setCell (Below.setCell (Below.setCell (Below.setCell (Below.setCell (Below.setCell (Below.setCell (Below.setCell (b2) (p := ⟨G, k * 8, none⟩) hG1 _) (p := ⟨G, k * 8 + 1, none⟩) hG1 _) (p := ⟨G, k * 8 + 2, none⟩) hG1 _) (p := ⟨G, k * 8 + 3, none⟩) hG1 _) (p := ⟨G, k * 8 + 4, none⟩) hG1 _) (p := ⟨G, k * 8 + 5, none⟩) hG1 _) (p := ⟨G, k * 8 + 6, none⟩) hG1 _) (p := ⟨G, k * 8 + 7, none⟩) hG1 _
      have zz3 : G < w3.heap.size := by rw [hw3]; simpa using hzz
      clear ho hL hin ho2 hab hlen hown hb b2 hb2 hbr
      go_wp2_with fail
      rw [← hw3]
      clear hw3 hc0 hf0 hc1 hf1 hc2 hf2 hc3 hf3 hc4 hf4 hc5 hf5 hc6 hf6 hc7 hf7 z0 z1 z2 z3 z4 z5 z6 z7 g1 g2 g3 g4
      go_wp2
      go_roundw
      case rel => exact ⟨k + 1, _, by omega, by go_num, HIN, bb, zz3⟩
      case measure => simp [intOf]; omega
    · have hlt' : ¬ (k : Int) < (n : Int) := by omega
      have ekn : k = n := by omega
      subst ekn
      obtain ⟨ho, hL⟩ := unhide hin
      have hfin : Ab w.heap.size wr (fun u => RdN u (.slice (some ⟨G, 0, none⟩) k k) l) := by
        intro u hu
        refine ⟨some ⟨G, 0, none⟩, k, by rw [unhide en], ?_⟩
        refine .inr ⟨G, 0, rfl, fun i y hy => ?_⟩
        have hil : i < k := by rw [← unhide en]; exact (List.getElem?_eq_some_iff.1 hy).1
        have hcc : ∀ j, j < k * 8 → u.cell? ⟨G, 0 + j, none⟩ = L[j]? := fun j hj => by
          rw [Nat.zero_add, cell_at_heap (hu G (by omega) hzr), ho.cellAt j hj]
        have hu' : ∀ q, G + 1 ≤ q → q < wr.heap.size → u.heap[q]? = wr.heap[q]? := fun q h1 h2 => hu q (by omega) h2
        obtain ⟨P, V, H, U, q0, q1, q2, q3, q4, q5, q6, q7, q8⟩ := hL i y hil hy
        obtain ⟨s1, s2, s3, s4⟩ := q8 u hu'
        exact ⟨P, V, H, U, ⟨by rw [hcc _ (by omega)]; exact q0, by rw [Nat.add_assoc, hcc _ (by omega)]; exact q1, by rw [Nat.add_assoc, hcc _ (by omega)]; exact q2, by rw [Nat.add_assoc, hcc _ (by omega)]; exact q3, by rw [Nat.add_assoc, hcc _ (by omega)]; exact q4, by rw [Nat.add_assoc, hcc _ (by omega)]; exact q5, by rw [Nat.add_assoc, hcc _ (by omega)]; exact q6, by rw [Nat.add_assoc, hcc _ (by omega)]; exact q7, s1.1, s2.1, s3, s4, s1.2⟩⟩
      clear ho hL hin hown hb
      go_wp2
      go_ret
      exact ⟨_, _, rfl, hfin, hbr⟩
end Go.Proofs.YtpbppdeleijhkaaGreatDoor
namespace Go.Proofs.YtpbppdeleijhkaaGreatDoor
open Go.ChangeShapes Go.WideShapes Go.ChangeAt Go.RowKit
set_option linter.unusedVariables false
set_option linter.unusedSimpArgs false
set_option maxRecDepth 100000

set_option maxHeartbeats 3200000 in
theorem toState_ab (e g x t : Int) (p q : Option Addr) (c n d m : Nat) (ss : List Ses) (ns : List Nod) (en : Hid (ss.length = n)) (em : Hid (ns.length = m)) (w : World) (h : RdS w (.slice p n c) ss) (hN : RdN w (.slice q m d) ns) (hn : n ≤ 1048576) (hm : m ≤ 1048576) (he1 : Hid (∀ y ∈ ss, y.2.2.length ≤ 1048576 ∧ ∀ e ∈ y.2.2, e.2.length ≤ 1048576)) (he2 : Hid (∀ y ∈ ns, y.path.length ≤ 1048576 ∧ y.value.length ≤ 1048576 ∧ y.holders.length ≤ 1048576 ∧ y.watchers.length ≤ 1048576)) :
    Calls Tryz.prog 19 #[.agg #[.int .u64 e, .int .u64 g, .int .u64 x, .int .i64 t, .slice p n c, .slice q m d]] w fun r w' => ∃ p4 d4 p5 d5, r = .returned (.agg #[.int .u64 e, .int .u64 g, .int .u64 x, .int .i64 t, .slice p4 n d4, .slice p5 m d5]) ∧ Ab w.heap.size w' (fun u => RdSc u (.slice p4 n d4) ss ∧ RdN u (.slice p5 m d5) ns) ∧ Below w.heap.size w w' := by
  have R4 := hide fun (w' : World) (hb : Below w.heap.size w w') => h.below hb
  have R5 := hide fun (w' : World) (hb : Below w.heap.size w w') => hN.below hb
  clear h hN
  go_enter Tryz.func19, Tryz.ntmps19
  go_wp2_with fail
  obtain ⟨W1, hW1⟩ : ∃ W, W = w.alloc (.cells #[.int .u64 e, .int .u64 g, .int .u64 x, .int .i64 t, .slice p n c, .slice q m d] 39) := ⟨_, rfl⟩
  obtain ⟨W2, hW2⟩ : ∃ W, W = W1.alloc (.cells #[.int .u64 0, .int .u64 0, .int .u64 0, .int .i64 0, .slice none 0 0, .slice none 0 0] 27) := ⟨_, rfl⟩
  obtain ⟨W, hW⟩ : ∃ W, W = W2.alloc (.cells #[.int .u64 e, .int .u64 g, .int .u64 x, .int .i64 t, .slice none 0 0, .slice none 0 0] 27) := ⟨_, rfl⟩
  have z1 : W1.heap.size = w.heap.size + 1 := by rw [hW1]; simp
  have z2 : W2.heap.size = w.heap.size + 2 := by rw [hW2]; simp; omega
  have zW : W.heap.size = w.heap.size + 3 := by rw [hW]; simp; omega
  have b1 : Below w.heap.size w W1 := by rw [hW1]; exact (Below.refl _ _).alloc (Nat.le_refl _) _
  have b2 : Below W1.heap.size W1 W2 := by rw [hW2]; exact (Below.refl _ _).alloc (Nat.le_refl _) _
  have b3 : Below W2.heap.size W2 W := by rw [hW]; exact (Below.refl _ _).alloc (Nat.le_refl _) _
  have bW : Below w.heap.size w W := Below.step (Below.step b1 b2) b3
  obtain ⟨A, eA⟩ : ∃ A, A = w.heap.size := ⟨_, rfl⟩
  obtain ⟨R, eR⟩ : ∃ R, R = A + 1 := ⟨_, rfl⟩
  obtain ⟨C, eC⟩ : ∃ C, C = R + 1 := ⟨_, rfl⟩
  have hA : CellsAre W A [.int .u64 e, .int .u64 g, .int .u64 x, .int .i64 t, .slice p n c, .slice q m d] := by
    have h0 : CellsAre W1 A [.int .u64 e, .int .u64 g, .int .u64 x, .int .i64 t, .slice p n c, .slice q m d] := by rw [hW1, eA]; exact CellsAre.alloc w #[.int .u64 e, .int .u64 g, .int .u64 x, .int .i64 t, .slice p n c, .slice q m d] _
    exact (h0.below (by omega) b2).below (by omega) b3
  have hR : CellsAre W R [.int .u64 0, .int .u64 0, .int .u64 0, .int .i64 0, .slice none 0 0, .slice none 0 0] := by
    have h0 : CellsAre W2 R [.int .u64 0, .int .u64 0, .int .u64 0, .int .i64 0, .slice none 0 0, .slice none 0 0] := by
      rw [hW2, show R = W1.heap.size by omega]; exact CellsAre.alloc W1 #[.int .u64 0, .int .u64 0, .int .u64 0, .int .i64 0, .slice none 0 0, .slice none 0 0] _
    exact h0.below (by omega) b3
  have hC : CellsAre W C [.int .u64 e, .int .u64 g, .int .u64 x, .int .i64 t, .slice none 0 0, .slice none 0 0] := by rw [hW, show C = W2.heap.size by omega]; exact CellsAre.alloc W2 #[.int .u64 e, .int .u64 g, .int .u64 x, .int .i64 t, .slice none 0 0, .slice none 0 0] _
  rw [← hW1, ← hW2, ← hW, ← eA, ← eR, ← eC]
  have HE := hide (And.intro eA (And.intro eR (And.intro eC zW)))
  have BW := hide bW
  have HA := hide hA
  have HRR := hide hR
  have HC := hide hC
  clear hW hW1 hW2 eA eR eC zW bW z1 z2 b1 b2 b3 hA hR hC
  refine (toSessionS_ab p c n ss en _ (unhide R4 _ (unhide BW)) hn he1).mono ?_
  rintro r w4 ⟨p4, d4, rfl, ab4, hb4⟩
  have ZS4 : Hid (W.heap.size ≤ W.heap.size ∧ W.heap.size ≤ w4.heap.size) := ⟨Nat.le_refl _, hb4.size⟩
  have HA_4 := hide ((unhide HA).below (by obtain ⟨eA, eR, eC, zW⟩ := unhide HE; have := unhide ZS4; omega) hb4)
  have HRR_4 := hide ((unhide HRR).below (by obtain ⟨eA, eR, eC, zW⟩ := unhide HE; have := unhide ZS4; omega) hb4)
  have HC_4 := hide ((unhide HC).below (by obtain ⟨eA, eR, eC, zW⟩ := unhide HE; have := unhide ZS4; omega) hb4)
  have B4 := hide (Below.step (unhide BW) hb4)
  have AB4_4 := hide (Ab.mono (B := W.heap.size) ab4 (unhide ZS4).1)
  clear ab4 hb4
  have ca0 := (unhide HA_4).1 0 _ rfl
  have ca1 := (unhide HA_4).1 1 _ rfl
  have ca2 := (unhide HA_4).1 2 _ rfl
  have ca3 := (unhide HA_4).1 3 _ rfl
  have ca4 := (unhide HA_4).1 4 _ rfl
  have ca5 := (unhide HA_4).1 5 _ rfl
  have cc0 := (unhide HC_4).1 0 _ rfl
  have cc1 := (unhide HC_4).1 1 _ rfl
  have cc2 := (unhide HC_4).1 2 _ rfl
  have cc3 := (unhide HC_4).1 3 _ rfl
  have cc4 := (unhide HC_4).1 4 _ rfl
  have cc5 := (unhide HC_4).1 5 _ rfl
  have fC := (unhide HC_4).2
  have hAC : ¬ C = A := by obtain ⟨eA, eR, eC, zW⟩ := unhide HE; omega
  go_wp2_with fail
  clear ca0 ca1 ca2 ca3 ca4 ca5 cc0 cc1 cc2 cc3 cc4 cc5 fC hAC
  obtain ⟨X4, hX4⟩ : ∃ X, X = (w4.setCell ⟨C, 4, none⟩ (.slice p4 n d4)) := ⟨_, rfl⟩
  have HAx4 : Hid (CellsAre X4 A [.int .u64 e, .int .u64 g, .int .u64 x, .int .i64 t, .slice p n c, .slice q m d]) := by show CellsAre _ _ _; rw [hX4]; exact CellsAre.far (unhide HA_4) (a := ⟨C, 4, none⟩) (by obtain ⟨eA, eR, eC, zW⟩ := unhide HE; simp; omega) _
  have HRRx4 : Hid (CellsAre X4 R [.int .u64 0, .int .u64 0, .int .u64 0, .int .i64 0, .slice none 0 0, .slice none 0 0]) := by show CellsAre _ _ _; rw [hX4]; exact CellsAre.far (unhide HRR_4) (a := ⟨C, 4, none⟩) (by obtain ⟨eA, eR, eC, zW⟩ := unhide HE; simp; omega) _
  have HCx4 : Hid (CellsAre X4 C [.int .u64 e, .int .u64 g, .int .u64 x, .int .i64 t, .slice p4 n d4, .slice none 0 0]) := by show CellsAre _ _ _; rw [hX4]; exact CellsAre.near (unhide HC_4) 4 (by simp) (.slice p4 n d4)
  have BX4 : Hid (Below w.heap.size w X4) := by show Below _ _ _; rw [hX4]; exact Below.setCell (unhide B4) (p := ⟨C, 4, none⟩) (by obtain ⟨eA, eR, eC, zW⟩ := unhide HE; simp; omega) _
  have ABx4_4 : Hid (Ab W.heap.size X4 (fun u => RdSc u (.slice p4 n d4) ss)) := by show Ab _ _ _; rw [hX4]; exact Ab.set (unhide AB4_4) (a := ⟨C, 4, none⟩) (by obtain ⟨eA, eR, eC, zW⟩ := unhide HE; simp; omega) _
  have ZZX4 : Hid (W.heap.size ≤ X4.heap.size) := by show _ ≤ _; rw [hX4]; simp; have := unhide ZS4; omega
  rw [← hX4]
  clear hX4
  refine (toNodeS_ab q d m ns em _ (unhide R5 _ (unhide BX4)) hm he2).mono ?_
  rintro r w5 ⟨p5, d5, rfl, ab5, hb5⟩
  have ZS5 : Hid (W.heap.size ≤ X4.heap.size ∧ X4.heap.size ≤ w5.heap.size) := ⟨(unhide ZZX4), hb5.size⟩
  have HA_5 := hide ((unhide HAx4).below (by obtain ⟨eA, eR, eC, zW⟩ := unhide HE; have := unhide ZS5; omega) hb5)
  have HRR_5 := hide ((unhide HRRx4).below (by obtain ⟨eA, eR, eC, zW⟩ := unhide HE; have := unhide ZS5; omega) hb5)
  have HC_5 := hide ((unhide HCx4).below (by obtain ⟨eA, eR, eC, zW⟩ := unhide HE; have := unhide ZS5; omega) hb5)
  have B5 := hide (Below.step (unhide BX4) hb5)
  have AB5_5 := hide (Ab.mono (B := W.heap.size) ab5 (unhide ZS5).1)
  have AB4_5 := hide ((unhide ABx4_4).below hb5)
  clear ab5 hb5
  have ca0 := (unhide HA_5).1 0 _ rfl
  have ca1 := (unhide HA_5).1 1 _ rfl
  have ca2 := (unhide HA_5).1 2 _ rfl
  have ca3 := (unhide HA_5).1 3 _ rfl
  have ca4 := (unhide HA_5).1 4 _ rfl
  have ca5 := (unhide HA_5).1 5 _ rfl
  have cc0 := (unhide HC_5).1 0 _ rfl
  have cc1 := (unhide HC_5).1 1 _ rfl
  have cc2 := (unhide HC_5).1 2 _ rfl
  have cc3 := (unhide HC_5).1 3 _ rfl
  have cc4 := (unhide HC_5).1 4 _ rfl
  have cc5 := (unhide HC_5).1 5 _ rfl
  have fC := (unhide HC_5).2
  have hAC : ¬ C = A := by obtain ⟨eA, eR, eC, zW⟩ := unhide HE; omega
  have cr0 := (unhide HRR_5).1 0 _ rfl
  have cr1 := (unhide HRR_5).1 1 _ rfl
  have cr2 := (unhide HRR_5).1 2 _ rfl
  have cr3 := (unhide HRR_5).1 3 _ rfl
  have cr4 := (unhide HRR_5).1 4 _ rfl
  have cr5 := (unhide HRR_5).1 5 _ rfl
  have fR := (unhide HRR_5).2
  have hAR : ¬ R = A := by obtain ⟨eA, eR, eC, zW⟩ := unhide HE; omega
  have hRC : ¬ R = C := by obtain ⟨eA, eR, eC, zW⟩ := unhide HE; omega
  have hCR : ¬ C = R := by obtain ⟨eA, eR, eC, zW⟩ := unhide HE; omega
  go_wp2
  obtain ⟨eA, eR, eC, zW⟩ := unhide HE
  have zz := unhide ZS5
  refine bodyPost_ret (v := .agg #[.int .u64 e, .int .u64 g, .int .u64 x, .int .i64 t, .slice p4 n d4, .slice p5 m d5]) (by simp [results, Tryz.results19, go_sem, cc0, cc1, cc2, cc3, cc4, cc5, cr0, cr1, cr2, cr3, cr4, cr5, hAC, hAR, hRC, hCR]) rfl ⟨p4, d4, p5, d5, rfl, Ab.mono (B := w.heap.size) (B' := W.heap.size) ?_ (by omega), ?_⟩
  · iterate 7 (refine Ab.set ?_ (by simp; omega) _)
    exact (unhide AB4_5).and (unhide AB5_5)
  · iterate 7 (refine Below.setCell ?_ (by simp; omega) _)
    exact unhide B5
end Go.Proofs.YtpbppdeleijhkaaGreatDoor
