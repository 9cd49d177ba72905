import Derived.Test.YtnbgnhhnpmmloaaGreatDoorK16
namespace Go.Proofs.YtnbgnhhnpmmloaaGreatDoor
open Go.ChangeShapes Go.WideShapes Go.ChangeAt Go.RowKit
set_option linter.unusedVariables false
set_option linter.unusedSimpArgs false
set_option maxRecDepth 100000
def Nf (BZ : Nat) (w : World) (v : Value) : Prop := ∀ b, v.ownBlock = some b → BZ ≤ b ∧ ∀ o, w.frozen? ⟨b, o, none⟩ = false
def RdEw (BZ : Nat) (w : World) (v : Value) (es : List Ev) : Prop :=
 ∃ (p : Option Addr) (c : Nat), v = .slice p es.length c ∧ Nf BZ w v ∧ (es = [] ∨ ∃ b o, p = some ⟨b, o, none⟩ ∧ ∀ i e, es[i]? = some e → w.cell? ⟨b, o + i * 2, none⟩ = some (.int .i64 e.1) ∧ ∃ u, w.cell? ⟨b, o + i * 2 + 1, none⟩ = some u ∧ Rd w u e.2 ∧ CapOK u ∧ Nf BZ w u)
def RdSw (BZ : Nat) (w : World) (v : Value) (ss : List Ses) : Prop :=
 ∃ (p : Option Addr) (c : Nat), v = .slice p ss.length c ∧ Nf BZ w v ∧ (ss = [] ∨ ∃ b o, p = some ⟨b, o, none⟩ ∧ ∀ i s, ss[i]? = some s → w.cell? ⟨b, o + i * 3, none⟩ = some (.int .u64 s.1) ∧ w.cell? ⟨b, o + i * 3 + 1, none⟩ = some (.int .i64 s.2.1) ∧ ∃ u, w.cell? ⟨b, o + i * 3 + 2, none⟩ = some u ∧ RdEw BZ w u s.2.2)
def RdNw (BZ : Nat) (w : World) (v : Value) (ns : List Nod) : Prop :=
 ∃ (p : Option Addr) (c : Nat), v = .slice p ns.length c ∧ Nf BZ w v ∧ (ns = [] ∨ ∃ b o, p = some ⟨b, o, none⟩ ∧ ∀ i nd, ns[i]? = some nd → ∃ P V H U, NodeAt w b (o + i * 8) nd P V H U ∧ Nf BZ w P ∧ Nf BZ w V ∧ Nf BZ w H ∧ Nf BZ w U)
theorem RdEw.rd {BZ : Nat} {w : World} {v : Value} {es : List Ev} (h : RdEw BZ w v es) : RdEc w v es := by
 obtain ⟨p, c, rfl, -, h⟩ := h
 refine ⟨p, c, rfl, ?_⟩
 rcases h with h | ⟨b, o, rfl, h⟩
 ·exact .inl h
 ·refine .inr ⟨b, o, rfl, fun i e he => ?_⟩
  obtain ⟨h1, u, h2, h3, h4, _⟩ := h i e he
  exact ⟨h1, u, h2, h3, h4⟩
theorem RdSw.rd {BZ : Nat} {w : World} {v : Value} {es : List Ses} (h : RdSw BZ w v es) : RdSc w v es := by
 obtain ⟨p, c, rfl, -, h⟩ := h
 refine ⟨p, c, rfl, ?_⟩
 rcases h with h | ⟨b, o, rfl, h⟩
 ·exact .inl h
 ·refine .inr ⟨b, o, rfl, fun i e he => ?_⟩
  obtain ⟨h1, h2, u, h3, h4⟩ := h i e he
  exact ⟨h1, h2, u, h3, h4.rd⟩
theorem RdNw.rd {BZ : Nat} {w : World} {v : Value} {es : List Nod} (h : RdNw BZ w v es) : RdN w v es := by
 obtain ⟨p, c, rfl, -, h⟩ := h
 refine ⟨p, c, rfl, ?_⟩
 rcases h with h | ⟨b, o, rfl, h⟩
 ·exact .inl h
 ·refine .inr ⟨b, o, rfl, fun i e he => ?_⟩
  obtain ⟨P, V, H, U, h1, _⟩ := h i e he
  exact ⟨P, V, H, U, h1⟩
theorem Own.aw {B BZ : Nat} {w : World} {p : Option Addr} {n c : Nat} {l : List Int} (h : Own B w (.slice p n c) l) (hB : BZ ≤ B) : Ab B w (fun u => Rd u (.slice p n c) l ∧ CapOK (.slice p n c) ∧ Nf BZ u (.slice p n c)) := by
 refine fun u hu => ⟨(h.ab u hu).1, (h.ab u hu).2, fun b hb => ?_⟩
 have hl := h.lt b hb
 refine ⟨Nat.le_trans hB hl.1, fun o => ?_⟩
 rcases h.2 with ⟨e, _⟩ | ⟨g, cap, cur, e, hg, hgg, _⟩
 ·simp only [Value.slice.injEq] at e
  rw [e.1] at hb
  simp [Value.ownBlock] at hb
 ·simp only [Value.slice.injEq] at e
  rw [e.1] at hb
  simp only [Value.ownBlock, Option.some.injEq] at hb
  subst hb
  rw [World.frozen?_of_block (w := w) (a := ⟨g, o, none⟩) (hu g hl.1 hl.2)]
  simp [World.frozen?, hgg]
theorem Nf.row {BZ : Nat} {u wr : World} {G n c m : Nat} {e : TypeId} {sz : Nat} {L : List Value} (ho : wr.ownsRow G e sz (.slice (some ⟨G, 0, none⟩) n c) m L) (hB : BZ ≤ G) (hu : u.heap[G]? = wr.heap[G]?) : Nf BZ u (.slice (some ⟨G, 0, none⟩) n c) := fun b hb => by
 simp only [Value.ownBlock, Option.some.injEq] at hb
 subst hb
 refine ⟨hB, fun o => ?_⟩
 rw [World.frozen?_of_block (w := wr) (a := ⟨G, o, none⟩) hu]
 rcases ho.2 with ⟨e, _⟩ | ⟨g, cap, cur, e, hg, hgg, _⟩
 ·simp at e
 ·simp only [Value.slice.injEq, Option.some.injEq, Addr.mk.injEq] at e
  obtain ⟨⟨rfl, -⟩, -⟩ := e
  simp [World.frozen?, hgg]
theorem toByteS_aw (p : Option Addr) (c n : Nat) (l : List Int) (en : Hid (l.length = n)) (w : World) (BZ : Nat) (hB : BZ ≤ w.heap.size) (h : Rd w (.slice p n c) l) (hl : n ≤ 1048576) :
  Calls Tryz.prog 7 #[.slice p n c] w fun e w' => ∃ p' c', e = .returned (.slice p' n c') ∧ Ab w.heap.size w' (fun u => Rd u (.slice p' n c') l ∧ CapOK (.slice p' n c') ∧ Nf BZ u (.slice p' n c')) ∧ Below w.heap.size w w' := by
 refine (toByteS_n p c n l en w h hl).mono ?_
 rintro e w' ⟨p', c', rfl, ho, hb⟩
 exact ⟨p', c', rfl, ho.aw hB, hb⟩
set_option maxHeartbeats 800000 in
theorem toUint64S_aw (p : Option Addr) (c n : Nat) (l : List Int) (en : Hid (l.length = n)) (w : World) (BZ : Nat) (hB : BZ ≤ w.heap.size) (h : RdU w (.slice p n c) l) (hn : n ≤ 1048576) :
  Calls Tryz.prog 126 #[.slice p n c] w fun e w' => ∃ p' c', e = .returned (.slice p' n c') ∧ Ab w.heap.size w' (fun u => RdU u (.slice p' n c') l ∧ Nf BZ u (.slice p' n c')) ∧ Below w.heap.size w w' := by
 obtain ⟨i, hi, hz0, hz1, hz2⟩ := info_parts Tryz.infoU64
 have HR := hide fun (w' : World) (hb : Below w.heap.size w w') => h.below hb
 clear h
 go_enter Tryz.func126, Tryz.ntmps126
 go_wp2_with (first | (at_make; refine wpList_make_full _ rfl _ _ 64 rfl w.heap.size 23 i (.int .u64 0) 1 Tryz.underlying64 hi hz0 hz1 _ _ _ _ n rfl rfl rfl rfl ?b2 ?b3 ?b4 ?_))
 case b2 => rw [hz2]; omega
 case b3 => unfold maxLen; omega
 case b4 => exact Nat.le_refl _
 intro w1 hown hg
 have hb := grown_below hg
 obtain ⟨G, eG⟩ : ∃ G, G = w.heap.size := ⟨_, rfl⟩
 rw [← eG] at hown ⊢
 have zG : G < w1.heap.size := (World.ownsRow.lt hown G rfl).2
 have hG1 : w.heap.size ≤ G := by omega
 have hG2 : G ≤ w.heap.size := by omega
 clear hg eG
 go_wp2
 go_loopw [4] (fun iv wr => ∃ (k : Nat) (L : List Value), k ≤ n ∧ iv = .int .i64 k ∧ Hid (wr.ownsRow G 23 1 (.slice (some ⟨G, 0, none⟩) n n) n L ∧ ∀ j, j < k → L[j]? = some (.int .u64 (l.getD j 0))) ∧ Below w.heap.size w wr ∧ G < wr.heap.size) (fun iv _ => n - (intOf iv).toNat)
 case atStart => exact ⟨0, _, Nat.zero_le _, rfl, ⟨hown, fun j hj => by omega⟩, hb, zG⟩
 case round =>
  obtain ⟨k, L, hk, rfl, hin, hbr, hzr⟩ := hrel
  by_cases hlt : k < n
  ·have hlt' : (k : Int) < (n : Int) := by omega
   have hkl : k < l.length := by rw [unhide en]; exact hlt
   obtain ⟨b, o, rfl, hcell⟩ : ∃ b o, p = some ⟨b, o, none⟩ ∧ wr.cell? ⟨b, o + k, none⟩ = some (.int .u64 (l.getD k 0)) := by
    obtain ⟨p', c', ev, hd⟩ := unhide HR _ hbr
    simp only [Value.slice.injEq] at ev
    obtain ⟨rfl, -, -⟩ := ev
    rcases hd with h0 | ⟨b, o, h1, h2⟩
    ·rw [h0] at hkl; simp at hkl
    ·exact ⟨b, o, h1, h2 k hkl⟩
   obtain ⟨ho, hL⟩ := unhide hin
   have hlen : L.length = n * 1 := ho.1
   obtain ⟨u0, hc0⟩ : ∃ u, wr.cell? ⟨G, k, none⟩ = some u := by
    rw [ho.cellAt k (by omega)]
    exact ⟨_, List.getElem?_eq_getElem (by omega)⟩
   have hf0 := ho.frozenAt k
   obtain ⟨y, ey⟩ : ∃ y, l.getD k 0 = y := ⟨_, rfl⟩
   rw [ey] at hcell
   have HIN : Hid ((wr.setCell ⟨G, k, none⟩ (.int .u64 y)).ownsRow G 23 1 (.slice (some ⟨G, 0, none⟩) n n) n (L.set k (.int .u64 y)) ∧ ∀ j, j < k + 1 → (L.set k (.int .u64 y))[j]? = some (.int .u64 (l.getD j 0))) := by
    refine ⟨(ho.stored k _).1, fun j hj => ?_⟩
    by_cases e : j = k
    ·subst e
     rw [List.getElem?_set_self (by omega), ey]
    ·rw [List.getElem?_set_ne (by omega)]
     exact hL j (by omega)
   have bb := hbr.setCell (p := ⟨G, k, none⟩) hG1 (.int .u64 y)
   clear ho hL hin hkl ey hlen hown hb
   go_wp2
   go_roundw
   case rel => exact ⟨k + 1, _, by omega, by go_num, HIN, bb, by simpa using hzr⟩
   case measure => simp [intOf]; omega
  ·have hlt' : ¬ (k : Int) < (n : Int) := by omega
   have ekn : k = n := by omega
   subst ekn
   obtain ⟨ho, hL⟩ := unhide hin
   have hfin : Ab w.heap.size wr (fun u => RdU u (.slice (some ⟨G, 0, none⟩) k k) l ∧ Nf BZ u (.slice (some ⟨G, 0, none⟩) k k)) := by
    intro u hu
    refine ⟨?_, Nf.row ho (by omega) (hu G (by omega) hzr)⟩
    refine ⟨some ⟨G, 0, none⟩, k, by rw [unhide en], ?_⟩
    refine .inr ⟨G, 0, rfl, fun i hi => ?_⟩
    rw [unhide en] at hi
    rw [Nat.zero_add, cell_at_heap (hu G (by omega) hzr), ho.cellAt i (by omega)]
    exact hL i hi
   clear ho hL hin hown hb
   go_wp2
   go_ret
   exact ⟨_, _, rfl, hfin, hbr⟩
set_option maxHeartbeats 3200000 in
theorem toEvent_aw (K : Int) (p : Option Addr) (c n : Nat) (P : List Int) (en : Hid (P.length = n)) (w : World) (BZ : Nat) (hB : BZ ≤ w.heap.size) (h : Rd w (.slice p n c) P) (hn : n ≤ 1048576) :
  Calls Tryz.prog 155 #[.agg #[.int .i64 K, .slice p n c]] w fun r w' => ∃ p1 d1, r = .returned (.agg #[.int .i64 K, .slice p1 n d1]) ∧ Ab w.heap.size w' (fun u => (Rd u (.slice p1 n d1) P ∧ CapOK (.slice p1 n d1) ∧ Nf BZ u (.slice p1 n d1))) ∧ Below w.heap.size w w' := by
 have R1 := hide fun (w' : World) (hb : Below w.heap.size w w') => h.below hb
 clear h
 go_enter Tryz.func155, Tryz.ntmps155
 go_wp2_with fail
 obtain ⟨W1, hW1⟩ : ∃ W, W = w.alloc (.cells #[.int .i64 K, .slice p n c] 190) := ⟨_, rfl⟩
 obtain ⟨W2, hW2⟩ : ∃ W, W = W1.alloc (.cells #[.int .i64 0, .slice none 0 0] 147) := ⟨_, rfl⟩
 obtain ⟨W, hW⟩ : ∃ W, W = W2.alloc (.cells #[.int .i64 K, .slice none 0 0] 147) := ⟨_, rfl⟩
 have z1 : W1.heap.size = w.heap.size + 1 := by rw [hW1]; simp
 have z2 : W2.heap.size = w.heap.size + 2 := by rw [hW2]; simp; omega
 have zW : W.heap.size = w.heap.size + 3 := by rw [hW]; simp; omega
 have b1 : Below w.heap.size w W1 := by rw [hW1]; exact (Below.refl _ _).alloc (Nat.le_refl _) _
 have b2 : Below W1.heap.size W1 W2 := by rw [hW2]; exact (Below.refl _ _).alloc (Nat.le_refl _) _
 have b3 : Below W2.heap.size W2 W := by rw [hW]; exact (Below.refl _ _).alloc (Nat.le_refl _) _
 have bW : Below w.heap.size w W := Below.step (Below.step b1 b2) b3
 obtain ⟨A, eA⟩ : ∃ A, A = w.heap.size := ⟨_, rfl⟩
 obtain ⟨R, eR⟩ : ∃ R, R = A + 1 := ⟨_, rfl⟩
 obtain ⟨C, eC⟩ : ∃ C, C = R + 1 := ⟨_, rfl⟩
 have hA : CellsAre W A [.int .i64 K, .slice p n c] := by
  have h0 : CellsAre W1 A [.int .i64 K, .slice p n c] := by rw [hW1, eA]; exact CellsAre.alloc w #[.int .i64 K, .slice p n c] _
  exact (h0.below (by omega) b2).below (by omega) b3
 have hR : CellsAre W R [.int .i64 0, .slice none 0 0] := by
  have h0 : CellsAre W2 R [.int .i64 0, .slice none 0 0] := by
   rw [hW2, show R = W1.heap.size by omega]; exact CellsAre.alloc W1 #[.int .i64 0, .slice none 0 0] _
  exact h0.below (by omega) b3
 have hC : CellsAre W C [.int .i64 K, .slice none 0 0] := by rw [hW, show C = W2.heap.size by omega]; exact CellsAre.alloc W2 #[.int .i64 K, .slice none 0 0] _
 rw [← hW1, ← hW2, ← hW, ← eA, ← eR, ← eC]
 have HE := hide (And.intro eA (And.intro eR (And.intro eC zW)))
 have BW := hide bW
 have HA := hide hA
 have HRR := hide hR
 have HC := hide hC
 clear hW hW1 hW2 eA eR eC zW bW z1 z2 b1 b2 b3 hA hR hC
 refine (toByteS_aw p c n P en _ BZ (Nat.le_trans hB (unhide BW).size) (unhide R1 _ (unhide BW)) hn).mono ?_
 rintro r w1 ⟨p1, d1, rfl, ab1, hb1⟩
 have ZS1 : Hid (W.heap.size ≤ W.heap.size ∧ W.heap.size ≤ w1.heap.size) := ⟨Nat.le_refl _, hb1.size⟩
 have HA_1 := hide ((unhide HA).below (by obtain ⟨eA, eR, eC, zW⟩ := unhide HE; have := unhide ZS1; omega) hb1)
 have HRR_1 := hide ((unhide HRR).below (by obtain ⟨eA, eR, eC, zW⟩ := unhide HE; have := unhide ZS1; omega) hb1)
 have HC_1 := hide ((unhide HC).below (by obtain ⟨eA, eR, eC, zW⟩ := unhide HE; have := unhide ZS1; omega) hb1)
 have B1 := hide (Below.step (unhide BW) hb1)
 have AB1_1 := hide (Ab.mono (B := W.heap.size) ab1 (unhide ZS1).1)
 clear ab1 hb1
 have ca0 := (unhide HA_1).1 0 _ rfl
 have ca1 := (unhide HA_1).1 1 _ rfl
 have cc0 := (unhide HC_1).1 0 _ rfl
 have cc1 := (unhide HC_1).1 1 _ rfl
 have fC := (unhide HC_1).2
 have hAC : ¬ C = A := by obtain ⟨eA, eR, eC, zW⟩ := unhide HE; omega
 have cr0 := (unhide HRR_1).1 0 _ rfl
 have cr1 := (unhide HRR_1).1 1 _ rfl
 have fR := (unhide HRR_1).2
 have hAR : ¬ R = A := by obtain ⟨eA, eR, eC, zW⟩ := unhide HE; omega
 have hRC : ¬ R = C := by obtain ⟨eA, eR, eC, zW⟩ := unhide HE; omega
 have hCR : ¬ C = R := by obtain ⟨eA, eR, eC, zW⟩ := unhide HE; omega
 go_wp2
 obtain ⟨eA, eR, eC, zW⟩ := unhide HE
 have zz := unhide ZS1
 refine bodyPost_ret (v := .agg #[.int .i64 K, .slice p1 n d1]) (by simp [results, Tryz.results155, go_sem, cc0, cc1, cr0, cr1, hAC, hAR, hRC, hCR]) rfl ⟨p1, d1, rfl, Ab.mono (B := w.heap.size) (B' := W.heap.size) ?_ (by omega), ?_⟩
 ·iterate 3 (refine Ab.set ?_ (by simp; omega) _)
  exact unhide AB1_1
 ·iterate 3 (refine Below.setCell ?_ (by simp; omega) _)
  exact unhide B1
set_option maxHeartbeats 3200000 in
theorem toEventS_aw (p : Option Addr) (c n : Nat) (l : List Ev) (en : Hid (l.length = n)) (w : World) (BZ : Nat) (hB : BZ ≤ w.heap.size) (h : RdE w (.slice p n c) l) (hn : n ≤ 1048576) (hel : Hid (∀ y ∈ l, y.2.length ≤ 1048576)) :
  Calls Tryz.prog 125 #[.slice p n c] w fun e w' => ∃ p' c', e = .returned (.slice p' n c') ∧ Ab w.heap.size w' (fun u => RdEw BZ u (.slice p' n c') l) ∧ Below w.heap.size w w' := by
 obtain ⟨i, hi, hz0, hz1, hz2⟩ := info_parts Tryz.infoEv
 have HR := hide fun (w' : World) (hb : Below w.heap.size w w') => h.below hb
 clear h
 go_enter Tryz.func125, Tryz.ntmps125
 go_wp2_with (first | (at_make; refine wpList_make_full _ rfl _ _ 57 rfl w.heap.size 147 i _ 2 Tryz.underlying57 hi hz0 hz1 _ _ _ _ n rfl rfl rfl rfl ?b2 ?b3 ?b4 ?_))
 case b2 => rw [hz2]; omega
 case b3 => unfold maxLen; omega
 case b4 => exact Nat.le_refl _
 intro w1 hown hg
 have hb := grown_below hg
 obtain ⟨G, eG⟩ : ∃ G, G = w.heap.size := ⟨_, rfl⟩
 rw [← eG] at hown ⊢
 have zG : G < w1.heap.size := (World.ownsRow.lt hown G rfl).2
 have hG1 : w.heap.size ≤ G := by omega
 have hG2 : G ≤ w.heap.size := by omega
 clear hg eG
 go_wp2_with fail
 go_loopw [4] (fun iv wr => ∃ (k : Nat) (L : List Value), k ≤ n ∧ iv = .int .i64 k ∧ Hid (wr.ownsRow G 147 2 (.slice (some ⟨G, 0, none⟩) n n) n L ∧ ∀ (j : Nat) (y : Ev), j < k → l[j]? = some y → L[j * 2]? = some (.int .i64 y.1) ∧ ∃ v, L[j * 2 + 1]? = some v ∧ Ab (G + 1) wr (fun u => Rd u v y.2 ∧ CapOK v ∧ Nf BZ u v)) ∧ Below w.heap.size w wr ∧ G < wr.heap.size) (fun iv _ => n - (intOf iv).toNat)
 case atStart => exact ⟨0, _, Nat.zero_le _, rfl, ⟨hown, fun j y hj => by omega⟩, hb, zG⟩
 case round =>
  obtain ⟨k, L, hk, rfl, hin, hbr, hzr⟩ := hrel
  by_cases hlt : k < n
  ·have hlt' : (k : Int) < (n : Int) := by omega
   have hkl : k < l.length := by rw [unhide en]; exact hlt
   obtain ⟨y, hy⟩ : ∃ y, l[k]? = some y := ⟨_, List.getElem?_eq_getElem hkl⟩
   have hby := unhide hel y (List.mem_of_getElem? hy)
   obtain ⟨K, P⟩ := y
   obtain ⟨b, o, rfl, hcK, u, hcP, hrP⟩ : ∃ b o, p = some ⟨b, o, none⟩ ∧ wr.cell? ⟨b, o + k * 2, none⟩ = some (.int .i64 K) ∧ ∃ u, wr.cell? ⟨b, o + k * 2 + 1, none⟩ = some u ∧ Rd wr u P := by
    obtain ⟨p', c', ev, hd⟩ := unhide HR _ hbr
    simp only [Value.slice.injEq] at ev
    obtain ⟨rfl, -, -⟩ := ev
    rcases hd with h0 | ⟨b, o, h1, h2⟩
    ·rw [h0] at hkl; simp at hkl
    ·exact ⟨b, o, h1, h2 k _ hy⟩
   obtain ⟨pp, pc, m, rfl, em⟩ := hrP.slc
   have hm : m ≤ 1048576 := by rw [← unhide em]; exact hby
   have HRP := hide hrP
   clear hrP
   clear hkl hby
   go_wp2_with fail
   refine (toEvent_aw K pp pc m P em _ BZ (Nat.le_trans hB hbr.size) (unhide HRP) hm).mono ?_
   rintro r w2 ⟨p1, d1, rfl, hab, hb2⟩
   have b2 := Below.step hbr hb2
   obtain ⟨ho, hL⟩ := unhide hin
   have ho2 := ho.kept (grown_of_b hb2) (by right; simp [Value.ownBlock])
   have hlen : L.length = n * 2 := ho.1
   obtain ⟨u0, hc0⟩ : ∃ u, w2.cell? ⟨G, k * 2, none⟩ = some u := by
    rw [ho2.cellAt (k * 2) (by omega)]
    exact ⟨_, List.getElem?_eq_getElem (by omega)⟩
   have hf0 := ho2.frozenAt (k * 2)
   obtain ⟨u1, hc1⟩ : ∃ u, w2.cell? ⟨G, k * 2 + 1, none⟩ = some u := by
    rw [ho2.cellAt (k * 2 + 1) (by omega)]
    exact ⟨_, List.getElem?_eq_getElem (by omega)⟩
   have hf1 := ho2.frozenAt (k * 2 + 1)
   have hzz : G < w2.heap.size := Nat.lt_of_lt_of_le hzr hb2.size
   obtain ⟨w3, hw3⟩ : ∃ w3, w3 = ((w2.setCell ⟨G, k * 2, none⟩ (.int .i64 K)).setCell ⟨G, k * 2 + 1, none⟩ (.slice p1 m d1)) := ⟨_, rfl⟩
   have HIN : Hid (w3.ownsRow G 147 2 (.slice (some ⟨G, 0, none⟩) n n) n (((L).set (k * 2) (.int .i64 K)).set (k * 2 + 1) (.slice p1 m d1)) ∧ ∀ (j : Nat) (y : Ev), j < k + 1 → l[j]? = some y → (((L).set (k * 2) (.int .i64 K)).set (k * 2 + 1) (.slice p1 m d1))[j * 2]? = some (.int .i64 y.1) ∧ ∃ v, (((L).set (k * 2) (.int .i64 K)).set (k * 2 + 1) (.slice p1 m d1))[j * 2 + 1]? = some v ∧ Ab (G + 1) w3 (fun u => Rd u v y.2 ∧ CapOK v ∧ Nf BZ u v)) := by
    refine ⟨by rw [hw3]; exact (World.ownsRow.stored ((World.ownsRow.stored (ho2) (k * 2) _).1) (k * 2 + 1) _).1, fun j z hj hz => ?_⟩
    by_cases ej : j = k
    ·rw [ej] at hz ⊢
     rw [hy] at hz
     cases hz
     refine ⟨by rw [List.getElem?_set_ne (by omega)]; exact List.getElem?_set_self (by first | omega | (simp only [List.length_set]; omega)), _, by  exact List.getElem?_set_self (by first | omega | (simp only [List.length_set]; omega)), ?_⟩
     exact (by rw [hw3]; exact Ab.set (Ab.set (Ab.mono hab (by omega)) (a := ⟨G, k * 2, none⟩) (by show G < _; omega) _) (a := ⟨G, k * 2 + 1, none⟩) (by show G < _; omega) _)
    ·obtain ⟨q1, v, q2, q3⟩ := hL j z (by omega) hz
     refine ⟨(by rw [List.getElem?_set_ne (by omega)]; rw [List.getElem?_set_ne (by omega)]; exact q1), v, (by rw [List.getElem?_set_ne (by omega)]; rw [List.getElem?_set_ne (by omega)]; exact q2), ?_⟩
     exact (by rw [hw3]; exact Ab.set (Ab.set (q3.below hb2) (a := ⟨G, k * 2, none⟩) (by show G < _; omega) _) (a := ⟨G, k * 2 + 1, none⟩) (by show G < _; omega) _)
   have bb : Below w.heap.size w w3 := by rw [hw3]; exact Below.setCell (Below.setCell (b2) (p := ⟨G, k * 2, none⟩) hG1 _) (p := ⟨G, k * 2 + 1, none⟩) hG1 _
   have zz3 : G < w3.heap.size := by rw [hw3]; simpa using hzz
   clear ho hL hin ho2 hab hlen hown hb b2 hb2 hbr
   go_wp2_with fail
   rw [← hw3]
   clear hw3 hc0 hc1 hf0 hf1 hcK hcP
   go_wp2
   go_roundw
   case rel => exact ⟨k + 1, _, by omega, by go_num, HIN, bb, zz3⟩
   case measure => simp [intOf]; omega
  ·have hlt' : ¬ (k : Int) < (n : Int) := by omega
   have ekn : k = n := by omega
   subst ekn
   obtain ⟨ho, hL⟩ := unhide hin
   have hfin : Ab w.heap.size wr (fun u => RdEw BZ u (.slice (some ⟨G, 0, none⟩) k k) l) := by
    intro u hu
    refine ⟨some ⟨G, 0, none⟩, k, by rw [unhide en], Nf.row ho (by omega) (hu G (by omega) hzr), ?_⟩
    refine .inr ⟨G, 0, rfl, fun i y hy => ?_⟩
    have hil : i < k := by rw [← unhide en]; exact (List.getElem?_eq_some_iff.1 hy).1
    have hcc : ∀ j, j < k * 2 → u.cell? ⟨G, 0 + j, none⟩ = L[j]? := fun j hj => by
     rw [Nat.zero_add, cell_at_heap (hu G (by omega) hzr), ho.cellAt j hj]
    have hu' : ∀ q, G + 1 ≤ q → q < wr.heap.size → u.heap[q]? = wr.heap[q]? := fun q h1 h2 => hu q (by omega) h2
    obtain ⟨q1, v, q2, q3⟩ := hL i y hil hy
    refine ⟨by rw [hcc _ (by omega)]; exact q1, v, by rw [Nat.add_assoc, hcc _ (by omega)]; exact q2, (q3 u hu').1, (q3 u hu').2.1, (q3 u hu').2.2⟩
   clear ho hL hin hown hb
   go_wp2
   go_ret
   exact ⟨_, _, rfl, hfin, hbr⟩
structure Apt (B : Nat) (w : World) (A : List Lf) : Prop where
 nd : (A.map fun a => (a.b, a.o)).Nodup
 lo : ∀ a ∈ A, B ≤ a.b
 inn : LvIn w A
theorem Apt.nil (B : Nat) (w : World) : Apt B w [] := ⟨by simp, fun a ha => by simp at ha, LvIn.nil w⟩
theorem Apt.mono {B B' : Nat} {w : World} {A : List Lf} (h : Apt B w A) (hB : B' ≤ B) : Apt B' w A := ⟨h.nd, fun a ha => Nat.le_trans hB (h.lo a ha), h.inn⟩
theorem Apt.app {B M : Nat} {w : World} {A A2 : List Lf} (h : Apt B w A) (h2 : Apt M w A2) (hB : B ≤ M) (hM : ∀ a ∈ A, a.b < M) : Apt B w (A ++ A2) := by
 refine ⟨?_, fun a ha => ?_, LvIn.app.2 ⟨h.inn, h2.inn⟩⟩
 ·rw [List.map_append, List.nodup_append]
  refine ⟨h.nd, h2.nd, fun x hx y hy => ?_⟩
  obtain ⟨a, ha, rfl⟩ := List.mem_map.1 hx
  obtain ⟨a2, ha2, rfl⟩ := List.mem_map.1 hy
  intro e
  have := hM a ha
  have := h2.lo a2 ha2
  simp only [Prod.mk.injEq] at e
  omega
 ·rcases List.mem_append.1 ha with ha | ha
  ·exact h.lo a ha
  ·exact Nat.le_trans hB (h2.lo a ha)
theorem LvIn.keep {w w' : World} {A : List Lf} (h : LvIn w A) (hk : ∀ a ∈ A, w'.heap[a.b]? = w.heap[a.b]?) : LvIn w' A := fun a ha => by
 obtain ⟨⟨n, hn⟩, hf⟩ := h a ha
 exact ⟨⟨n, (World.cell?_of_block (w := w) (a := ⟨a.b, a.o, none⟩) (hk a ha)).trans hn⟩, (World.frozen?_of_block (w := w) (a := ⟨a.b, a.o, none⟩) (hk a ha)).trans hf⟩
theorem Apt.keep {B : Nat} {w w' : World} {A : List Lf} (h : Apt B w A) (hk : ∀ a ∈ A, w'.heap[a.b]? = w.heap[a.b]?) : Apt B w' A := ⟨h.nd, h.lo, h.inn.keep hk⟩
def OwnT {α : Type} (el : World → α → List Value → List Lf → Prop) (ty : TypeId) (sz B : Nat) (w : World) (v : Value) (xs : List α) (Ls : List (List Lf)) : Prop :=
 ∃ cs : List (List Value), cs.length = xs.length ∧ Ls.length = xs.length ∧ (∀ c ∈ cs, c.length = sz) ∧ w.ownsRow B ty sz v xs.length cs.flatten ∧
  (∀ (i : Nat) (x : α) (c : List Value) (l : List Lf), xs[i]? = some x → cs[i]? = some c → Ls[i]? = some l → el w x c l) ∧ Apt B w Ls.flatten ∧ ∀ a ∈ Ls.flatten, v.ownBlock ≠ some a.b
theorem OwnT.nil {α : Type} (el : World → α → List Value → List Lf → Prop) (ty : TypeId) (sz B : Nat) (w : World) : OwnT el ty sz B w (.slice none 0 0) [] [] :=
 ⟨[], rfl, rfl, fun c hc => by simp at hc, by simpa using World.ownsRow_nil w B ty sz, fun i x c l hx => by simp at hx, by simpa using Apt.nil B w, fun a ha => by simp at ha⟩
theorem OwnT.keep {α : Type} {el : World → α → List Value → List Lf → Prop} {ty : TypeId} {sz B : Nat} {w w' : World} {v : Value} {xs : List α} {Ls : List (List Lf)} (h : OwnT el ty sz B w v xs Ls)
  (hst : ∀ x c l, el w x c l → (∀ a ∈ l, w'.heap[a.b]? = w.heap[a.b]?) → el w' x c l) (hz : w.heap.size ≤ w'.heap.size) (hr : ∀ b, v.ownBlock = some b → w'.heap[b]? = w.heap[b]?) (hl : ∀ a ∈ Ls.flatten, w'.heap[a.b]? = w.heap[a.b]?) :
  OwnT el ty sz B w' v xs Ls := by
 obtain ⟨cs, h1, h2, h3, h4, h5, h6, h7⟩ := h
 refine ⟨cs, h1, h2, h3, ?_, fun i x c l hx hc hl' => hst _ _ _ (h5 i x c l hx hc hl') (fun a ha => hl a (List.mem_flatten.2 ⟨l, List.mem_of_getElem? hl', ha⟩)), h6.keep hl, h7⟩
 refine ⟨h4.1, ?_⟩
 rcases h4.2 with hn | ⟨g, cap, cur, rfl, hb, hg, rest⟩
 ·exact .inl hn
 ·exact .inr ⟨g, cap, cur, rfl, hb, (hr g rfl).trans hg, rest⟩
theorem OwnT.below {α : Type} {el : World → α → List Value → List Lf → Prop} {ty : TypeId} {sz B : Nat} {w w' : World} {v : Value} {xs : List α} {Ls : List (List Lf)} (h : OwnT el ty sz B w v xs Ls)
  (hst : ∀ w w' x c l, el w x c l → (∀ a ∈ l, w'.heap[a.b]? = w.heap[a.b]?) → el w' x c l) (hb : Below w.heap.size w w') : OwnT el ty sz B w' v xs Ls := by
 have h' := h
 obtain ⟨cs, h1, h2, h3, h4, h5, h6, h7⟩ := h'
 exact h.keep (hst w w') hb.size (fun b hv => hb.block b (h4.lt b hv).2) (fun a ha => hb.block _ (h6.inn.lt ha))
theorem OwnT.snoc {α : Type} {el : World → α → List Value → List Lf → Prop} {ty : TypeId} {sz B M : Nat} {w w' : World} {v v' : Value} {xs : List α} {Ls : List (List Lf)} {x : α} {c : List Value} {l : List Lf} {cs : List (List Value)}
  (h1 : cs.length = xs.length) (h2 : Ls.length = xs.length) (h3 : ∀ c ∈ cs, c.length = sz) (h5 : ∀ (i : Nat) (x : α) (c : List Value) (l : List Lf), xs[i]? = some x → cs[i]? = some c → Ls[i]? = some l → el w x c l) (h6 : Apt B w Ls.flatten) (h7 : ∀ a ∈ Ls.flatten, v.ownBlock ≠ some a.b)
  (hst : ∀ w w' x c l, el w x c l → (∀ a ∈ l, w'.heap[a.b]? = w.heap[a.b]?) → el w' x c l) (hx : el w x c l) (hc : c.length = sz) (hA : Apt M w l) (hBM : B ≤ M) (hM : ∀ a ∈ Ls.flatten, a.b < M) (hvM : ∀ b, v.ownBlock = some b → b < M)
  (hrow : w'.ownsRow B ty sz v' (xs.length + 1) (cs.flatten ++ c)) (hg : w.grownBy w' v.ownBlock) (hfr : ∀ g, v'.ownBlock = some g → v.ownBlock = some g ∨ w.heap.size ≤ g) :
  OwnT el ty sz B w' v' (xs ++ [x]) (Ls ++ [l]) := by
 have hk : ∀ a ∈ Ls.flatten ++ l, w'.heap[a.b]? = w.heap[a.b]? := fun a ha => by
  rcases List.mem_append.1 ha with ha | ha
  ·exact hg.block _ (h6.inn.lt ha) (fun e => h7 a ha e.symm)
  ·exact hg.block _ (hA.inn.lt ha) (fun e => by have := hvM a.b e.symm; have := hA.lo a ha; omega)
 refine ⟨cs ++ [c], by simp [h1], by simp [h2], fun c' hc' => ?_, ?_, fun i y c' l' hy hc' hl' => ?_, ?_, fun a ha => ?_⟩
 ·rcases List.mem_append.1 hc' with hc' | hc'
  ·exact h3 c' hc'
  ·simp at hc'; subst hc'; exact hc
 ·simpa using hrow
 ·by_cases hi : i < xs.length
  ·rw [List.getElem?_append_left hi] at hy
   rw [List.getElem?_append_left (by omega)] at hc' hl'
   exact hst w w' _ _ _ (h5 i y c' l' hy hc' hl') (fun a ha => hk a (List.mem_append_left _ (List.mem_flatten.2 ⟨l', List.mem_of_getElem? hl', ha⟩)))
  ·have ei : i = xs.length := by
    have := (List.getElem?_eq_some_iff.1 hy).1
    simp at this
    omega
   subst ei
   simp at hy
   rw [← h1] at hc'
   simp at hc'
   rw [← h2] at hl'
   simp at hl'
   subst hy hc' hl'
   exact hst w w' _ _ _ hx (fun a ha => hk a (List.mem_append_right _ ha))
 ·have : (Ls ++ [l]).flatten = Ls.flatten ++ l := by simp
  rw [this]
  exact (h6.app hA hBM hM).keep hk
 ·have : (Ls ++ [l]).flatten = Ls.flatten ++ l := by simp
  rw [this] at ha
  intro e
  rcases hfr _ e with e1 | e1
  ·rcases List.mem_append.1 ha with ha | ha
   ·exact h7 a ha e1
   ·have := hvM a.b e1
    have := hA.lo a ha
    omega
  ·have : a.b < w.heap.size := by
    rcases List.mem_append.1 ha with ha | ha
    ·exact h6.inn.lt ha
    ·exact hA.inn.lt ha
   omega
theorem OwnT.lt {α : Type} {el : World → α → List Value → List Lf → Prop} {ty : TypeId} {sz B : Nat} {w : World} {v : Value} {xs : List α} {Ls : List (List Lf)} (h : OwnT el ty sz B w v xs Ls) : (∀ b, v.ownBlock = some b → B ≤ b ∧ b < w.heap.size) ∧ ∀ a ∈ Ls.flatten, B ≤ a.b ∧ a.b < w.heap.size := by
 obtain ⟨cs, h1, h2, h3, h4, h5, h6, h7⟩ := h
 exact ⟨fun b hb => h4.lt b hb, fun a ha => ⟨h6.lo a ha, h6.inn.lt ha⟩⟩
theorem flat_get {cs : List (List Value)} {sz : Nat} (h : ∀ c ∈ cs, c.length = sz) {i : Nat} {c : List Value} (hc : cs[i]? = some c) {j : Nat} (hj : j < sz) : cs.flatten[i * sz + j]? = c[j]? := by
 induction cs generalizing i with
 | nil => simp at hc
 | cons d cs ih =>
  cases i with
  | zero =>
   simp at hc
   subst hc
   rw [List.flatten_cons, List.getElem?_append_left (by rw [h d (by simp)]; omega)]
   simp
  | succ i =>
   rw [List.flatten_cons, List.getElem?_append_right (by rw [h d (by simp), Nat.succ_mul]; omega), h d (by simp)]
   have := ih (fun c hc => h c (by simp [hc])) (by simpa using hc)
   rw [← this]
   congr 1
   rw [Nat.succ_mul]
   omega
theorem OwnT.lv {α : Type} {el : World → α → List Value → List Lf → Prop} {ty : TypeId} {sz B : Nat} {w : World} {v : Value} {xs : List α} {Ls : List (List Lf)} (h : OwnT el ty sz B w v xs Ls) (P : α → Nat → Nat → List Lf → Prop)
  (hel : ∀ x c l b a, el w x c l → (∀ j u, c[j]? = some u → w.cell? ⟨b, a + j, none⟩ = some u) → (∀ o, w.frozen? ⟨b, o, none⟩ = false) → (∀ y ∈ l, y.b ≠ b) → LvIn w l → (l.map fun a => (a.b, a.o)).Nodup →
   ∃ L, P x b a L ∧ (L.map fun a => (a.b, a.o)).Nodup ∧ LvIn w L ∧ ∀ y ∈ L, y ∈ l ∨ y.b = b ∧ a ≤ y.o ∧ y.o < a + sz) :
  ∃ A, LvL P sz v xs A ∧ Apt B w A := by
 obtain ⟨cs, h1, h2, h3, h4, h5, h6, h7⟩ := h
 rcases id h4.2 with ⟨rfl, h0⟩ | ⟨g, cap, cur, rfl, hb, hg, -, -, -, -⟩
 ·have e0 : xs = [] := List.length_eq_zero_iff.1 h0
  subst e0
  exact ⟨[], ⟨none, 0, [], by simp, rfl, rfl, .inl rfl⟩, Apt.nil _ _⟩
 ·have hfz : ∀ o, w.frozen? ⟨g, o, none⟩ = false := fun o => by simp [World.frozen?, hg]
  have key : ∀ k, k ≤ xs.length → ∃ LL : List (List Lf), LL.length = k ∧ (∀ (i : Nat) (x : α) (l : List Lf), i < k → xs[i]? = some x → LL[i]? = some l → P x g (0 + i * sz) l) ∧ (LL.flatten.map fun a => (a.b, a.o)).Nodup ∧ LvIn w LL.flatten ∧
    ∀ y ∈ LL.flatten, y ∈ (Ls.take k).flatten ∨ y.b = g ∧ y.o < k * sz := by
   intro k
   induction k with
   | zero => intro _; exact ⟨[], rfl, fun i x l hi => by omega, by simp, LvIn.nil w, fun y hy => by simp at hy⟩
   | succ k ih =>
    intro hk
    obtain ⟨LL, q1, q2, q3, q4, q5⟩ := ih (by omega)
    obtain ⟨x, hx⟩ : ∃ x, xs[k]? = some x := ⟨_, List.getElem?_eq_getElem (by omega)⟩
    obtain ⟨c, hc⟩ : ∃ x, cs[k]? = some x := ⟨_, List.getElem?_eq_getElem (by omega)⟩
    obtain ⟨l, hl⟩ : ∃ x, Ls[k]? = some x := ⟨_, List.getElem?_eq_getElem (by omega)⟩
    have hlm : ∀ y ∈ l, y ∈ Ls.flatten := fun y hy => List.mem_flatten.2 ⟨l, List.mem_of_getElem? hl, hy⟩
    have hlen : c.length = sz := h3 c (List.mem_of_getElem? hc)
    have hnd : (Ls.take (k + 1)).flatten = (Ls.take k).flatten ++ l := by rw [List.take_add_one, hl]; simp
    have hpre : (((Ls.take (k + 1)).flatten.map fun a => (a.b, a.o))).Nodup := by
     have := h6.nd
     have e : Ls.flatten = (Ls.take (k + 1)).flatten ++ (Ls.drop (k + 1)).flatten := by rw [← List.flatten_append, List.take_append_drop]
     rw [e, List.map_append, List.nodup_append] at this
     exact this.1
    rw [hnd, List.map_append, List.nodup_append] at hpre
    obtain ⟨n1, n2, n3⟩ := hpre
    obtain ⟨L, r1, r2, r3, r4⟩ := hel x c l g (0 + k * sz) (h5 k x c l hx hc hl) (fun j u hu => by
     have hj : j < sz := by have := (List.getElem?_eq_some_iff.1 hu).1; omega
     have hks : k * sz + sz ≤ xs.length * sz := by rw [← Nat.succ_mul]; exact Nat.mul_le_mul_right _ hk
     rw [Nat.zero_add, h4.cellAt (k * sz + j) (by omega), flat_get h3 hc hj]
     exact hu) hfz (fun y hy e => h7 y (hlm y hy) (by simp [Value.ownBlock, e])) (h6.inn.sub hlm) n2
    refine ⟨LL ++ [L], by simp [q1], fun i y m hi hy hm => ?_, ?_, ?_, fun y hy => ?_⟩
    ·by_cases hik : i < k
     ·rw [List.getElem?_append_left (by omega)] at hm
      exact q2 i y m hik hy hm
     ·have : i = k := by omega
      subst this
      rw [hx] at hy
      cases hy
      rw [← q1] at hm
      simp at hm
      subst hm
      exact r1
    ·have e : (LL ++ [L]).flatten = LL.flatten ++ L := by simp
     rw [e, List.map_append, List.nodup_append]
     refine ⟨q3, r2, fun y hy z hz => ?_⟩
     obtain ⟨a1, m1, rfl⟩ := List.mem_map.1 hy
     obtain ⟨a2, m2, rfl⟩ := List.mem_map.1 hz
     intro ee
     simp only [Prod.mk.injEq] at ee
     rcases q5 a1 m1 with u1 | ⟨u1, u2⟩
     ·rcases r4 a2 m2 with v1 | ⟨v1, v2, v3⟩
      ·exact n3 (a1.b, a1.o) (List.mem_map_of_mem u1) (a2.b, a2.o) (List.mem_map_of_mem v1) (by rw [ee.1, ee.2])
      ·exact h7 a1 (mem_flatten_take u1) (by simp [Value.ownBlock, ee.1, v1])
     ·rcases r4 a2 m2 with v1 | ⟨v1, v2, v3⟩
      ·exact h7 a2 (hlm a2 v1) (by simp [Value.ownBlock, ← ee.1, u1])
      ·omega
    ·have e : (LL ++ [L]).flatten = LL.flatten ++ L := by simp
     rw [e]
     exact LvIn.app.2 ⟨q4, r3⟩
    ·have e : (LL ++ [L]).flatten = LL.flatten ++ L := by simp
     rw [e] at hy
     rcases List.mem_append.1 hy with hy | hy
     ·rcases q5 y hy with u1 | ⟨u1, u2⟩
      ·exact .inl (by rw [hnd]; exact List.mem_append_left _ u1)
      ·exact .inr ⟨u1, by rw [Nat.succ_mul]; omega⟩
     ·rcases r4 y hy with v1 | ⟨v1, v2, v3⟩
      ·exact .inl (by rw [hnd]; exact List.mem_append_right _ v1)
      ·exact .inr ⟨v1, by rw [Nat.succ_mul]; omega⟩
  obtain ⟨LL, q1, q2, q3, q4, q5⟩ := key xs.length (Nat.le_refl _)
  refine ⟨LL.flatten, ⟨some ⟨g, 0, none⟩, cap, LL, rfl, q1, rfl, .inr ⟨g, 0, rfl, fun i x l hx hl => q2 i x l (List.getElem?_eq_some_iff.1 hx).1 hx hl⟩⟩, q3, fun a ha => ?_, q4⟩
  rcases q5 a ha with u1 | ⟨u1, u2⟩
  ·exact h6.lo a (mem_flatten_take u1)
  ·rw [u1]; exact hb
end Go.Proofs.YtnbgnhhnpmmloaaGreatDoor
