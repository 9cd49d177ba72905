import Derived.Test.YtpbppdeleijhkaaGreatDoorG11
namespace Go.Proofs.YtpbppdeleijhkaaGreatDoor
open Go.ChangeShapes Go.WideShapes Go.ChangeAt Go.RowKit
set_option linter.unusedVariables false
set_option linter.unusedSimpArgs false
set_option maxRecDepth 100000
def Nf (BZ : Nat) (w : World) (v : Value) : Prop := ∀ b, v.ownBlock = some b → BZ ≤ b ∧ ∀ o, w.frozen? ⟨b, o, none⟩ = false
def RdEw (BZ : Nat) (w : World) (v : Value) (es : List Ev) : Prop :=
 ∃ (p : Option Addr) (c : Nat), v = .slice p es.length c ∧ Nf BZ w v ∧ (es = [] ∨ ∃ b o, p = some ⟨b, o, none⟩ ∧ ∀ i e, es[i]? = some e → w.cell? ⟨b, o + i * 2, none⟩ = some (.int .i64 e.1) ∧ ∃ u, w.cell? ⟨b, o + i * 2 + 1, none⟩ = some u ∧ Rd w u e.2 ∧ CapOK u ∧ Nf BZ w u)
def RdSw (BZ : Nat) (w : World) (v : Value) (ss : List Ses) : Prop :=
 ∃ (p : Option Addr) (c : Nat), v = .slice p ss.length c ∧ Nf BZ w v ∧ (ss = [] ∨ ∃ b o, p = some ⟨b, o, none⟩ ∧ ∀ i s, ss[i]? = some s → w.cell? ⟨b, o + i * 3, none⟩ = some (.int .u64 s.1) ∧ w.cell? ⟨b, o + i * 3 + 1, none⟩ = some (.int .i64 s.2.1) ∧ ∃ u, w.cell? ⟨b, o + i * 3 + 2, none⟩ = some u ∧ RdEw BZ w u s.2.2)
def RdNw (BZ : Nat) (w : World) (v : Value) (ns : List Nod) : Prop :=
 ∃ (p : Option Addr) (c : Nat), v = .slice p ns.length c ∧ Nf BZ w v ∧ (ns = [] ∨ ∃ b o, p = some ⟨b, o, none⟩ ∧ ∀ i nd, ns[i]? = some nd → ∃ P V H U, NodeAt w b (o + i * 8) nd P V H U ∧ Nf BZ w P ∧ Nf BZ w V ∧ Nf BZ w H ∧ Nf BZ w U)
theorem RdEw.rd {BZ : Nat} {w : World} {v : Value} {es : List Ev} (h : RdEw BZ w v es) : RdEc w v es := by
 obtain ⟨p, c, rfl, -, h⟩ := h
 refine ⟨p, c, rfl, ?_⟩
 rcases h with h | ⟨b, o, rfl, h⟩
 ·exact .inl h
 ·refine .inr ⟨b, o, rfl, fun i e he => ?_⟩
  obtain ⟨h1, u, h2, h3, h4, _⟩ := h i e he
  exact ⟨h1, u, h2, h3, h4⟩
theorem RdSw.rd {BZ : Nat} {w : World} {v : Value} {es : List Ses} (h : RdSw BZ w v es) : RdSc w v es := by
 obtain ⟨p, c, rfl, -, h⟩ := h
 refine ⟨p, c, rfl, ?_⟩
 rcases h with h | ⟨b, o, rfl, h⟩
 ·exact .inl h
 ·refine .inr ⟨b, o, rfl, fun i e he => ?_⟩
  obtain ⟨h1, h2, u, h3, h4⟩ := h i e he
  exact ⟨h1, h2, u, h3, h4.rd⟩
theorem RdNw.rd {BZ : Nat} {w : World} {v : Value} {es : List Nod} (h : RdNw BZ w v es) : RdN w v es := by
 obtain ⟨p, c, rfl, -, h⟩ := h
 refine ⟨p, c, rfl, ?_⟩
 rcases h with h | ⟨b, o, rfl, h⟩
 ·exact .inl h
 ·refine .inr ⟨b, o, rfl, fun i e he => ?_⟩
  obtain ⟨P, V, H, U, h1, _⟩ := h i e he
  exact ⟨P, V, H, U, h1⟩
theorem Own.aw {B BZ : Nat} {w : World} {p : Option Addr} {n c : Nat} {l : List Int} (h : Own B w (.slice p n c) l) (hB : BZ ≤ B) : Ab B w (fun u => Rd u (.slice p n c) l ∧ CapOK (.slice p n c) ∧ Nf BZ u (.slice p n c)) := by
 refine fun u hu => ⟨(h.ab u hu).1, (h.ab u hu).2, fun b hb => ?_⟩
 have hl := h.lt b hb
 refine ⟨Nat.le_trans hB hl.1, fun o => ?_⟩
 rcases h.2 with ⟨e, _⟩ | ⟨g, cap, cur, e, hg, hgg, _⟩
 ·simp only [Value.slice.injEq] at e
  rw [e.1] at hb
  simp [Value.ownBlock] at hb
 ·simp only [Value.slice.injEq] at e
  rw [e.1] at hb
  simp only [Value.ownBlock, Option.some.injEq] at hb
  subst hb
  rw [World.frozen?_of_block (w := w) (a := ⟨g, o, none⟩) (hu g hl.1 hl.2)]
  simp [World.frozen?, hgg]
theorem Nf.row {BZ : Nat} {u wr : World} {G n c m : Nat} {e : TypeId} {sz : Nat} {L : List Value} (ho : wr.ownsRow G e sz (.slice (some ⟨G, 0, none⟩) n c) m L) (hB : BZ ≤ G) (hu : u.heap[G]? = wr.heap[G]?) : Nf BZ u (.slice (some ⟨G, 0, none⟩) n c) := fun b hb => by
 simp only [Value.ownBlock, Option.some.injEq] at hb
 subst hb
 refine ⟨hB, fun o => ?_⟩
 rw [World.frozen?_of_block (w := wr) (a := ⟨G, o, none⟩) hu]
 rcases ho.2 with ⟨e, _⟩ | ⟨g, cap, cur, e, hg, hgg, _⟩
 ·simp at e
 ·simp only [Value.slice.injEq, Option.some.injEq, Addr.mk.injEq] at e
  obtain ⟨⟨rfl, -⟩, -⟩ := e
  simp [World.frozen?, hgg]
theorem toByteS_aw (p : Option Addr) (c n : Nat) (l : List Int) (en : Hid (l.length = n)) (w : World) (BZ : Nat) (hB : BZ ≤ w.heap.size) (h : Rd w (.slice p n c) l) (hl : n ≤ 1048576) :
  Calls Tryz.prog 10 #[.slice p n c] w fun e w' => ∃ p' c', e = .returned (.slice p' n c') ∧ Ab w.heap.size w' (fun u => Rd u (.slice p' n c') l ∧ CapOK (.slice p' n c') ∧ Nf BZ u (.slice p' n c')) ∧ Below w.heap.size w w' := by
 refine (toByteS_n p c n l en w h hl).mono ?_
 rintro e w' ⟨p', c', rfl, ho, hb⟩
 exact ⟨p', c', rfl, ho.aw hB, hb⟩
set_option maxHeartbeats 800000 in
theorem toUint64S_aw (p : Option Addr) (c n : Nat) (l : List Int) (en : Hid (l.length = n)) (w : World) (BZ : Nat) (hB : BZ ≤ w.heap.size) (h : RdU w (.slice p n c) l) (hn : n ≤ 1048576) :
  Calls Tryz.prog 149 #[.slice p n c] w fun e w' => ∃ p' c', e = .returned (.slice p' n c') ∧ Ab w.heap.size w' (fun u => RdU u (.slice p' n c') l ∧ Nf BZ u (.slice p' n c')) ∧ Below w.heap.size w w' := by
 obtain ⟨i, hi, hz0, hz1, hz2⟩ := info_parts Tryz.infoU64
 have HR := hide fun (w' : World) (hb : Below w.heap.size w w') => h.below hb
 clear h
 go_enter Tryz.func149, Tryz.ntmps149
 go_wp2_with (first | (at_make; refine wpList_make_full _ rfl _ _ 41 rfl w.heap.size 23 i (.int .u64 0) 1 Tryz.underlying41 hi hz0 hz1 _ _ _ _ n rfl rfl rfl rfl ?b2 ?b3 ?b4 ?_))
 case b2 => rw [hz2]; omega
 case b3 => unfold maxLen; omega
 case b4 => exact Nat.le_refl _
 intro w1 hown hg
 have hb := grown_below hg
 obtain ⟨G, eG⟩ : ∃ G, G = w.heap.size := ⟨_, rfl⟩
 rw [← eG] at hown ⊢
 have zG : G < w1.heap.size := (World.ownsRow.lt hown G rfl).2
 have hG1 : w.heap.size ≤ G := by omega
 have hG2 : G ≤ w.heap.size := by omega
 clear hg eG
 go_wp2
 go_loopw [4] (fun iv wr => ∃ (k : Nat) (L : List Value), k ≤ n ∧ iv = .int .i64 k ∧ Hid (wr.ownsRow G 23 1 (.slice (some ⟨G, 0, none⟩) n n) n L ∧ ∀ j, j < k → L[j]? = some (.int .u64 (l.getD j 0))) ∧ Below w.heap.size w wr ∧ G < wr.heap.size) (fun iv _ => n - (intOf iv).toNat)
 case atStart => exact ⟨0, _, Nat.zero_le _, rfl, ⟨hown, fun j hj => by omega⟩, hb, zG⟩
 case round =>
  obtain ⟨k, L, hk, rfl, hin, hbr, hzr⟩ := hrel
  by_cases hlt : k < n
  ·have hlt' : (k : Int) < (n : Int) := by omega
   have hkl : k < l.length := by rw [unhide en]; exact hlt
   obtain ⟨b, o, rfl, hcell⟩ : ∃ b o, p = some ⟨b, o, none⟩ ∧ wr.cell? ⟨b, o + k, none⟩ = some (.int .u64 (l.getD k 0)) := by
    obtain ⟨p', c', ev, hd⟩ := unhide HR _ hbr
    simp only [Value.slice.injEq] at ev
    obtain ⟨rfl, -, -⟩ := ev
    rcases hd with h0 | ⟨b, o, h1, h2⟩
    ·rw [h0] at hkl; simp at hkl
    ·exact ⟨b, o, h1, h2 k hkl⟩
   obtain ⟨ho, hL⟩ := unhide hin
   have hlen : L.length = n * 1 := ho.1
   obtain ⟨u0, hc0⟩ : ∃ u, wr.cell? ⟨G, k, none⟩ = some u := by
    rw [ho.cellAt k (by omega)]
    exact ⟨_, List.getElem?_eq_getElem (by omega)⟩
   have hf0 := ho.frozenAt k
   obtain ⟨y, ey⟩ : ∃ y, l.getD k 0 = y := ⟨_, rfl⟩
   rw [ey] at hcell
   have HIN : Hid ((wr.setCell ⟨G, k, none⟩ (.int .u64 y)).ownsRow G 23 1 (.slice (some ⟨G, 0, none⟩) n n) n (L.set k (.int .u64 y)) ∧ ∀ j, j < k + 1 → (L.set k (.int .u64 y))[j]? = some (.int .u64 (l.getD j 0))) := by
    refine ⟨(ho.stored k _).1, fun j hj => ?_⟩
    by_cases e : j = k
    ·subst e
     rw [List.getElem?_set_self (by omega), ey]
    ·rw [List.getElem?_set_ne (by omega)]
     exact hL j (by omega)
   have bb := hbr.setCell (p := ⟨G, k, none⟩) hG1 (.int .u64 y)
   clear ho hL hin hkl ey hlen hown hb
   go_wp2
   go_roundw
   case rel => exact ⟨k + 1, _, by omega, by go_num, HIN, bb, by simpa using hzr⟩
   case measure => simp [intOf]; omega
  ·have hlt' : ¬ (k : Int) < (n : Int) := by omega
   have ekn : k = n := by omega
   subst ekn
   obtain ⟨ho, hL⟩ := unhide hin
   have hfin : Ab w.heap.size wr (fun u => RdU u (.slice (some ⟨G, 0, none⟩) k k) l ∧ Nf BZ u (.slice (some ⟨G, 0, none⟩) k k)) := by
    intro u hu
    refine ⟨?_, Nf.row ho (by omega) (hu G (by omega) hzr)⟩
    refine ⟨some ⟨G, 0, none⟩, k, by rw [unhide en], ?_⟩
    refine .inr ⟨G, 0, rfl, fun i hi => ?_⟩
    rw [unhide en] at hi
    rw [Nat.zero_add, cell_at_heap (hu G (by omega) hzr), ho.cellAt i (by omega)]
    exact hL i hi
   clear ho hL hin hown hb
   go_wp2
   go_ret
   exact ⟨_, _, rfl, hfin, hbr⟩
set_option maxHeartbeats 3200000 in
theorem toEvent_aw (K : Int) (p : Option Addr) (c n : Nat) (P : List Int) (en : Hid (P.length = n)) (w : World) (BZ : Nat) (hB : BZ ≤ w.heap.size) (h : Rd w (.slice p n c) P) (hn : n ≤ 1048576) :
  Calls Tryz.prog 178 #[.agg #[.int .i64 K, .slice p n c]] w fun r w' => ∃ p1 d1, r = .returned (.agg #[.int .i64 K, .slice p1 n d1]) ∧ Ab w.heap.size w' (fun u => (Rd u (.slice p1 n d1) P ∧ CapOK (.slice p1 n d1) ∧ Nf BZ u (.slice p1 n d1))) ∧ Below w.heap.size w w' := by
 have R1 := hide fun (w' : World) (hb : Below w.heap.size w w') => h.below hb
 clear h
 go_enter Tryz.func178, Tryz.ntmps178
 go_wp2_with fail
 obtain ⟨W1, hW1⟩ : ∃ W, W = w.alloc (.cells #[.int .i64 K, .slice p n c] 206) := ⟨_, rfl⟩
 obtain ⟨W2, hW2⟩ : ∃ W, W = W1.alloc (.cells #[.int .i64 0, .slice none 0 0] 169) := ⟨_, rfl⟩
 obtain ⟨W, hW⟩ : ∃ W, W = W2.alloc (.cells #[.int .i64 K, .slice none 0 0] 169) := ⟨_, rfl⟩
 have z1 : W1.heap.size = w.heap.size + 1 := by rw [hW1]; simp
 have z2 : W2.heap.size = w.heap.size + 2 := by rw [hW2]; simp; omega
 have zW : W.heap.size = w.heap.size + 3 := by rw [hW]; simp; omega
 have b1 : Below w.heap.size w W1 := by rw [hW1]; exact (Below.refl _ _).alloc (Nat.le_refl _) _
 have b2 : Below W1.heap.size W1 W2 := by rw [hW2]; exact (Below.refl _ _).alloc (Nat.le_refl _) _
 have b3 : Below W2.heap.size W2 W := by rw [hW]; exact (Below.refl _ _).alloc (Nat.le_refl _) _
 have bW : Below w.heap.size w W := Below.step (Below.step b1 b2) b3
 obtain ⟨A, eA⟩ : ∃ A, A = w.heap.size := ⟨_, rfl⟩
 obtain ⟨R, eR⟩ : ∃ R, R = A + 1 := ⟨_, rfl⟩
 obtain ⟨C, eC⟩ : ∃ C, C = R + 1 := ⟨_, rfl⟩
 have hA : CellsAre W A [.int .i64 K, .slice p n c] := by
  have h0 : CellsAre W1 A [.int .i64 K, .slice p n c] := by rw [hW1, eA]; exact CellsAre.alloc w #[.int .i64 K, .slice p n c] _
  exact (h0.below (by omega) b2).below (by omega) b3
 have hR : CellsAre W R [.int .i64 0, .slice none 0 0] := by
  have h0 : CellsAre W2 R [.int .i64 0, .slice none 0 0] := by
   rw [hW2, show R = W1.heap.size by omega]; exact CellsAre.alloc W1 #[.int .i64 0, .slice none 0 0] _
  exact h0.below (by omega) b3
 have hC : CellsAre W C [.int .i64 K, .slice none 0 0] := by rw [hW, show C = W2.heap.size by omega]; exact CellsAre.alloc W2 #[.int .i64 K, .slice none 0 0] _
 rw [← hW1, ← hW2, ← hW, ← eA, ← eR, ← eC]
 have HE := hide (And.intro eA (And.intro eR (And.intro eC zW)))
 have BW := hide bW
 have HA := hide hA
 have HRR := hide hR
 have HC := hide hC
 clear hW hW1 hW2 eA eR eC zW bW z1 z2 b1 b2 b3 hA hR hC
 refine (toByteS_aw p c n P en _ BZ (Nat.le_trans hB (unhide BW).size) (unhide R1 _ (unhide BW)) hn).mono ?_
 rintro r w1 ⟨p1, d1, rfl, ab1, hb1⟩
 have ZS1 : Hid (W.heap.size ≤ W.heap.size ∧ W.heap.size ≤ w1.heap.size) := ⟨Nat.le_refl _, hb1.size⟩
 have HA_1 := hide ((unhide HA).below (by obtain ⟨eA, eR, eC, zW⟩ := unhide HE; have := unhide ZS1; omega) hb1)
 have HRR_1 := hide ((unhide HRR).below (by obtain ⟨eA, eR, eC, zW⟩ := unhide HE; have := unhide ZS1; omega) hb1)
 have HC_1 := hide ((unhide HC).below (by obtain ⟨eA, eR, eC, zW⟩ := unhide HE; have := unhide ZS1; omega) hb1)
 have B1 := hide (Below.step (unhide BW) hb1)
 have AB1_1 := hide (Ab.mono (B := W.heap.size) ab1 (unhide ZS1).1)
 clear ab1 hb1
 have ca0 := (unhide HA_1).1 0 _ rfl
 have ca1 := (unhide HA_1).1 1 _ rfl
 have cc0 := (unhide HC_1).1 0 _ rfl
 have cc1 := (unhide HC_1).1 1 _ rfl
 have fC := (unhide HC_1).2
 have hAC : ¬ C = A := by obtain ⟨eA, eR, eC, zW⟩ := unhide HE; omega
 have cr0 := (unhide HRR_1).1 0 _ rfl
 have cr1 := (unhide HRR_1).1 1 _ rfl
 have fR := (unhide HRR_1).2
 have hAR : ¬ R = A := by obtain ⟨eA, eR, eC, zW⟩ := unhide HE; omega
 have hRC : ¬ R = C := by obtain ⟨eA, eR, eC, zW⟩ := unhide HE; omega
 have hCR : ¬ C = R := by obtain ⟨eA, eR, eC, zW⟩ := unhide HE; omega
 go_wp2
 obtain ⟨eA, eR, eC, zW⟩ := unhide HE
 have zz := unhide ZS1
 refine bodyPost_ret (v := .agg #[.int .i64 K, .slice p1 n d1]) (by simp [results, Tryz.results178, go_sem, cc0, cc1, cr0, cr1, hAC, hAR, hRC, hCR]) rfl ⟨p1, d1, rfl, Ab.mono (B := w.heap.size) (B' := W.heap.size) ?_ (by omega), ?_⟩
 ·iterate 3 (refine Ab.set ?_ (by simp; omega) _)
  exact unhide AB1_1
 ·iterate 3 (refine Below.setCell ?_ (by simp; omega) _)
  exact unhide B1
set_option maxHeartbeats 3200000 in
theorem toEventS_aw (p : Option Addr) (c n : Nat) (l : List Ev) (en : Hid (l.length = n)) (w : World) (BZ : Nat) (hB : BZ ≤ w.heap.size) (h : RdE w (.slice p n c) l) (hn : n ≤ 1048576) (hel : Hid (∀ y ∈ l, y.2.length ≤ 1048576)) :
  Calls Tryz.prog 148 #[.slice p n c] w fun e w' => ∃ p' c', e = .returned (.slice p' n c') ∧ Ab w.heap.size w' (fun u => RdEw BZ u (.slice p' n c') l) ∧ Below w.heap.size w w' := by
 obtain ⟨i, hi, hz0, hz1, hz2⟩ := info_parts Tryz.infoEv
 have HR := hide fun (w' : World) (hb : Below w.heap.size w w') => h.below hb
 clear h
 go_enter Tryz.func148, Tryz.ntmps148
 go_wp2_with (first | (at_make; refine wpList_make_full _ rfl _ _ 63 rfl w.heap.size 169 i _ 2 Tryz.underlying63 hi hz0 hz1 _ _ _ _ n rfl rfl rfl rfl ?b2 ?b3 ?b4 ?_))
 case b2 => rw [hz2]; omega
 case b3 => unfold maxLen; omega
 case b4 => exact Nat.le_refl _
 intro w1 hown hg
 have hb := grown_below hg
 obtain ⟨G, eG⟩ : ∃ G, G = w.heap.size := ⟨_, rfl⟩
 rw [← eG] at hown ⊢
 have zG : G < w1.heap.size := (World.ownsRow.lt hown G rfl).2
 have hG1 : w.heap.size ≤ G := by omega
 have hG2 : G ≤ w.heap.size := by omega
 clear hg eG
 go_wp2_with fail
 go_loopw [4] (fun iv wr => ∃ (k : Nat) (L : List Value), k ≤ n ∧ iv = .int .i64 k ∧ Hid (wr.ownsRow G 169 2 (.slice (some ⟨G, 0, none⟩) n n) n L ∧ ∀ (j : Nat) (y : Ev), j < k → l[j]? = some y → L[j * 2]? = some (.int .i64 y.1) ∧ ∃ v, L[j * 2 + 1]? = some v ∧ Ab (G + 1) wr (fun u => Rd u v y.2 ∧ CapOK v ∧ Nf BZ u v)) ∧ Below w.heap.size w wr ∧ G < wr.heap.size) (fun iv _ => n - (intOf iv).toNat)
 case atStart => exact ⟨0, _, Nat.zero_le _, rfl, ⟨hown, fun j y hj => by omega⟩, hb, zG⟩
 case round =>
  obtain ⟨k, L, hk, rfl, hin, hbr, hzr⟩ := hrel
  by_cases hlt : k < n
  ·have hlt' : (k : Int) < (n : Int) := by omega
   have hkl : k < l.length := by rw [unhide en]; exact hlt
   obtain ⟨y, hy⟩ : ∃ y, l[k]? = some y := ⟨_, List.getElem?_eq_getElem hkl⟩
   have hby := unhide hel y (List.mem_of_getElem? hy)
   obtain ⟨K, P⟩ := y
   obtain ⟨b, o, rfl, hcK, u, hcP, hrP⟩ : ∃ b o, p = some ⟨b, o, none⟩ ∧ wr.cell? ⟨b, o + k * 2, none⟩ = some (.int .i64 K) ∧ ∃ u, wr.cell? ⟨b, o + k * 2 + 1, none⟩ = some u ∧ Rd wr u P := by
    obtain ⟨p', c', ev, hd⟩ := unhide HR _ hbr
    simp only [Value.slice.injEq] at ev
    obtain ⟨rfl, -, -⟩ := ev
    rcases hd with h0 | ⟨b, o, h1, h2⟩
    ·rw [h0] at hkl; simp at hkl
    ·exact ⟨b, o, h1, h2 k _ hy⟩
   obtain ⟨pp, pc, m, rfl, em⟩ := hrP.slc
   have hm : m ≤ 1048576 := by rw [← unhide em]; exact hby
   have HRP := hide hrP
   clear hrP
   clear hkl hby
   go_wp2_with fail
   refine (toEvent_aw K pp pc m P em _ BZ (Nat.le_trans hB hbr.size) (unhide HRP) hm).mono ?_
   rintro r w2 ⟨p1, d1, rfl, hab, hb2⟩
   have b2 := Below.step hbr hb2
   obtain ⟨ho, hL⟩ := unhide hin
   have ho2 := ho.kept (grown_of_b hb2) (by right; simp [Value.ownBlock])
   have hlen : L.length = n * 2 := ho.1
   obtain ⟨u0, hc0⟩ : ∃ u, w2.cell? ⟨G, k * 2, none⟩ = some u := by
    rw [ho2.cellAt (k * 2) (by omega)]
    exact ⟨_, List.getElem?_eq_getElem (by omega)⟩
   have hf0 := ho2.frozenAt (k * 2)
   obtain ⟨u1, hc1⟩ : ∃ u, w2.cell? ⟨G, k * 2 + 1, none⟩ = some u := by
    rw [ho2.cellAt (k * 2 + 1) (by omega)]
    exact ⟨_, List.getElem?_eq_getElem (by omega)⟩
   have hf1 := ho2.frozenAt (k * 2 + 1)
   have hzz : G < w2.heap.size := Nat.lt_of_lt_of_le hzr hb2.size
   obtain ⟨w3, hw3⟩ : ∃ w3, w3 = ((w2.setCell ⟨G, k * 2, none⟩ (.int .i64 K)).setCell ⟨G, k * 2 + 1, none⟩ (.slice p1 m d1)) := ⟨_, rfl⟩
   have HIN : Hid (w3.ownsRow G 169 2 (.slice (some ⟨G, 0, none⟩) n n) n (((L).set (k * 2) (.int .i64 K)).set (k * 2 + 1) (.slice p1 m d1)) ∧ ∀ (j : Nat) (y : Ev), j < k + 1 → l[j]? = some y → (((L).set (k * 2) (.int .i64 K)).set (k * 2 + 1) (.slice p1 m d1))[j * 2]? = some (.int .i64 y.1) ∧ ∃ v, (((L).set (k * 2) (.int .i64 K)).set (k * 2 + 1) (.slice p1 m d1))[j * 2 + 1]? = some v ∧ Ab (G + 1) w3 (fun u => Rd u v y.2 ∧ CapOK v ∧ Nf BZ u v)) := by
    refine ⟨by rw [hw3]; exact (World.ownsRow.stored ((World.ownsRow.stored (ho2) (k * 2) _).1) (k * 2 + 1) _).1, fun j z hj hz => ?_⟩
    by_cases ej : j = k
    ·rw [ej] at hz ⊢
     rw [hy] at hz
     cases hz
     refine ⟨by rw [List.getElem?_set_ne (by omega)]; exact List.getElem?_set_self (by first | omega | (simp only [List.length_set]; omega)), _, by  exact List.getElem?_set_self (by first | omega | (simp only [List.length_set]; omega)), ?_⟩
     exact (by rw [hw3]; exact Ab.set (Ab.set (Ab.mono hab (by omega)) (a := ⟨G, k * 2, none⟩) (by show G < _; omega) _) (a := ⟨G, k * 2 + 1, none⟩) (by show G < _; omega) _)
    ·obtain ⟨q1, v, q2, q3⟩ := hL j z (by omega) hz
     refine ⟨(by rw [List.getElem?_set_ne (by omega)]; rw [List.getElem?_set_ne (by omega)]; exact q1), v, (by rw [List.getElem?_set_ne (by omega)]; rw [List.getElem?_set_ne (by omega)]; exact q2), ?_⟩
     exact (by rw [hw3]; exact Ab.set (Ab.set (q3.below hb2) (a := ⟨G, k * 2, none⟩) (by show G < _; omega) _) (a := ⟨G, k * 2 + 1, none⟩) (by show G < _; omega) _)
   have bb : Below w.heap.size w w3 := by rw [hw3]; exact Below.setCell (Below.setCell (b2) (p := ⟨G, k * 2, none⟩) hG1 _) (p := ⟨G, k * 2 + 1, none⟩) hG1 _
   have zz3 : G < w3.heap.size := by rw [hw3]; simpa using hzz
   clear ho hL hin ho2 hab hlen hown hb b2 hb2 hbr
   go_wp2_with fail
   rw [← hw3]
   clear hw3 hc0 hc1 hf0 hf1 hcK hcP
   go_wp2
   go_roundw
   case rel => exact ⟨k + 1, _, by omega, by go_num, HIN, bb, zz3⟩
   case measure => simp [intOf]; omega
  ·have hlt' : ¬ (k : Int) < (n : Int) := by omega
   have ekn : k = n := by omega
   subst ekn
   obtain ⟨ho, hL⟩ := unhide hin
   have hfin : Ab w.heap.size wr (fun u => RdEw BZ u (.slice (some ⟨G, 0, none⟩) k k) l) := by
    intro u hu
    refine ⟨some ⟨G, 0, none⟩, k, by rw [unhide en], Nf.row ho (by omega) (hu G (by omega) hzr), ?_⟩
    refine .inr ⟨G, 0, rfl, fun i y hy => ?_⟩
    have hil : i < k := by rw [← unhide en]; exact (List.getElem?_eq_some_iff.1 hy).1
    have hcc : ∀ j, j < k * 2 → u.cell? ⟨G, 0 + j, none⟩ = L[j]? := fun j hj => by
     rw [Nat.zero_add, cell_at_heap (hu G (by omega) hzr), ho.cellAt j hj]
    have hu' : ∀ q, G + 1 ≤ q → q < wr.heap.size → u.heap[q]? = wr.heap[q]? := fun q h1 h2 => hu q (by omega) h2
    obtain ⟨q1, v, q2, q3⟩ := hL i y hil hy
    refine ⟨by rw [hcc _ (by omega)]; exact q1, v, by rw [Nat.add_assoc, hcc _ (by omega)]; exact q2, (q3 u hu').1, (q3 u hu').2.1, (q3 u hu').2.2⟩
   clear ho hL hin hown hb
   go_wp2
   go_ret
   exact ⟨_, _, rfl, hfin, hbr⟩
end Go.Proofs.YtpbppdeleijhkaaGreatDoor
