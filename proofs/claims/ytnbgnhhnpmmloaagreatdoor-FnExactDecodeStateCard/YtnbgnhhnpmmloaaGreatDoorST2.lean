import Derived.Test.YtnbgnhhnpmmloaaGreatDoorK25
import Derived.Lib.ConvBytes
namespace Go.Proofs.YtnbgnhhnpmmloaaGreatDoor
open Go.ChangeShapes Go.WideShapes Go.ChangeAt Go.RowKit
set_option linter.unusedVariables false
set_option linter.unusedSimpArgs false
set_option maxRecDepth 100000
structure PB (w : World) (M N : Nat) (v : Value) (xs : List Int) (A : List Lf) : Prop where
 rd : Rd w v xs
 cap : CapOK v
 lv : LvB v xs A
 ap : Apt M w A
 hi : ∀ a ∈ A, a.b < N
structure PU (w : World) (M N : Nat) (v : Value) (xs : List Int) (A : List Lf) : Prop where
 rd : RdU w v xs
 lv : LvU v xs A
 ap : Apt M w A
 hi : ∀ a ∈ A, a.b < N
theorem PB.below {w w' : World} {M N : Nat} {v : Value} {xs : List Int} {A : List Lf} (h : PB w M N v xs A) (hb : Below w.heap.size w w') : PB w' M N v xs A :=
 ⟨h.rd.below hb, h.cap, h.lv, h.ap.keep (fun a ha => hb.block _ (h.ap.inn.lt ha)), h.hi⟩
theorem PU.below {w w' : World} {M N : Nat} {v : Value} {xs : List Int} {A : List Lf} (h : PU w M N v xs A) (hb : Below w.heap.size w w') : PU w' M N v xs A :=
 ⟨h.rd.below hb, h.lv, h.ap.keep (fun a ha => hb.block _ (h.ap.inn.lt ha)), h.hi⟩
theorem Own.pb {B : Nat} {w : World} {p : Option Addr} {n c : Nat} {l : List Int} (h : Own B w (.slice p n c) l) : ∃ A, PB w B w.heap.size (.slice p n c) l A := by
 obtain ⟨A, q1, q2, q3, q4⟩ := row_lv (kd := .u8) h
 exact ⟨A, h.rd, ⟨_, _, _, rfl, h.cap, h.capMax⟩, q1, q2, fun a ha => q2.inn.lt ha⟩
theorem Apt.appD {B : Nat} {w : World} {A A2 : List Lf} (h : Apt B w A) (h2 : Apt B w A2) (hd : ∀ a ∈ A, ∀ a2 ∈ A2, a.b ≠ a2.b) : Apt B w (A ++ A2) := by
 refine ⟨?_, fun a ha => ?_, LvIn.app.2 ⟨h.inn, h2.inn⟩⟩
 ·rw [List.map_append, List.nodup_append]
  refine ⟨h.nd, h2.nd, fun x hx y hy => ?_⟩
  obtain ⟨a, ha, rfl⟩ := List.mem_map.1 hx
  obtain ⟨a2, ha2, rfl⟩ := List.mem_map.1 hy
  intro e
  simp only [Prod.mk.injEq] at e
  exact hd a ha a2 ha2 e.1
 ·rcases List.mem_append.1 ha with ha | ha
  ·exact h.lo a ha
  ·exact h2.lo a ha
theorem bstr_getD {l : List Int} (hB : Byt l) (j : Nat) (hj : j < l.length) : (((bstr l).data.toList.getD j 0).toNat : Int) = l.getD j 0 := by
 have hj' : j < (bstr l).size := by rw [bstr_size]; exact hj
 have h := bstr_get hB j hj'
 rw [← h]
 have hl : j < (bstr l).data.toList.length := by rw [bstr_data']; simpa using hj
 rw [List.getD_eq_getElem?_getD, List.getElem?_eq_getElem hl]
 rfl
theorem step_convP {w : World} {ops : Array Oper} {o : Oper} {a : Act} {K : Act → World → Prop} {Q : Exit → Act → World → Prop} {E : Prop} (hgd : o.guard = none) (x : Operand) (hop : o.op = Op.convert 9 22 x) (l : List Int) (hx : a.eval x = .string (bstr l)) (hB : Byt l) (hl : l.length ≤ 1048576)
  (hK : ∀ p' c' w' A, PB w' w.heap.size w'.heap.size (.slice p' l.length c') l A → Below w.heap.size w w' → K (a.put o.dst (.slice p' l.length c')) w') :
  if Region.wanted o (yielded ops a.tmps) = true then Oper.wp Tryz.prog o a w K Q else E := by
 have hw : Region.wanted o (yielded ops a.tmps) = true := by simp [Region.wanted, hgd]
 rw [if_pos hw]
 have hrun := Lib.run_convert_string_bytes (P := Tryz.prog) w 9 22 5 (bstr l) Tryz.underlying9 Tryz.underlying22 Tryz.underlying5
 rw [bstr_size] at hrun
 unfold Oper.wp
 simp only [execOp, hop, hx, Sem.run_bind, Sem.run_pure, Result.andThen_ok, hrun, Result.andThen]
 obtain ⟨W, hW⟩ : ∃ W, W = Lib.bytesWorld w 5 (bstr l) := ⟨_, rfl⟩
 have hsz : W.heap.size = w.heap.size + 1 := by rw [hW]; exact Lib.bytesWorld_size _ _ _
 have hcell : ∀ j, j < l.length → W.cell? ⟨w.heap.size, 0 + j, none⟩ = some (.int .u8 (l.getD j 0)) := fun j hj => by
  rw [hW, Nat.zero_add, Lib.bytesWorld_cell _ _ _ _ (by rw [bstr_size]; exact hj), bstr_getD hB j hj]
 have hfz : ∀ j, j < l.length → W.frozen? ⟨w.heap.size, 0 + j, none⟩ = false := fun j hj => by
  have hn := Lib.bytesWorld_at_new w 5 (bstr l)
  have hs : j < (Lib.bytesCells w 5 (bstr l)).size := by
   simp only [Lib.bytesCells, Array.size_append, Array.size_map]
   have : (bstr l).data.size = l.length := bstr_size l
   omega
  rw [hW, Nat.zero_add]
  simp only [World.frozen?, hn]
  simp
  omega
 have hb : Below w.heap.size w W := by
  refine ⟨by rw [hW]; rfl, by rw [hW]; rfl, by rw [hW]; rfl, by omega, fun k hk => by rw [hW]; exact Lib.bytesWorld_at_old _ _ _ _ hk⟩
 have hcap : CapOK (.slice (some ⟨w.heap.size, 0, none⟩) l.length (grownCap w l.length 0 5)) := ⟨_, _, _, rfl, grownCap_ge _ _ _ _, grownCap_le_maxLen _ _ _ _ (by unfold maxLen; omega)⟩
 rw [← hW]
 clear hW hrun
 refine hK _ _ _ ((List.range l.length).map fun i => ⟨w.heap.size, 0 + i, .u8⟩) ⟨⟨_, _, rfl, .inr ⟨w.heap.size, 0, rfl, hcell⟩⟩, hcap, ⟨some ⟨w.heap.size, 0, none⟩, _, (List.range l.length).map fun i => [⟨w.heap.size, 0 + i, .u8⟩], rfl, by simp, ?_, .inr ⟨w.heap.size, 0, rfl, fun i x l' hx hl => ?_⟩⟩, ⟨?_, fun a ha => ?_, fun a ha => ?_⟩, fun a ha => ?_⟩ hb
 ·induction (List.range l.length) with
  | nil => rfl
  | cons i r ih => rw [List.map_cons, List.map_cons, List.flatten_cons, ← ih]; rfl
 ·obtain ⟨hi, e⟩ := List.getElem?_eq_some_iff.1 hl
  simp at e
  rw [← e, Nat.mul_one, Nat.zero_add]
  rfl
 ·rw [List.map_map, List.Nodup, List.pairwise_map]
  exact List.nodup_range.imp (fun {i j} hij => by simpa using hij)
 ·obtain ⟨i, hi, rfl⟩ := List.mem_map.1 ha
  exact Nat.le_refl _
 ·obtain ⟨i, hi, rfl⟩ := List.mem_map.1 ha
  exact ⟨⟨_, hcell i (by simpa using hi)⟩, hfz i (by simpa using hi)⟩
 ·obtain ⟨i, hi, rfl⟩ := List.mem_map.1 ha
  simp only
  omega
theorem elNo.mk4 {w : World} {nd : Nod} {B : Nat} {p0 p1 p4 p7 : Option Addr} {c0 c1 c4 c7 M0 N0 M1 N1 M4 N4 M7 N7 : Nat} {l0 l1 l4 l7 : List Lf} (h0 : PB w M0 N0 (.slice p0 nd.path.length c0) nd.path l0) (h1 : PB w M1 N1 (.slice p1 nd.value.length c1) nd.value l1) (h4 : PU w M4 N4 (.slice p4 nd.holders.length c4) nd.holders l4) (h7 : PU w M7 N7 (.slice p7 nd.watchers.length c7) nd.watchers l7)
  (b0 : B ≤ M0) (b1 : B ≤ M1) (b4 : B ≤ M4) (b7 : B ≤ M7) (d01 : N0 ≤ M1 ∨ N1 ≤ M0) (d04 : N0 ≤ M4 ∨ N4 ≤ M0) (d07 : N0 ≤ M7 ∨ N7 ≤ M0) (d14 : N1 ≤ M4) (d17 : N1 ≤ M7) (d47 : N4 ≤ M7) :
  elNo w nd [.slice p0 nd.path.length c0, .slice p1 nd.value.length c1, .int .u64 nd.owner, .int .i64 nd.mode, .slice p4 nd.holders.length c4, .int .u64 nd.epoch, .int .u64 nd.gen, .slice p7 nd.watchers.length c7] (l0 ++ (l1 ++ (l4 ++ l7))) ∧ Apt B w (l0 ++ (l1 ++ (l4 ++ l7))) := by
 refine ⟨⟨p0, c0, p1, c1, p4, c4, p7, c7, l0, l1, l4, l7, rfl, rfl, ⟨h0.rd, h0.cap, h0.lv⟩, ⟨h1.rd, h1.lv⟩, ⟨h4.rd, h4.lv⟩, ⟨h7.rd, h7.lv⟩⟩, ?_⟩
 refine (h0.ap.mono b0).appD ((h1.ap.mono b1).appD ((h4.ap.mono b4).appD (h7.ap.mono b7) fun a ha a2 ha2 e => ?_) fun a ha a2 ha2 e => ?_) fun a ha a2 ha2 e => ?_
 ·have := h4.hi a ha; have := h7.ap.lo a2 ha2; omega
 ·rcases List.mem_append.1 ha2 with ha2 | ha2
  ·have := h1.hi a ha; have := h4.ap.lo a2 ha2; omega
  ·have := h1.hi a ha; have := h7.ap.lo a2 ha2; omega
 ·rcases List.mem_append.1 ha2 with ha2 | ha2
  ·have := h0.hi a ha; have := h0.ap.lo a ha; have := h1.hi a2 ha2; have := h1.ap.lo a2 ha2; omega
  ·rcases List.mem_append.1 ha2 with ha2 | ha2
   ·have := h0.hi a ha; have := h0.ap.lo a ha; have := h4.hi a2 ha2; have := h4.ap.lo a2 ha2; omega
   ·have := h0.hi a ha; have := h0.ap.lo a ha; have := h7.hi a2 ha2; have := h7.ap.lo a2 ha2; omega
set_option maxHeartbeats 6400000 in
theorem node_any (g h u : Nat) (V : Value) (nd : Nod) (w : World) (hk : KN w g h u V nd) (hh : nd.holders.Pairwise (· < ·)) (hu : nd.watchers.Pairwise (· < ·)) (l1 : nd.path.length ≤ 1048576) (l2 : nd.value.length ≤ 1048576) (l3 : nd.holders.length ≤ 1048576) (l4 : nd.watchers.length ≤ 1048576) (hby : Byt nd.path) :
  Calls Tryz.prog 142 #[.pointer (some ⟨g, 0, none⟩), .string (bstr nd.path)] w fun r w' => ∃ c l, r = .returned (.agg c) ∧ elNo w' nd c.toList l ∧ Apt w.heap.size w' l ∧ Below w.heap.size w w' := by
 obtain ⟨hblk, hval, ⟨D1, o1, s1⟩, ⟨D2, o2, s2⟩⟩ := hk
 obtain ⟨pv, cv, nv, rfl, ev⟩ := hval.slc
 have hA7 : At7 w g (.slice pv nv cv) (.int .u64 nd.owner) (.int .i64 nd.mode) (.map (some h)) (.int .u64 nd.epoch) (.int .u64 nd.gen) (.map (some u)) := ⟨cells_at hblk 0, cells_at hblk 1, cells_at hblk 2, cells_at hblk 3, cells_at hblk 4, cells_at hblk 5, cells_at hblk 6⟩
 obtain ⟨W0, hW0⟩ : ∃ W, W = (w.alloc (.cells #[.slice none 0 0, .slice none 0 0, .int .u64 0, .int .i64 0, .slice none 0 0, .int .u64 0, .int .u64 0, .slice none 0 0] 66)) := ⟨_, rfl⟩
 have b0 : Below w.heap.size w W0 := by rw [hW0]; exact (Below.refl _ _).alloc (Nat.le_refl _) _
 have z0 : W0.heap.size = w.heap.size + 1 := by rw [hW0]; simp
 have r0 : CellsAre W0 w.heap.size [.slice none 0 0, .slice none 0 0, .int .u64 0, .int .i64 0, .slice none 0 0, .int .u64 0, .int .u64 0, .slice none 0 0] := by rw [hW0]; exact CellsAre.alloc w #[.slice none 0 0, .slice none 0 0, .int .u64 0, .int .i64 0, .slice none 0 0, .int .u64 0, .int .u64 0, .slice none 0 0] _
 have hcf1 : ∀ (vs : Array Value) (w : World), (callFunc 54 vs).run Tryz.prog w = .ok (.enter 54 vs) w := fun vs w => by kernel_rfl
 have hcf2 : ∀ (vs : Array Value) (w : World), (callFunc 167 vs).run Tryz.prog w = .ok (.enter 167 vs) w := fun vs w => by kernel_rfl
 have HCF := hide (And.intro hcf1 hcf2)
 have SZ1 := hide (Nat.le_trans o1.size_le l3)
 have SZ2 := hide (Nat.le_trans o2.size_le l4)
 clear hcf1 hcf2
 obtain ⟨ow, mo, ep, ge, e1, e2, e3, e4⟩ : ∃ a b c d, nd.owner = a ∧ nd.mode = b ∧ nd.epoch = c ∧ nd.gen = d := ⟨_, _, _, _, rfl, rfl, rfl, rfl⟩
 rw [e1, e2, e3, e4] at hA7
 have HE := hide (And.intro e1 (And.intro e2 (And.intro e3 e4)))
 clear e1 e2 e3 e4
 go_enter Tryz.func142, Tryz.ntmps142
 go_wp2_with fail
 rw [← hW0]
 obtain ⟨v0, hv0⟩ : ∃ V, V = W0.drew := ⟨_, rfl⟩
 have bv : Below w.heap.size w v0 := by rw [hv0]; exact b0.drew
 have zv : w.heap.size < v0.heap.size := by rw [hv0]; show w.heap.size < W0.heap.size; omega
 have R0 : Hid (CellsAre v0 w.heap.size [.slice none 0 0, .slice none 0 0, .int .u64 0, .int .i64 0, .slice none 0 0, .int .u64 0, .int .u64 0, .slice none 0 0]) := by rw [hv0]; exact r0
 have S0 := hide (hA7.below bv)
 refine wp_region_noPanic ?_
 refine wp_region_held_drew (S := fun w' => At7 w' g (.slice pv nv cv) (.int .u64 ow) (.int .i64 mo) (.map (some h)) (.int .u64 ep) (.int .u64 ge) (.map (some u))) (by kernel_rfl) (by rw [← hv0]; exact uh S0) (fun hS => ?_)
 rw [← hv0] at hS ⊢
 have BW0 := hide bv
 have OH0 := hide (o1.kept (grown_of_below bv none) (by simp))
 have OU0 := hide (o2.kept (grown_of_below bv none) (by simp))
 have RV0 := hide (hval.below bv)
 have T1 := hide s1
 have T2 := hide s2
 have HH := hide hh
 have HU := hide hu
 have HBY := hide hby
 clear hv0 hW0 b0 z0 r0 hblk hval o1 o2 hA7 s1 s2 hh hu hby bv
 refine tk 0 hS (h := ?_); simp only [Act.put, xa, xb, xc]
 refine tk 2 hS (h := ?_); simp only [Act.put, xa, xb, xc]
 refine tk 3 hS (h := ?_); simp only [Act.put, xa, xb, xc]
 refine tk 4 hS (h := ?_); simp only [Act.put, xa, xb, xc]
 refine tk 5 hS (h := ?_); simp only [Act.put, xa, xb, xc]
 refine tk 8 hS (h := ?_); simp only [Act.put, xa, xb, xc]
 refine tk 9 hS (h := ?_); simp only [Act.put, xa, xb, xc]
 refine tk 10 hS (h := ?_); simp only [Act.put, xa, xb, xc]
 refine tk 11 hS (h := ?_); simp only [Act.put, xa, xb, xc]
 refine tk 12 hS (h := ?_); simp only [Act.put, xa, xb, xc]
 refine tk 13 hS (h := ?_); simp only [Act.put, xa, xb, xc]
 refine tk 14 hS (h := ?_); simp only [Act.put, xa, xb, xc]
 refine tk 15 hS (h := ?_); simp only [Act.put, xa, xb, xc]
 refine tk 16 hS (h := ?_); simp only [Act.put, xa, xb, xc]
 refine tk 17 hS (h := ?_); simp only [Act.put, xa, xb, xc]
 refine tk 18 hS (h := ?_); simp only [Act.put, xa, xb, xc]
 refine tk 19 hS (h := ?_); simp only [Act.put, xa, xb, xc]
 refine tk 20 hS (h := ?_); simp only [Act.put, xa, xb, xc]
 refine tk 21 hS (h := ?_); simp only [Act.put, xa, xb, xc]
 refine tk 22 hS (h := ?_); simp only [Act.put, xa, xb, xc]
 refine tk 23 hS (h := ?_); simp only [Act.put, xa, xb, xc]
 refine tk 24 hS (h := ?_); simp only [Act.put, xa, xb, xc]
 refine tk 25 hS (h := ?_); simp only [Act.put, xa, xb, xc]
 refine tk 26 hS (h := ?_); simp only [Act.put, xa, xb, xc]
 refine tk 27 hS (h := ?_); simp only [Act.put, xa, xb, xc]
 refine tk 29 hS (h := ?_); simp only [Act.put, xa, xb, xc]
 refine tk 30 hS (h := ?_); simp only [Act.put, xa, xb, xc]
 refine tk 31 hS (h := ?_); simp only [Act.put, xa, xb, xc]
 refine tk 32 hS (h := ?_); simp only [Act.put, xa, xb, xc]
 refine ry [1, 6] ?_
 refine cn (fun KK hK => ?_) ?_
 ·refine step_convP (by rfl) _ (by rfl) nd.path (by rfl) (uh HBY) l1 ?_
  intro pC cC v1 lC fC hb1
  have S1 := hide ((uh S0).below hb1)
  have BW1 := hide (Below.step (uh BW0) hb1)
  have OH1 := hide ((uh OH0).kept (grown_of_below hb1 none) (by simp))
  have OU1 := hide ((uh OU0).kept (grown_of_below hb1 none) (by simp))
  have RV1 := hide ((uh RV0).below hb1)
  have R1 := hide ((uh R0).below (by omega) hb1)
  have z1 : v0.heap.size ≤ v1.heap.size := hb1.size
  have FC1 := hide fC
  refine hK.out _ _ (by exact uh S1) (fun hS => ?_)
  clear hK KK fC hb1
  (try simp only [Act.put, xa, xb, xc])
  refine ry [6] ?_
  refine cn (fun KK hK => ?_) ?_
  ·go_simp
   obtain ⟨v2, hv2⟩ : ∃ V, V = v1.alloc (.cells #[.slice pv nv cv] 22) := ⟨_, rfl⟩
   have hb2 : Below v1.heap.size v1 v2 := by rw [hv2]; exact (Below.refl _ _).alloc (Nat.le_refl _) _
   have hp2 : v2.cell? ⟨v1.heap.size, 0, none⟩ = some (.slice pv nv cv) := by rw [hv2]; simp
   rw [← hv2]
   have S2 := hide ((uh S1).below hb2)
   have BW2 := hide (Below.step (uh BW1) hb2)
   have OH2 := hide ((uh OH1).kept (grown_of_below hb2 none) (by simp))
   have OU2 := hide ((uh OU1).kept (grown_of_below hb2 none) (by simp))
   have RV2 := hide ((uh RV1).below hb2)
   have R2 := hide ((uh R1).below (by omega) hb2)
   have z2 : v1.heap.size ≤ v2.heap.size := hb2.size
   have FC2 := hide ((uh FC1).below hb2)
   have HP2 : Hid (Parts v2 v1.heap.size [.slice pv nv cv] [nd.value]) := ⟨rfl, fun j y x q1 q2 => by
    match j, q1, q2 with
    | 0, q1, q2 => simp at q1 q2; subst q1 q2; exact ⟨hp2, uh RV2⟩⟩
   obtain ⟨GB, hGB⟩ : ∃ G, G = v1.heap.size := ⟨_, rfl⟩
   rw [← hGB] at HP2 ⊢
   refine hK.out _ _ (by exact uh S2) (fun hS => ?_)
   clear hK KK hv2 hb2 hp2 hGB
   (try simp only [Act.put, xa, xb, xc])
   refine ry [7] ?_
   refine cn (fun KK hK => ?_) ?_
   ·refine step_call1 (by rfl) 54 _ _ (by rfl) (.slice (some ⟨GB, 0, none⟩) 1 1) (by rfl) (fun _ => (uh HCF).1 _ _) (joined_any GB [.slice pv nv cv] [nd.value] nd.value nd.value.length 1 rfl (by show _ = _; simp [cat]) (by show _ = _; rfl) _ (uh HP2) (by omega) (by omega)) ?_
    rintro r v3 ⟨pJ, cJ, rfl, oJ, hb3⟩
    refine ⟨_, rfl, ?_⟩
    have S3 := hide ((uh S2).below hb3)
    have BW3 := hide (Below.step (uh BW2) hb3)
    have OH3 := hide ((uh OH2).kept (grown_of_below hb3 none) (by simp))
    have OU3 := hide ((uh OU2).kept (grown_of_below hb3 none) (by simp))
    have RV3 := hide ((uh RV2).below hb3)
    have R3 := hide ((uh R2).below (by omega) hb3)
    have z3 : v2.heap.size ≤ v3.heap.size := hb3.size
    have FC3 := hide ((uh FC2).below hb3)
    obtain ⟨lJ, fJ⟩ := Own.pb oJ
    have FJ3 := hide fJ
    refine hK.out _ _ (by exact uh S3) (fun hS => ?_)
    clear hK KK fJ oJ hb3
    (try simp only [Act.put, xa, xb, xc])
    refine ry [28] ?_
    refine cn (fun KK hK => ?_) ?_
    ·refine step_call1 (by rfl) 167 _ _ (by rfl) (.map (some h)) (by rfl) (fun _ => (uh HCF).2 _ _) (Q.sortedKeys_u h _ D1 _ (uh OH3) (uh SZ1)) ?_
     rintro r v4 ⟨y, ss, rfl, asc, rdk, hb4⟩
     refine ⟨_, rfl, ?_⟩
     have ess := set_sorted (uh T1) (uh HH) asc
     rw [ess] at rdk
     obtain ⟨pH, cH, lH, rfl, q1, q2, q3⟩ := rdK_own rdk
     have S4 := hide ((uh S3).below hb4)
     have BW4 := hide (Below.step (uh BW3) hb4)
     have OH4 := hide ((uh OH3).kept (grown_of_below hb4 none) (by simp))
     have OU4 := hide ((uh OU3).kept (grown_of_below hb4 none) (by simp))
     have RV4 := hide ((uh RV3).below hb4)
     have R4 := hide ((uh R3).below (by omega) hb4)
     have z4 : v3.heap.size ≤ v4.heap.size := hb4.size
     have FC4 := hide ((uh FC3).below hb4)
     have FJ4 := hide ((uh FJ3).below hb4)
     have FH4 : Hid (PU v4 v3.heap.size v4.heap.size (.slice pH nd.holders.length cH) nd.holders lH) := ⟨q1, q2, q3, fun a ha => q3.inn.lt ha⟩
     refine hK.out _ _ (by exact uh S4) (fun hS => ?_)
     clear hK KK asc rdk hb4 q1 q2 q3 ess
     (try simp only [Act.put, xa, xb, xc])
     refine ry [33] ?_
     refine cn (fun KK hK => ?_) ?_
     ·refine step_call1 (by rfl) 167 _ _ (by rfl) (.map (some u)) (by rfl) (fun _ => (uh HCF).2 _ _) (Q.sortedKeys_u u _ D2 _ (uh OU4) (uh SZ2)) ?_
      rintro r v5 ⟨y, ss, rfl, asc, rdk, hb5⟩
      refine ⟨_, rfl, ?_⟩
      have ess := set_sorted (uh T2) (uh HU) asc
      rw [ess] at rdk
      obtain ⟨pU, cU, lU, rfl, q1, q2, q3⟩ := rdK_own rdk
      have S5 := hide ((uh S4).below hb5)
      have BW5 := hide (Below.step (uh BW4) hb5)
      have OH5 := hide ((uh OH4).kept (grown_of_below hb5 none) (by simp))
      have OU5 := hide ((uh OU4).kept (grown_of_below hb5 none) (by simp))
      have RV5 := hide ((uh RV4).below hb5)
      have R5 := hide ((uh R4).below (by omega) hb5)
      have z5 : v4.heap.size ≤ v5.heap.size := hb5.size
      have FC5 := hide ((uh FC4).below hb5)
      have FJ5 := hide ((uh FJ4).below hb5)
      have FH5 := hide ((uh FH4).below hb5)
      have FU5 : Hid (PU v5 v4.heap.size v5.heap.size (.slice pU nd.watchers.length cU) nd.watchers lU) := ⟨q1, q2, q3, fun a ha => q3.inn.lt ha⟩
      refine hK.out _ _ (by exact uh S5) (fun hS => ?_)
      clear hK KK asc rdk hb5 q1 q2 q3 ess
      (try simp only [Act.put, xa, xb, xc])
      refine tk 34 hS (h := ?_); simp only [Act.put, xa, xb, xc]
      have rc0 := (uh R5).1 0 _ rfl
      have rc1 := (uh R5).1 1 _ rfl
      have rc2 := (uh R5).1 2 _ rfl
      have rc3 := (uh R5).1 3 _ rfl
      have rc4 := (uh R5).1 4 _ rfl
      have rc5 := (uh R5).1 5 _ rfl
      have rc6 := (uh R5).1 6 _ rfl
      have rc7 := (uh R5).1 7 _ rfl
      have rf := (uh R5).2
      refine ry [35] ?_
      refine cn (fun KK hK => ?_) ?_
      ·go_simp
       obtain ⟨Z, hZ⟩ : ∃ Z, Z = ((((((((v5.setCell ⟨w.heap.size, 0, none⟩ (.slice pC nd.path.length cC)).setCell ⟨w.heap.size, 1, none⟩ (.slice pJ nd.value.length cJ)).setCell ⟨w.heap.size, 2, none⟩ (.int .u64 ow)).setCell ⟨w.heap.size, 3, none⟩ (.int .i64 mo)).setCell ⟨w.heap.size, 4, none⟩ (.slice pH nd.holders.length cH)).setCell ⟨w.heap.size, 5, none⟩ (.int .u64 ep)).setCell ⟨w.heap.size, 6, none⟩ (.int .u64 ge)).setCell ⟨w.heap.size, 7, none⟩ (.slice pU nd.watchers.length cU)) := ⟨_, rfl⟩
       have hkz : ∀ b, b ≠ w.heap.size → Z.heap[b]? = v5.heap[b]? := fun b hb => by
        rw [hZ]
        iterate 8 rw [RowKit.Below.heap_setCell _ _ _ _ hb]
       have cZ := (CellsAre.near (CellsAre.near (CellsAre.near (CellsAre.near (CellsAre.near (CellsAre.near (CellsAre.near (CellsAre.near (uh R5) 0 (by simp) (.slice pC nd.path.length cC)) 1 (by simp) (.slice pJ nd.value.length cJ)) 2 (by simp) (.int .u64 ow)) 3 (by simp) (.int .i64 mo)) 4 (by simp) (.slice pH nd.holders.length cH)) 5 (by simp) (.int .u64 ep)) 6 (by simp) (.int .u64 ge)) 7 (by simp) (.slice pU nd.watchers.length cU))
       rw [← hZ] at cZ
       have hbZ : Below w.heap.size w Z := by
        rw [hZ]
        exact (((((((((uh BW5).setCell (Nat.le_refl _) _).setCell (Nat.le_refl _) _).setCell (Nat.le_refl _) _).setCell (Nat.le_refl _) _).setCell (Nat.le_refl _) _).setCell (Nat.le_refl _) _).setCell (Nat.le_refl _) _).setCell (Nat.le_refl _) _)
       obtain ⟨en, apn⟩ := elNo.mk4 (B := v0.heap.size) (uh FC5) (uh FJ5) (uh FH5) (uh FU5) (by omega) (by omega) (by omega) (by omega) (by omega) (by omega) (by omega) (by omega) (by omega) (by omega)
       have hkl : ∀ y ∈ lC ++ (lJ ++ (lH ++ lU)), Z.heap[y.b]? = v5.heap[y.b]? := fun y hy => hkz _ (by have := apn.lo y hy; omega)
       have EN := hide (And.intro (elNo.keep _ Z _ _ _ en hkl) (And.intro ((apn.keep hkl).mono (B' := w.heap.size) (by omega)) hbZ))
       have SZg : At7 Z g (.slice pv nv cv) (.int .u64 ow) (.int .i64 mo) (.map (some h)) (.int .u64 ep) (.int .u64 ge) (.map (some u)) := by
        have hne : g ≠ w.heap.size := fun e => by
         have h1 := (uh R5).1 0 _ rfl
         have h2 := (uh S5).2.1
         rw [e] at h2
         have h3 := (uh R5).1 1 _ rfl
         rw [h2] at h3
         simp at h3
        obtain ⟨s0, s1, s2, s3, s4, s5, s6⟩ := uh S5
        have hz := cell_at_heap (hkz g hne)
        exact ⟨(hz _).trans s0, (hz _).trans s1, (hz _).trans s2, (hz _).trans s3, (hz _).trans s4, (hz _).trans s5, (hz _).trans s6⟩
       rw [← hZ]
       refine hK.out _ _ (by exact SZg) (fun hS => ?_)
       have zc0 := cZ.1 0 _ rfl
       have zc1 := cZ.1 1 _ rfl
       have zc2 := cZ.1 2 _ rfl
       have zc3 := cZ.1 3 _ rfl
       have zc4 := cZ.1 4 _ rfl
       have zc5 := cZ.1 5 _ rfl
       have zc6 := cZ.1 6 _ rfl
       have zc7 := cZ.1 7 _ rfl
       clear hK KK hZ hkz hbZ en apn hkl SZg cZ rc0 rc1 rc2 rc3 rc4 rc5 rc6 rc7 rf
       (try simp only [Act.put, xa, xb, xc])
       refine wpAnyH_done (by kernel_rfl) ?_ _
       refine NoPanic.normal ?_
       clear hS
       obtain ⟨e1, e2, e3, e4⟩ := uh HE
       go_wp2
       refine bodyPost_ret (v := .agg #[.slice pC nd.path.length cC, .slice pJ nd.value.length cJ, .int .u64 ow, .int .i64 mo, .slice pH nd.holders.length cH, .int .u64 ep, .int .u64 ge, .slice pU nd.watchers.length cU]) (by simp [results, Tryz.results142, go_sem, zc0, zc1, zc2, zc3, zc4, zc5, zc6, zc7]) rfl ⟨_, lC ++ (lJ ++ (lH ++ lU)), rfl, ?_, (uh EN).2.1, (uh EN).2.2⟩
       have hen := (uh EN).1
       rw [e1, e2, e3, e4] at hen
       exact hen
      exact AllReadyH.nil
     exact AllReadyH.nil
    exact AllReadyH.nil
   exact AllReadyH.nil
  exact AllReadyH.nil
 refine cn (fun KK hK => ?_) ?_
 ·go_simp
  obtain ⟨v6, hv6⟩ : ∃ V, V = v0.alloc (.cells #[.slice pv nv cv] 22) := ⟨_, rfl⟩
  have hb6 : Below v0.heap.size v0 v6 := by rw [hv6]; exact (Below.refl _ _).alloc (Nat.le_refl _) _
  have hp6 : v6.cell? ⟨v0.heap.size, 0, none⟩ = some (.slice pv nv cv) := by rw [hv6]; simp
  rw [← hv6]
  have S6 := hide ((uh S0).below hb6)
  have BW6 := hide (Below.step (uh BW0) hb6)
  have OH6 := hide ((uh OH0).kept (grown_of_below hb6 none) (by simp))
  have OU6 := hide ((uh OU0).kept (grown_of_below hb6 none) (by simp))
  have RV6 := hide ((uh RV0).below hb6)
  have R6 := hide ((uh R0).below (by omega) hb6)
  have z6 : v0.heap.size ≤ v6.heap.size := hb6.size
  have HP6 : Hid (Parts v6 v0.heap.size [.slice pv nv cv] [nd.value]) := ⟨rfl, fun j y x q1 q2 => by
   match j, q1, q2 with
   | 0, q1, q2 => simp at q1 q2; subst q1 q2; exact ⟨hp6, uh RV6⟩⟩
  obtain ⟨GB, hGB⟩ : ∃ G, G = v0.heap.size := ⟨_, rfl⟩
  rw [← hGB] at HP6 ⊢
  refine hK.out _ _ (by exact uh S6) (fun hS => ?_)
  clear hK KK hv6 hb6 hp6 hGB
  (try simp only [Act.put, xa, xb, xc])
  refine ry [1, 7] ?_
  refine cn (fun KK hK => ?_) ?_
  ·refine step_convP (by rfl) _ (by rfl) nd.path (by rfl) (uh HBY) l1 ?_
   intro pC cC v7 lC fC hb7
   have S7 := hide ((uh S6).below hb7)
   have BW7 := hide (Below.step (uh BW6) hb7)
   have OH7 := hide ((uh OH6).kept (grown_of_below hb7 none) (by simp))
   have OU7 := hide ((uh OU6).kept (grown_of_below hb7 none) (by simp))
   have RV7 := hide ((uh RV6).below hb7)
   have R7 := hide ((uh R6).below (by omega) hb7)
   have z7 : v6.heap.size ≤ v7.heap.size := hb7.size
   have HP7 := hide ((uh HP6).below hb7)
   have FC7 := hide fC
   refine hK.out _ _ (by exact uh S7) (fun hS => ?_)
   clear hK KK fC hb7
   (try simp only [Act.put, xa, xb, xc])
   refine ry [7] ?_
   refine cn (fun KK hK => ?_) ?_
   ·refine step_call1 (by rfl) 54 _ _ (by rfl) (.slice (some ⟨GB, 0, none⟩) 1 1) (by rfl) (fun _ => (uh HCF).1 _ _) (joined_any GB [.slice pv nv cv] [nd.value] nd.value nd.value.length 1 rfl (by show _ = _; simp [cat]) (by show _ = _; rfl) _ (uh HP7) (by omega) (by omega)) ?_
    rintro r v8 ⟨pJ, cJ, rfl, oJ, hb8⟩
    refine ⟨_, rfl, ?_⟩
    have S8 := hide ((uh S7).below hb8)
    have BW8 := hide (Below.step (uh BW7) hb8)
    have OH8 := hide ((uh OH7).kept (grown_of_below hb8 none) (by simp))
    have OU8 := hide ((uh OU7).kept (grown_of_below hb8 none) (by simp))
    have RV8 := hide ((uh RV7).below hb8)
    have R8 := hide ((uh R7).below (by omega) hb8)
    have z8 : v7.heap.size ≤ v8.heap.size := hb8.size
    have FC8 := hide ((uh FC7).below hb8)
    obtain ⟨lJ, fJ⟩ := Own.pb oJ
    have FJ8 := hide fJ
    refine hK.out _ _ (by exact uh S8) (fun hS => ?_)
    clear hK KK fJ oJ hb8
    (try simp only [Act.put, xa, xb, xc])
    refine ry [28] ?_
    refine cn (fun KK hK => ?_) ?_
    ·refine step_call1 (by rfl) 167 _ _ (by rfl) (.map (some h)) (by rfl) (fun _ => (uh HCF).2 _ _) (Q.sortedKeys_u h _ D1 _ (uh OH8) (uh SZ1)) ?_
     rintro r v9 ⟨y, ss, rfl, asc, rdk, hb9⟩
     refine ⟨_, rfl, ?_⟩
     have ess := set_sorted (uh T1) (uh HH) asc
     rw [ess] at rdk
     obtain ⟨pH, cH, lH, rfl, q1, q2, q3⟩ := rdK_own rdk
     have S9 := hide ((uh S8).below hb9)
     have BW9 := hide (Below.step (uh BW8) hb9)
     have OH9 := hide ((uh OH8).kept (grown_of_below hb9 none) (by simp))
     have OU9 := hide ((uh OU8).kept (grown_of_below hb9 none) (by simp))
     have RV9 := hide ((uh RV8).below hb9)
     have R9 := hide ((uh R8).below (by omega) hb9)
     have z9 : v8.heap.size ≤ v9.heap.size := hb9.size
     have FC9 := hide ((uh FC8).below hb9)
     have FJ9 := hide ((uh FJ8).below hb9)
     have FH9 : Hid (PU v9 v8.heap.size v9.heap.size (.slice pH nd.holders.length cH) nd.holders lH) := ⟨q1, q2, q3, fun a ha => q3.inn.lt ha⟩
     refine hK.out _ _ (by exact uh S9) (fun hS => ?_)
     clear hK KK asc rdk hb9 q1 q2 q3 ess
     (try simp only [Act.put, xa, xb, xc])
     refine ry [33] ?_
     refine cn (fun KK hK => ?_) ?_
     ·refine step_call1 (by rfl) 167 _ _ (by rfl) (.map (some u)) (by rfl) (fun _ => (uh HCF).2 _ _) (Q.sortedKeys_u u _ D2 _ (uh OU9) (uh SZ2)) ?_
      rintro r v10 ⟨y, ss, rfl, asc, rdk, hb10⟩
      refine ⟨_, rfl, ?_⟩
      have ess := set_sorted (uh T2) (uh HU) asc
      rw [ess] at rdk
      obtain ⟨pU, cU, lU, rfl, q1, q2, q3⟩ := rdK_own rdk
      have S10 := hide ((uh S9).below hb10)
      have BW10 := hide (Below.step (uh BW9) hb10)
      have OH10 := hide ((uh OH9).kept (grown_of_below hb10 none) (by simp))
      have OU10 := hide ((uh OU9).kept (grown_of_below hb10 none) (by simp))
      have RV10 := hide ((uh RV9).below hb10)
      have R10 := hide ((uh R9).below (by omega) hb10)
      have z10 : v9.heap.size ≤ v10.heap.size := hb10.size
      have FC10 := hide ((uh FC9).below hb10)
      have FJ10 := hide ((uh FJ9).below hb10)
      have FH10 := hide ((uh FH9).below hb10)
      have FU10 : Hid (PU v10 v9.heap.size v10.heap.size (.slice pU nd.watchers.length cU) nd.watchers lU) := ⟨q1, q2, q3, fun a ha => q3.inn.lt ha⟩
      refine hK.out _ _ (by exact uh S10) (fun hS => ?_)
      clear hK KK asc rdk hb10 q1 q2 q3 ess
      (try simp only [Act.put, xa, xb, xc])
      refine tk 34 hS (h := ?_); simp only [Act.put, xa, xb, xc]
      have rc0 := (uh R10).1 0 _ rfl
      have rc1 := (uh R10).1 1 _ rfl
      have rc2 := (uh R10).1 2 _ rfl
      have rc3 := (uh R10).1 3 _ rfl
      have rc4 := (uh R10).1 4 _ rfl
      have rc5 := (uh R10).1 5 _ rfl
      have rc6 := (uh R10).1 6 _ rfl
      have rc7 := (uh R10).1 7 _ rfl
      have rf := (uh R10).2
      refine ry [35] ?_
      refine cn (fun KK hK => ?_) ?_
      ·go_simp
       obtain ⟨Z, hZ⟩ : ∃ Z, Z = ((((((((v10.setCell ⟨w.heap.size, 0, none⟩ (.slice pC nd.path.length cC)).setCell ⟨w.heap.size, 1, none⟩ (.slice pJ nd.value.length cJ)).setCell ⟨w.heap.size, 2, none⟩ (.int .u64 ow)).setCell ⟨w.heap.size, 3, none⟩ (.int .i64 mo)).setCell ⟨w.heap.size, 4, none⟩ (.slice pH nd.holders.length cH)).setCell ⟨w.heap.size, 5, none⟩ (.int .u64 ep)).setCell ⟨w.heap.size, 6, none⟩ (.int .u64 ge)).setCell ⟨w.heap.size, 7, none⟩ (.slice pU nd.watchers.length cU)) := ⟨_, rfl⟩
       have hkz : ∀ b, b ≠ w.heap.size → Z.heap[b]? = v10.heap[b]? := fun b hb => by
        rw [hZ]
        iterate 8 rw [RowKit.Below.heap_setCell _ _ _ _ hb]
       have cZ := (CellsAre.near (CellsAre.near (CellsAre.near (CellsAre.near (CellsAre.near (CellsAre.near (CellsAre.near (CellsAre.near (uh R10) 0 (by simp) (.slice pC nd.path.length cC)) 1 (by simp) (.slice pJ nd.value.length cJ)) 2 (by simp) (.int .u64 ow)) 3 (by simp) (.int .i64 mo)) 4 (by simp) (.slice pH nd.holders.length cH)) 5 (by simp) (.int .u64 ep)) 6 (by simp) (.int .u64 ge)) 7 (by simp) (.slice pU nd.watchers.length cU))
       rw [← hZ] at cZ
       have hbZ : Below w.heap.size w Z := by
        rw [hZ]
        exact (((((((((uh BW10).setCell (Nat.le_refl _) _).setCell (Nat.le_refl _) _).setCell (Nat.le_refl _) _).setCell (Nat.le_refl _) _).setCell (Nat.le_refl _) _).setCell (Nat.le_refl _) _).setCell (Nat.le_refl _) _).setCell (Nat.le_refl _) _)
       obtain ⟨en, apn⟩ := elNo.mk4 (B := v0.heap.size) (uh FC10) (uh FJ10) (uh FH10) (uh FU10) (by omega) (by omega) (by omega) (by omega) (by omega) (by omega) (by omega) (by omega) (by omega) (by omega)
       have hkl : ∀ y ∈ lC ++ (lJ ++ (lH ++ lU)), Z.heap[y.b]? = v10.heap[y.b]? := fun y hy => hkz _ (by have := apn.lo y hy; omega)
       have EN := hide (And.intro (elNo.keep _ Z _ _ _ en hkl) (And.intro ((apn.keep hkl).mono (B' := w.heap.size) (by omega)) hbZ))
       have SZg : At7 Z g (.slice pv nv cv) (.int .u64 ow) (.int .i64 mo) (.map (some h)) (.int .u64 ep) (.int .u64 ge) (.map (some u)) := by
        have hne : g ≠ w.heap.size := fun e => by
         have h1 := (uh R10).1 0 _ rfl
         have h2 := (uh S10).2.1
         rw [e] at h2
         have h3 := (uh R10).1 1 _ rfl
         rw [h2] at h3
         simp at h3
        obtain ⟨s0, s1, s2, s3, s4, s5, s6⟩ := uh S10
        have hz := cell_at_heap (hkz g hne)
        exact ⟨(hz _).trans s0, (hz _).trans s1, (hz _).trans s2, (hz _).trans s3, (hz _).trans s4, (hz _).trans s5, (hz _).trans s6⟩
       rw [← hZ]
       refine hK.out _ _ (by exact SZg) (fun hS => ?_)
       have zc0 := cZ.1 0 _ rfl
       have zc1 := cZ.1 1 _ rfl
       have zc2 := cZ.1 2 _ rfl
       have zc3 := cZ.1 3 _ rfl
       have zc4 := cZ.1 4 _ rfl
       have zc5 := cZ.1 5 _ rfl
       have zc6 := cZ.1 6 _ rfl
       have zc7 := cZ.1 7 _ rfl
       clear hK KK hZ hkz hbZ en apn hkl SZg cZ rc0 rc1 rc2 rc3 rc4 rc5 rc6 rc7 rf
       (try simp only [Act.put, xa, xb, xc])
       refine wpAnyH_done (by kernel_rfl) ?_ _
       refine NoPanic.normal ?_
       clear hS
       obtain ⟨e1, e2, e3, e4⟩ := uh HE
       go_wp2
       refine bodyPost_ret (v := .agg #[.slice pC nd.path.length cC, .slice pJ nd.value.length cJ, .int .u64 ow, .int .i64 mo, .slice pH nd.holders.length cH, .int .u64 ep, .int .u64 ge, .slice pU nd.watchers.length cU]) (by simp [results, Tryz.results142, go_sem, zc0, zc1, zc2, zc3, zc4, zc5, zc6, zc7]) rfl ⟨_, lC ++ (lJ ++ (lH ++ lU)), rfl, ?_, (uh EN).2.1, (uh EN).2.2⟩
       have hen := (uh EN).1
       rw [e1, e2, e3, e4] at hen
       exact hen
      exact AllReadyH.nil
     exact AllReadyH.nil
    exact AllReadyH.nil
   exact AllReadyH.nil
  refine cn (fun KK hK => ?_) ?_
  ·refine step_call1 (by rfl) 54 _ _ (by rfl) (.slice (some ⟨GB, 0, none⟩) 1 1) (by rfl) (fun _ => (uh HCF).1 _ _) (joined_any GB [.slice pv nv cv] [nd.value] nd.value nd.value.length 1 rfl (by show _ = _; simp [cat]) (by show _ = _; rfl) _ (uh HP6) (by omega) (by omega)) ?_
   rintro r v11 ⟨pJ, cJ, rfl, oJ, hb11⟩
   refine ⟨_, rfl, ?_⟩
   have S11 := hide ((uh S6).below hb11)
   have BW11 := hide (Below.step (uh BW6) hb11)
   have OH11 := hide ((uh OH6).kept (grown_of_below hb11 none) (by simp))
   have OU11 := hide ((uh OU6).kept (grown_of_below hb11 none) (by simp))
   have RV11 := hide ((uh RV6).below hb11)
   have R11 := hide ((uh R6).below (by omega) hb11)
   have z11 : v6.heap.size ≤ v11.heap.size := hb11.size
   obtain ⟨lJ, fJ⟩ := Own.pb oJ
   have FJ11 := hide fJ
   refine hK.out _ _ (by exact uh S11) (fun hS => ?_)
   clear hK KK fJ oJ hb11
   (try simp only [Act.put, xa, xb, xc])
   refine ry [1, 28] ?_
   refine cn (fun KK hK => ?_) ?_
   ·refine step_convP (by rfl) _ (by rfl) nd.path (by rfl) (uh HBY) l1 ?_
    intro pC cC v12 lC fC hb12
    have S12 := hide ((uh S11).below hb12)
    have BW12 := hide (Below.step (uh BW11) hb12)
    have OH12 := hide ((uh OH11).kept (grown_of_below hb12 none) (by simp))
    have OU12 := hide ((uh OU11).kept (grown_of_below hb12 none) (by simp))
    have RV12 := hide ((uh RV11).below hb12)
    have R12 := hide ((uh R11).below (by omega) hb12)
    have z12 : v11.heap.size ≤ v12.heap.size := hb12.size
    have FJ12 := hide ((uh FJ11).below hb12)
    have FC12 := hide fC
    refine hK.out _ _ (by exact uh S12) (fun hS => ?_)
    clear hK KK fC hb12
    (try simp only [Act.put, xa, xb, xc])
    refine ry [28] ?_
    refine cn (fun KK hK => ?_) ?_
    ·refine step_call1 (by rfl) 167 _ _ (by rfl) (.map (some h)) (by rfl) (fun _ => (uh HCF).2 _ _) (Q.sortedKeys_u h _ D1 _ (uh OH12) (uh SZ1)) ?_
     rintro r v13 ⟨y, ss, rfl, asc, rdk, hb13⟩
     refine ⟨_, rfl, ?_⟩
     have ess := set_sorted (uh T1) (uh HH) asc
     rw [ess] at rdk
     obtain ⟨pH, cH, lH, rfl, q1, q2, q3⟩ := rdK_own rdk
     have S13 := hide ((uh S12).below hb13)
     have BW13 := hide (Below.step (uh BW12) hb13)
     have OH13 := hide ((uh OH12).kept (grown_of_below hb13 none) (by simp))
     have OU13 := hide ((uh OU12).kept (grown_of_below hb13 none) (by simp))
     have RV13 := hide ((uh RV12).below hb13)
     have R13 := hide ((uh R12).below (by omega) hb13)
     have z13 : v12.heap.size ≤ v13.heap.size := hb13.size
     have FJ13 := hide ((uh FJ12).below hb13)
     have FC13 := hide ((uh FC12).below hb13)
     have FH13 : Hid (PU v13 v12.heap.size v13.heap.size (.slice pH nd.holders.length cH) nd.holders lH) := ⟨q1, q2, q3, fun a ha => q3.inn.lt ha⟩
     refine hK.out _ _ (by exact uh S13) (fun hS => ?_)
     clear hK KK asc rdk hb13 q1 q2 q3 ess
     (try simp only [Act.put, xa, xb, xc])
     refine ry [33] ?_
     refine cn (fun KK hK => ?_) ?_
     ·refine step_call1 (by rfl) 167 _ _ (by rfl) (.map (some u)) (by rfl) (fun _ => (uh HCF).2 _ _) (Q.sortedKeys_u u _ D2 _ (uh OU13) (uh SZ2)) ?_
      rintro r v14 ⟨y, ss, rfl, asc, rdk, hb14⟩
      refine ⟨_, rfl, ?_⟩
      have ess := set_sorted (uh T2) (uh HU) asc
      rw [ess] at rdk
      obtain ⟨pU, cU, lU, rfl, q1, q2, q3⟩ := rdK_own rdk
      have S14 := hide ((uh S13).below hb14)
      have BW14 := hide (Below.step (uh BW13) hb14)
      have OH14 := hide ((uh OH13).kept (grown_of_below hb14 none) (by simp))
      have OU14 := hide ((uh OU13).kept (grown_of_below hb14 none) (by simp))
      have RV14 := hide ((uh RV13).below hb14)
      have R14 := hide ((uh R13).below (by omega) hb14)
      have z14 : v13.heap.size ≤ v14.heap.size := hb14.size
      have FJ14 := hide ((uh FJ13).below hb14)
      have FC14 := hide ((uh FC13).below hb14)
      have FH14 := hide ((uh FH13).below hb14)
      have FU14 : Hid (PU v14 v13.heap.size v14.heap.size (.slice pU nd.watchers.length cU) nd.watchers lU) := ⟨q1, q2, q3, fun a ha => q3.inn.lt ha⟩
      refine hK.out _ _ (by exact uh S14) (fun hS => ?_)
      clear hK KK asc rdk hb14 q1 q2 q3 ess
      (try simp only [Act.put, xa, xb, xc])
      refine tk 34 hS (h := ?_); simp only [Act.put, xa, xb, xc]
      have rc0 := (uh R14).1 0 _ rfl
      have rc1 := (uh R14).1 1 _ rfl
      have rc2 := (uh R14).1 2 _ rfl
      have rc3 := (uh R14).1 3 _ rfl
      have rc4 := (uh R14).1 4 _ rfl
      have rc5 := (uh R14).1 5 _ rfl
      have rc6 := (uh R14).1 6 _ rfl
      have rc7 := (uh R14).1 7 _ rfl
      have rf := (uh R14).2
      refine ry [35] ?_
      refine cn (fun KK hK => ?_) ?_
      ·go_simp
       obtain ⟨Z, hZ⟩ : ∃ Z, Z = ((((((((v14.setCell ⟨w.heap.size, 0, none⟩ (.slice pC nd.path.length cC)).setCell ⟨w.heap.size, 1, none⟩ (.slice pJ nd.value.length cJ)).setCell ⟨w.heap.size, 2, none⟩ (.int .u64 ow)).setCell ⟨w.heap.size, 3, none⟩ (.int .i64 mo)).setCell ⟨w.heap.size, 4, none⟩ (.slice pH nd.holders.length cH)).setCell ⟨w.heap.size, 5, none⟩ (.int .u64 ep)).setCell ⟨w.heap.size, 6, none⟩ (.int .u64 ge)).setCell ⟨w.heap.size, 7, none⟩ (.slice pU nd.watchers.length cU)) := ⟨_, rfl⟩
       have hkz : ∀ b, b ≠ w.heap.size → Z.heap[b]? = v14.heap[b]? := fun b hb => by
        rw [hZ]
        iterate 8 rw [RowKit.Below.heap_setCell _ _ _ _ hb]
       have cZ := (CellsAre.near (CellsAre.near (CellsAre.near (CellsAre.near (CellsAre.near (CellsAre.near (CellsAre.near (CellsAre.near (uh R14) 0 (by simp) (.slice pC nd.path.length cC)) 1 (by simp) (.slice pJ nd.value.length cJ)) 2 (by simp) (.int .u64 ow)) 3 (by simp) (.int .i64 mo)) 4 (by simp) (.slice pH nd.holders.length cH)) 5 (by simp) (.int .u64 ep)) 6 (by simp) (.int .u64 ge)) 7 (by simp) (.slice pU nd.watchers.length cU))
       rw [← hZ] at cZ
       have hbZ : Below w.heap.size w Z := by
        rw [hZ]
        exact (((((((((uh BW14).setCell (Nat.le_refl _) _).setCell (Nat.le_refl _) _).setCell (Nat.le_refl _) _).setCell (Nat.le_refl _) _).setCell (Nat.le_refl _) _).setCell (Nat.le_refl _) _).setCell (Nat.le_refl _) _).setCell (Nat.le_refl _) _)
       obtain ⟨en, apn⟩ := elNo.mk4 (B := v0.heap.size) (uh FC14) (uh FJ14) (uh FH14) (uh FU14) (by omega) (by omega) (by omega) (by omega) (by omega) (by omega) (by omega) (by omega) (by omega) (by omega)
       have hkl : ∀ y ∈ lC ++ (lJ ++ (lH ++ lU)), Z.heap[y.b]? = v14.heap[y.b]? := fun y hy => hkz _ (by have := apn.lo y hy; omega)
       have EN := hide (And.intro (elNo.keep _ Z _ _ _ en hkl) (And.intro ((apn.keep hkl).mono (B' := w.heap.size) (by omega)) hbZ))
       have SZg : At7 Z g (.slice pv nv cv) (.int .u64 ow) (.int .i64 mo) (.map (some h)) (.int .u64 ep) (.int .u64 ge) (.map (some u)) := by
        have hne : g ≠ w.heap.size := fun e => by
         have h1 := (uh R14).1 0 _ rfl
         have h2 := (uh S14).2.1
         rw [e] at h2
         have h3 := (uh R14).1 1 _ rfl
         rw [h2] at h3
         simp at h3
        obtain ⟨s0, s1, s2, s3, s4, s5, s6⟩ := uh S14
        have hz := cell_at_heap (hkz g hne)
        exact ⟨(hz _).trans s0, (hz _).trans s1, (hz _).trans s2, (hz _).trans s3, (hz _).trans s4, (hz _).trans s5, (hz _).trans s6⟩
       rw [← hZ]
       refine hK.out _ _ (by exact SZg) (fun hS => ?_)
       have zc0 := cZ.1 0 _ rfl
       have zc1 := cZ.1 1 _ rfl
       have zc2 := cZ.1 2 _ rfl
       have zc3 := cZ.1 3 _ rfl
       have zc4 := cZ.1 4 _ rfl
       have zc5 := cZ.1 5 _ rfl
       have zc6 := cZ.1 6 _ rfl
       have zc7 := cZ.1 7 _ rfl
       clear hK KK hZ hkz hbZ en apn hkl SZg cZ rc0 rc1 rc2 rc3 rc4 rc5 rc6 rc7 rf
       (try simp only [Act.put, xa, xb, xc])
       refine wpAnyH_done (by kernel_rfl) ?_ _
       refine NoPanic.normal ?_
       clear hS
       obtain ⟨e1, e2, e3, e4⟩ := uh HE
       go_wp2
       refine bodyPost_ret (v := .agg #[.slice pC nd.path.length cC, .slice pJ nd.value.length cJ, .int .u64 ow, .int .i64 mo, .slice pH nd.holders.length cH, .int .u64 ep, .int .u64 ge, .slice pU nd.watchers.length cU]) (by simp [results, Tryz.results142, go_sem, zc0, zc1, zc2, zc3, zc4, zc5, zc6, zc7]) rfl ⟨_, lC ++ (lJ ++ (lH ++ lU)), rfl, ?_, (uh EN).2.1, (uh EN).2.2⟩
       have hen := (uh EN).1
       rw [e1, e2, e3, e4] at hen
       exact hen
      exact AllReadyH.nil
     exact AllReadyH.nil
    exact AllReadyH.nil
   refine cn (fun KK hK => ?_) ?_
   ·refine step_call1 (by rfl) 167 _ _ (by rfl) (.map (some h)) (by rfl) (fun _ => (uh HCF).2 _ _) (Q.sortedKeys_u h _ D1 _ (uh OH11) (uh SZ1)) ?_
    rintro r v15 ⟨y, ss, rfl, asc, rdk, hb15⟩
    refine ⟨_, rfl, ?_⟩
    have ess := set_sorted (uh T1) (uh HH) asc
    rw [ess] at rdk
    obtain ⟨pH, cH, lH, rfl, q1, q2, q3⟩ := rdK_own rdk
    have S15 := hide ((uh S11).below hb15)
    have BW15 := hide (Below.step (uh BW11) hb15)
    have OH15 := hide ((uh OH11).kept (grown_of_below hb15 none) (by simp))
    have OU15 := hide ((uh OU11).kept (grown_of_below hb15 none) (by simp))
    have RV15 := hide ((uh RV11).below hb15)
    have R15 := hide ((uh R11).below (by omega) hb15)
    have z15 : v11.heap.size ≤ v15.heap.size := hb15.size
    have FJ15 := hide ((uh FJ11).below hb15)
    have FH15 : Hid (PU v15 v11.heap.size v15.heap.size (.slice pH nd.holders.length cH) nd.holders lH) := ⟨q1, q2, q3, fun a ha => q3.inn.lt ha⟩
    refine hK.out _ _ (by exact uh S15) (fun hS => ?_)
    clear hK KK asc rdk hb15 q1 q2 q3 ess
    (try simp only [Act.put, xa, xb, xc])
    refine ry [1, 33] ?_
    refine cn (fun KK hK => ?_) ?_
    ·refine step_convP (by rfl) _ (by rfl) nd.path (by rfl) (uh HBY) l1 ?_
     intro pC cC v16 lC fC hb16
     have S16 := hide ((uh S15).below hb16)
     have BW16 := hide (Below.step (uh BW15) hb16)
     have OH16 := hide ((uh OH15).kept (grown_of_below hb16 none) (by simp))
     have OU16 := hide ((uh OU15).kept (grown_of_below hb16 none) (by simp))
     have RV16 := hide ((uh RV15).below hb16)
     have R16 := hide ((uh R15).below (by omega) hb16)
     have z16 : v15.heap.size ≤ v16.heap.size := hb16.size
     have FJ16 := hide ((uh FJ15).below hb16)
     have FH16 := hide ((uh FH15).below hb16)
     have FC16 := hide fC
     refine hK.out _ _ (by exact uh S16) (fun hS => ?_)
     clear hK KK fC hb16
     (try simp only [Act.put, xa, xb, xc])
     refine ry [33] ?_
     refine cn (fun KK hK => ?_) ?_
     ·refine step_call1 (by rfl) 167 _ _ (by rfl) (.map (some u)) (by rfl) (fun _ => (uh HCF).2 _ _) (Q.sortedKeys_u u _ D2 _ (uh OU16) (uh SZ2)) ?_
      rintro r v17 ⟨y, ss, rfl, asc, rdk, hb17⟩
      refine ⟨_, rfl, ?_⟩
      have ess := set_sorted (uh T2) (uh HU) asc
      rw [ess] at rdk
      obtain ⟨pU, cU, lU, rfl, q1, q2, q3⟩ := rdK_own rdk
      have S17 := hide ((uh S16).below hb17)
      have BW17 := hide (Below.step (uh BW16) hb17)
      have OH17 := hide ((uh OH16).kept (grown_of_below hb17 none) (by simp))
      have OU17 := hide ((uh OU16).kept (grown_of_below hb17 none) (by simp))
      have RV17 := hide ((uh RV16).below hb17)
      have R17 := hide ((uh R16).below (by omega) hb17)
      have z17 : v16.heap.size ≤ v17.heap.size := hb17.size
      have FJ17 := hide ((uh FJ16).below hb17)
      have FH17 := hide ((uh FH16).below hb17)
      have FC17 := hide ((uh FC16).below hb17)
      have FU17 : Hid (PU v17 v16.heap.size v17.heap.size (.slice pU nd.watchers.length cU) nd.watchers lU) := ⟨q1, q2, q3, fun a ha => q3.inn.lt ha⟩
      refine hK.out _ _ (by exact uh S17) (fun hS => ?_)
      clear hK KK asc rdk hb17 q1 q2 q3 ess
      (try simp only [Act.put, xa, xb, xc])
      refine tk 34 hS (h := ?_); simp only [Act.put, xa, xb, xc]
      have rc0 := (uh R17).1 0 _ rfl
      have rc1 := (uh R17).1 1 _ rfl
      have rc2 := (uh R17).1 2 _ rfl
      have rc3 := (uh R17).1 3 _ rfl
      have rc4 := (uh R17).1 4 _ rfl
      have rc5 := (uh R17).1 5 _ rfl
      have rc6 := (uh R17).1 6 _ rfl
      have rc7 := (uh R17).1 7 _ rfl
      have rf := (uh R17).2
      refine ry [35] ?_
      refine cn (fun KK hK => ?_) ?_
      ·go_simp
       obtain ⟨Z, hZ⟩ : ∃ Z, Z = ((((((((v17.setCell ⟨w.heap.size, 0, none⟩ (.slice pC nd.path.length cC)).setCell ⟨w.heap.size, 1, none⟩ (.slice pJ nd.value.length cJ)).setCell ⟨w.heap.size, 2, none⟩ (.int .u64 ow)).setCell ⟨w.heap.size, 3, none⟩ (.int .i64 mo)).setCell ⟨w.heap.size, 4, none⟩ (.slice pH nd.holders.length cH)).setCell ⟨w.heap.size, 5, none⟩ (.int .u64 ep)).setCell ⟨w.heap.size, 6, none⟩ (.int .u64 ge)).setCell ⟨w.heap.size, 7, none⟩ (.slice pU nd.watchers.length cU)) := ⟨_, rfl⟩
       have hkz : ∀ b, b ≠ w.heap.size → Z.heap[b]? = v17.heap[b]? := fun b hb => by
        rw [hZ]
        iterate 8 rw [RowKit.Below.heap_setCell _ _ _ _ hb]
       have cZ := (CellsAre.near (CellsAre.near (CellsAre.near (CellsAre.near (CellsAre.near (CellsAre.near (CellsAre.near (CellsAre.near (uh R17) 0 (by simp) (.slice pC nd.path.length cC)) 1 (by simp) (.slice pJ nd.value.length cJ)) 2 (by simp) (.int .u64 ow)) 3 (by simp) (.int .i64 mo)) 4 (by simp) (.slice pH nd.holders.length cH)) 5 (by simp) (.int .u64 ep)) 6 (by simp) (.int .u64 ge)) 7 (by simp) (.slice pU nd.watchers.length cU))
       rw [← hZ] at cZ
       have hbZ : Below w.heap.size w Z := by
        rw [hZ]
        exact (((((((((uh BW17).setCell (Nat.le_refl _) _).setCell (Nat.le_refl _) _).setCell (Nat.le_refl _) _).setCell (Nat.le_refl _) _).setCell (Nat.le_refl _) _).setCell (Nat.le_refl _) _).setCell (Nat.le_refl _) _).setCell (Nat.le_refl _) _)
       obtain ⟨en, apn⟩ := elNo.mk4 (B := v0.heap.size) (uh FC17) (uh FJ17) (uh FH17) (uh FU17) (by omega) (by omega) (by omega) (by omega) (by omega) (by omega) (by omega) (by omega) (by omega) (by omega)
       have hkl : ∀ y ∈ lC ++ (lJ ++ (lH ++ lU)), Z.heap[y.b]? = v17.heap[y.b]? := fun y hy => hkz _ (by have := apn.lo y hy; omega)
       have EN := hide (And.intro (elNo.keep _ Z _ _ _ en hkl) (And.intro ((apn.keep hkl).mono (B' := w.heap.size) (by omega)) hbZ))
       have SZg : At7 Z g (.slice pv nv cv) (.int .u64 ow) (.int .i64 mo) (.map (some h)) (.int .u64 ep) (.int .u64 ge) (.map (some u)) := by
        have hne : g ≠ w.heap.size := fun e => by
         have h1 := (uh R17).1 0 _ rfl
         have h2 := (uh S17).2.1
         rw [e] at h2
         have h3 := (uh R17).1 1 _ rfl
         rw [h2] at h3
         simp at h3
        obtain ⟨s0, s1, s2, s3, s4, s5, s6⟩ := uh S17
        have hz := cell_at_heap (hkz g hne)
        exact ⟨(hz _).trans s0, (hz _).trans s1, (hz _).trans s2, (hz _).trans s3, (hz _).trans s4, (hz _).trans s5, (hz _).trans s6⟩
       rw [← hZ]
       refine hK.out _ _ (by exact SZg) (fun hS => ?_)
       have zc0 := cZ.1 0 _ rfl
       have zc1 := cZ.1 1 _ rfl
       have zc2 := cZ.1 2 _ rfl
       have zc3 := cZ.1 3 _ rfl
       have zc4 := cZ.1 4 _ rfl
       have zc5 := cZ.1 5 _ rfl
       have zc6 := cZ.1 6 _ rfl
       have zc7 := cZ.1 7 _ rfl
       clear hK KK hZ hkz hbZ en apn hkl SZg cZ rc0 rc1 rc2 rc3 rc4 rc5 rc6 rc7 rf
       (try simp only [Act.put, xa, xb, xc])
       refine wpAnyH_done (by kernel_rfl) ?_ _
       refine NoPanic.normal ?_
       clear hS
       obtain ⟨e1, e2, e3, e4⟩ := uh HE
       go_wp2
       refine bodyPost_ret (v := .agg #[.slice pC nd.path.length cC, .slice pJ nd.value.length cJ, .int .u64 ow, .int .i64 mo, .slice pH nd.holders.length cH, .int .u64 ep, .int .u64 ge, .slice pU nd.watchers.length cU]) (by simp [results, Tryz.results142, go_sem, zc0, zc1, zc2, zc3, zc4, zc5, zc6, zc7]) rfl ⟨_, lC ++ (lJ ++ (lH ++ lU)), rfl, ?_, (uh EN).2.1, (uh EN).2.2⟩
       have hen := (uh EN).1
       rw [e1, e2, e3, e4] at hen
       exact hen
      exact AllReadyH.nil
     exact AllReadyH.nil
    refine cn (fun KK hK => ?_) ?_
    ·refine step_call1 (by rfl) 167 _ _ (by rfl) (.map (some u)) (by rfl) (fun _ => (uh HCF).2 _ _) (Q.sortedKeys_u u _ D2 _ (uh OU15) (uh SZ2)) ?_
     rintro r v18 ⟨y, ss, rfl, asc, rdk, hb18⟩
     refine ⟨_, rfl, ?_⟩
     have ess := set_sorted (uh T2) (uh HU) asc
     rw [ess] at rdk
     obtain ⟨pU, cU, lU, rfl, q1, q2, q3⟩ := rdK_own rdk
     have S18 := hide ((uh S15).below hb18)
     have BW18 := hide (Below.step (uh BW15) hb18)
     have OH18 := hide ((uh OH15).kept (grown_of_below hb18 none) (by simp))
     have OU18 := hide ((uh OU15).kept (grown_of_below hb18 none) (by simp))
     have RV18 := hide ((uh RV15).below hb18)
     have R18 := hide ((uh R15).below (by omega) hb18)
     have z18 : v15.heap.size ≤ v18.heap.size := hb18.size
     have FJ18 := hide ((uh FJ15).below hb18)
     have FH18 := hide ((uh FH15).below hb18)
     have FU18 : Hid (PU v18 v15.heap.size v18.heap.size (.slice pU nd.watchers.length cU) nd.watchers lU) := ⟨q1, q2, q3, fun a ha => q3.inn.lt ha⟩
     refine hK.out _ _ (by exact uh S18) (fun hS => ?_)
     clear hK KK asc rdk hb18 q1 q2 q3 ess
     (try simp only [Act.put, xa, xb, xc])
     refine ry [1] ?_
     refine cn (fun KK hK => ?_) ?_
     ·refine step_convP (by rfl) _ (by rfl) nd.path (by rfl) (uh HBY) l1 ?_
      intro pC cC v19 lC fC hb19
      have S19 := hide ((uh S18).below hb19)
      have BW19 := hide (Below.step (uh BW18) hb19)
      have OH19 := hide ((uh OH18).kept (grown_of_below hb19 none) (by simp))
      have OU19 := hide ((uh OU18).kept (grown_of_below hb19 none) (by simp))
      have RV19 := hide ((uh RV18).below hb19)
      have R19 := hide ((uh R18).below (by omega) hb19)
      have z19 : v18.heap.size ≤ v19.heap.size := hb19.size
      have FJ19 := hide ((uh FJ18).below hb19)
      have FH19 := hide ((uh FH18).below hb19)
      have FU19 := hide ((uh FU18).below hb19)
      have FC19 := hide fC
      refine hK.out _ _ (by exact uh S19) (fun hS => ?_)
      clear hK KK fC hb19
      (try simp only [Act.put, xa, xb, xc])
      refine tk 34 hS (h := ?_); simp only [Act.put, xa, xb, xc]
      have rc0 := (uh R19).1 0 _ rfl
      have rc1 := (uh R19).1 1 _ rfl
      have rc2 := (uh R19).1 2 _ rfl
      have rc3 := (uh R19).1 3 _ rfl
      have rc4 := (uh R19).1 4 _ rfl
      have rc5 := (uh R19).1 5 _ rfl
      have rc6 := (uh R19).1 6 _ rfl
      have rc7 := (uh R19).1 7 _ rfl
      have rf := (uh R19).2
      refine ry [35] ?_
      refine cn (fun KK hK => ?_) ?_
      ·go_simp
       obtain ⟨Z, hZ⟩ : ∃ Z, Z = ((((((((v19.setCell ⟨w.heap.size, 0, none⟩ (.slice pC nd.path.length cC)).setCell ⟨w.heap.size, 1, none⟩ (.slice pJ nd.value.length cJ)).setCell ⟨w.heap.size, 2, none⟩ (.int .u64 ow)).setCell ⟨w.heap.size, 3, none⟩ (.int .i64 mo)).setCell ⟨w.heap.size, 4, none⟩ (.slice pH nd.holders.length cH)).setCell ⟨w.heap.size, 5, none⟩ (.int .u64 ep)).setCell ⟨w.heap.size, 6, none⟩ (.int .u64 ge)).setCell ⟨w.heap.size, 7, none⟩ (.slice pU nd.watchers.length cU)) := ⟨_, rfl⟩
       have hkz : ∀ b, b ≠ w.heap.size → Z.heap[b]? = v19.heap[b]? := fun b hb => by
        rw [hZ]
        iterate 8 rw [RowKit.Below.heap_setCell _ _ _ _ hb]
       have cZ := (CellsAre.near (CellsAre.near (CellsAre.near (CellsAre.near (CellsAre.near (CellsAre.near (CellsAre.near (CellsAre.near (uh R19) 0 (by simp) (.slice pC nd.path.length cC)) 1 (by simp) (.slice pJ nd.value.length cJ)) 2 (by simp) (.int .u64 ow)) 3 (by simp) (.int .i64 mo)) 4 (by simp) (.slice pH nd.holders.length cH)) 5 (by simp) (.int .u64 ep)) 6 (by simp) (.int .u64 ge)) 7 (by simp) (.slice pU nd.watchers.length cU))
       rw [← hZ] at cZ
       have hbZ : Below w.heap.size w Z := by
        rw [hZ]
        exact (((((((((uh BW19).setCell (Nat.le_refl _) _).setCell (Nat.le_refl _) _).setCell (Nat.le_refl _) _).setCell (Nat.le_refl _) _).setCell (Nat.le_refl _) _).setCell (Nat.le_refl _) _).setCell (Nat.le_refl _) _).setCell (Nat.le_refl _) _)
       obtain ⟨en, apn⟩ := elNo.mk4 (B := v0.heap.size) (uh FC19) (uh FJ19) (uh FH19) (uh FU19) (by omega) (by omega) (by omega) (by omega) (by omega) (by omega) (by omega) (by omega) (by omega) (by omega)
       have hkl : ∀ y ∈ lC ++ (lJ ++ (lH ++ lU)), Z.heap[y.b]? = v19.heap[y.b]? := fun y hy => hkz _ (by have := apn.lo y hy; omega)
       have EN := hide (And.intro (elNo.keep _ Z _ _ _ en hkl) (And.intro ((apn.keep hkl).mono (B' := w.heap.size) (by omega)) hbZ))
       have SZg : At7 Z g (.slice pv nv cv) (.int .u64 ow) (.int .i64 mo) (.map (some h)) (.int .u64 ep) (.int .u64 ge) (.map (some u)) := by
        have hne : g ≠ w.heap.size := fun e => by
         have h1 := (uh R19).1 0 _ rfl
         have h2 := (uh S19).2.1
         rw [e] at h2
         have h3 := (uh R19).1 1 _ rfl
         rw [h2] at h3
         simp at h3
        obtain ⟨s0, s1, s2, s3, s4, s5, s6⟩ := uh S19
        have hz := cell_at_heap (hkz g hne)
        exact ⟨(hz _).trans s0, (hz _).trans s1, (hz _).trans s2, (hz _).trans s3, (hz _).trans s4, (hz _).trans s5, (hz _).trans s6⟩
       rw [← hZ]
       refine hK.out _ _ (by exact SZg) (fun hS => ?_)
       have zc0 := cZ.1 0 _ rfl
       have zc1 := cZ.1 1 _ rfl
       have zc2 := cZ.1 2 _ rfl
       have zc3 := cZ.1 3 _ rfl
       have zc4 := cZ.1 4 _ rfl
       have zc5 := cZ.1 5 _ rfl
       have zc6 := cZ.1 6 _ rfl
       have zc7 := cZ.1 7 _ rfl
       clear hK KK hZ hkz hbZ en apn hkl SZg cZ rc0 rc1 rc2 rc3 rc4 rc5 rc6 rc7 rf
       (try simp only [Act.put, xa, xb, xc])
       refine wpAnyH_done (by kernel_rfl) ?_ _
       refine NoPanic.normal ?_
       clear hS
       obtain ⟨e1, e2, e3, e4⟩ := uh HE
       go_wp2
       refine bodyPost_ret (v := .agg #[.slice pC nd.path.length cC, .slice pJ nd.value.length cJ, .int .u64 ow, .int .i64 mo, .slice pH nd.holders.length cH, .int .u64 ep, .int .u64 ge, .slice pU nd.watchers.length cU]) (by simp [results, Tryz.results142, go_sem, zc0, zc1, zc2, zc3, zc4, zc5, zc6, zc7]) rfl ⟨_, lC ++ (lJ ++ (lH ++ lU)), rfl, ?_, (uh EN).2.1, (uh EN).2.2⟩
       have hen := (uh EN).1
       rw [e1, e2, e3, e4] at hen
       exact hen
      exact AllReadyH.nil
     exact AllReadyH.nil
    exact AllReadyH.nil
   exact AllReadyH.nil
  exact AllReadyH.nil
 exact AllReadyH.nil
end Go.Proofs.YtnbgnhhnpmmloaaGreatDoor

