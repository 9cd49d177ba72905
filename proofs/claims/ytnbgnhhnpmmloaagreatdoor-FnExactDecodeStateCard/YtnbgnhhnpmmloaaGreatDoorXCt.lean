import Derived.Test.YtnbgnhhnpmmloaaGreatDoorK40
namespace Go.Proofs.YtnbgnhhnpmmloaaGreatDoor
open Go.ChangeShapes Go.WideShapes Go.ChangeAt Go.RowKit
set_option linter.unusedVariables false
set_option linter.unusedSimpArgs false
set_option maxRecDepth 100000
theorem cat_take_step {α : Type} (f : α → List Int) {l : List α} {k : Nat} {y : α} (h : l[k]? = some y) : cat ((l.take (k + 1)).map f) = cat ((l.take k).map f) ++ f y := by
 rw [List.take_add_one, h, List.map_append, cat, List.flatten_append, cat]
 simp
theorem stB_is (e g x : Nat) (ss : List Ses) (ns : List Nod) : stB e g x ss ns = ((((vi e ++ vi g) ++ vi x) ++ vi ss.length) ++ cat (ss.map seB) ++ vi ns.length) ++ cat (ns.map noB) := by
 rw [stB, liB_is, liB_is]
 simp [cat]
theorem noB_is (nd : Nod) : noB nd = ((((((tx nd.path ++ tx nd.value) ++ viI nd.owner) ++ [nd.mode]) ++ vi nd.holders.length) ++ cat (nd.holders.map viI)) ++ viI nd.epoch) ++ viI nd.gen := by
 rw [noB, noL, liB_is]
 simp [cat, viI]
set_option maxHeartbeats 12800000 in
theorem l3enc_any (e g x : Nat) (t : Int) (he : e < 18446744073709551616) (hg : g < 18446744073709551616) (hx : x < 18446744073709551616) (p q : Option Addr) (c n d m : Nat) (ss : List Ses) (ns : List Nod) (en : Hid (ss.length = n)) (em : Hid (ns.length = m)) (w : World) (h : RdS w (.slice p n c) ss) (hN : RdN w (.slice q m d) ns) (HS : Hid (Sml ss ns)) (N : Nat) (eN : Hid ((stB e g x ss ns).length = N)) :
  Calls Tryz.prog 35 #[stV e g x t (.slice p n c) (.slice q m d)] w fun r w' => ∃ p' c', r = .returned (.slice p' N c') ∧ Own w.heap.size w' (.slice p' N c') (stB e g x ss ns) ∧ Below w.heap.size w w' := by
 have HR := hide fun (w' : World) (hb : Below w.heap.size w w') => And.intro (h.below hb) (hN.below hb)
 clear h hN
 have hn5 : n ≤ 50 := by have := (uh HS).n1; rw [uh en] at this; exact this
 have hm5 : m ≤ 200 := by have := (uh HS).n2; rw [uh em] at this; exact this
 have wn : IntKind.u64.wrap (n : Int) = (n : Int) := by rw [IntKind.wrap_u64]; omega
 have wm : IntKind.u64.wrap (m : Int) = (m : Int) := by rw [IntKind.wrap_u64]; omega
 obtain ⟨M0, f0⟩ : ∃ M, Hid ((vi e).length = M) := ⟨_, (by show _ = _; rfl)⟩
 have hM0 : M0 ≤ 10 := by have := (vi_len e).2; rw [uh f0] at this; exact this
 obtain ⟨M1, f1⟩ : ∃ M, Hid ((vi g).length = M) := ⟨_, (by show _ = _; rfl)⟩
 have hM1 : M1 ≤ 10 := by have := (vi_len g).2; rw [uh f1] at this; exact this
 obtain ⟨M2, f2⟩ : ∃ M, Hid ((vi x).length = M) := ⟨_, (by show _ = _; rfl)⟩
 have hM2 : M2 ≤ 10 := by have := (vi_len x).2; rw [uh f2] at this; exact this
 obtain ⟨M3, f3⟩ : ∃ M, Hid ((vi n).length = M) := ⟨_, (by show _ = _; rfl)⟩
 have hM3 : M3 ≤ 10 := by have := (vi_len n).2; rw [uh f3] at this; exact this
 obtain ⟨M5, f5⟩ : ∃ M, Hid ((vi m).length = M) := ⟨_, (by show _ = _; rfl)⟩
 have hM5 : M5 ≤ 10 := by have := (vi_len m).2; rw [uh f5] at this; exact this
 obtain ⟨A1, hA1⟩ : ∃ l, Hid (l = vi e ++ vi g) := ⟨_, (by show _ = _; rfl)⟩
 obtain ⟨A2, hA2⟩ : ∃ l, Hid (l = A1 ++ vi x) := ⟨_, (by show _ = _; rfl)⟩
 obtain ⟨A3, hA3⟩ : ∃ l, Hid (l = A2 ++ vi n) := ⟨_, (by show _ = _; rfl)⟩
 obtain ⟨W, hW⟩ : ∃ W, W = (w.alloc (.cells #[.int .u64 e, .int .u64 g, .int .u64 x, .int .i64 t, .slice p n c, .slice q m d] 27)) := ⟨_, rfl⟩
 have BW : Hid (Below w.heap.size w W) := by rw [hW]; exact (Below.refl _ _).alloc (Nat.le_refl _) _
 have KW : Hid (W.heap[w.heap.size]? = some (.cells #[.int .u64 e, .int .u64 g, .int .u64 x, .int .i64 t, .slice p n c, .slice q m d] 27)) := by rw [hW]; exact blk_new _ _
 go_enter Tryz.func35, Tryz.ntmps35
 go_wp2_with fail
 rw [← hW]
 clear hW
 refine (l3varN e _ he M0 f0).mono ?_
 rintro z9 y1 ⟨py1, cy1, rfl, oy1, hby1⟩
 have By1 := hide (Below.step (uh BW) hby1)
 have Ky1 := hide (blk_below (uh KW) hby1)
 have Oy1 := hide (Own.mono (B' := w.heap.size) oy1 (uh BW).size)
 clear oy1 hby1 BW KW
 obtain ⟨i0, i1, i2, i3, i4, i5⟩ := St6.of_blk (uh Ky1)
 go_wp2_with fail
 refine (l3varN g _ hg M1 f1).mono ?_
 rintro z9 y2 ⟨py2, cy2, rfl, oy2, hby2⟩
 have Oy2 := hide (Own.below (uh Oy1) hby2)
 have By2 := hide (Below.step (uh By1) hby2)
 have Ky2 := hide (blk_below (uh Ky1) hby2)
 have Ry2 := hide oy2.rd
 clear oy2 hby2 By1 Ky1 Oy1
 clear i0 i1 i2 i3 i4 i5
 obtain ⟨Ly3, hLy3, bLy3⟩ : ∃ y, Hid (y = M0 + M1) ∧ y ≤ M0 + M1 := ⟨_, (by show _ = _; rfl), Nat.le_refl _⟩
 go_wp2_with (at_builtin; refine wpList_app rfl _ _ rfl By2 (.slice py1 M0 cy1) (vi e) (vi g) A1 hA1 py2 cy2 M1 f1 M0 f0 Ly3 hLy3 rfl rfl Oy2 Ry2 (by omega) ?_)
 intro poy3 coy3 y3 Oy3 eLy3 By3 KBy3
 have Ky3 := hide (uh KBy3 _ _ _ (by decide) (uh Ky2))
 clear KBy3 Oy2 By2 Ky2
 obtain ⟨i0, i1, i2, i3, i4, i5⟩ := St6.of_blk (uh Ky3)
 go_wp2_with fail
 refine (l3varN x _ hx M2 f2).mono ?_
 rintro z9 y4 ⟨py4, cy4, rfl, oy4, hby4⟩
 have Oy4 := hide (Own.below (uh Oy3) hby4)
 have By4 := hide (Below.step (uh By3) hby4)
 have Ky4 := hide (blk_below (uh Ky3) hby4)
 have Ry4 := hide oy4.rd
 clear oy4 hby4 By3 Ky3 Oy3
 clear i0 i1 i2 i3 i4 i5
 obtain ⟨Ly5, hLy5, bLy5⟩ : ∃ y, Hid (y = Ly3 + M2) ∧ y ≤ Ly3 + M2 := ⟨_, (by show _ = _; rfl), Nat.le_refl _⟩
 go_wp2_with (at_builtin; refine wpList_app rfl _ _ rfl By4 (.slice poy3 Ly3 coy3) A1 (vi x) A2 hA2 py4 cy4 M2 f2 Ly3 eLy3 Ly5 hLy5 rfl rfl Oy4 Ry4 (by omega) ?_)
 intro poy5 coy5 y5 Oy5 eLy5 By5 KBy5
 have Ky5 := hide (uh KBy5 _ _ _ (by decide) (uh Ky4))
 clear KBy5 Oy4 By4 Ky4
 obtain ⟨i0, i1, i2, i3, i4, i5⟩ := St6.of_blk (uh Ky5)
 go_wp2_with fail
 refine (l3varN n _ (by omega) M3 f3).mono ?_
 rintro z9 y6 ⟨py6, cy6, rfl, oy6, hby6⟩
 have Oy6 := hide (Own.below (uh Oy5) hby6)
 have By6 := hide (Below.step (uh By5) hby6)
 have Ky6 := hide (blk_below (uh Ky5) hby6)
 have Ry6 := hide oy6.rd
 clear oy6 hby6 By5 Ky5 Oy5
 clear i0 i1 i2 i3 i4 i5
 obtain ⟨Ly7, hLy7, bLy7⟩ : ∃ y, Hid (y = Ly5 + M3) ∧ y ≤ Ly5 + M3 := ⟨_, (by show _ = _; rfl), Nat.le_refl _⟩
 go_wp2_with (at_builtin; refine wpList_app rfl _ _ rfl By6 (.slice poy5 Ly5 coy5) A2 (vi n) A3 hA3 py6 cy6 M3 f3 Ly5 eLy5 Ly7 hLy7 rfl rfl Oy6 Ry6 (by omega) ?_)
 intro poy7 coy7 y7 Oy7 eLy7 By7 KBy7
 have Ky7 := hide (uh KBy7 _ _ _ (by decide) (uh Ky6))
 clear KBy7 Oy6 By6 Ky6
 have lA3 : Hid (A3.length = Ly7) := eLy7
 have bA3 : Ly7 ≤ 40 := by omega
 obtain ⟨i0, i1, i2, i3, i4, i5⟩ := St6.of_blk (uh Ky7)
 go_wp2
 clear i0 i1 i2 i3 i4 i5
 go_loopw [3, 4] (fun ov iv wr => ∃ (k : Nat) (po : Option Addr) (co L : Nat), k ≤ n ∧ ov = .slice po L co ∧ iv = .int .i64 k ∧ L ≤ 40 + 10 * k ∧ Hid ((A3 ++ cat ((ss.take k).map seB)).length = L) ∧ Hid (Own w.heap.size wr (.slice po L co) (A3 ++ cat ((ss.take k).map seB))) ∧ Hid (wr.heap[w.heap.size]? = some (.cells #[.int .u64 e, .int .u64 g, .int .u64 x, .int .i64 t, .slice p n c, .slice q m d] 27)) ∧ Hid (Below w.heap.size w wr)) (fun _ iv _ => n - (intOf iv).toNat)
 case atStart => exact ⟨0, _, _, _, Nat.zero_le _, rfl, rfl, by omega, (by show _ = _; simp only [List.take_zero, List.map_nil, cat_nil, List.append_nil]; exact uh lA3), (by show Own _ _ _ _; simp only [List.take_zero, List.map_nil, cat_nil, List.append_nil]; exact uh Oy7), Ky7, By7⟩
 case round =>
  clear Oy7 Ky7 By7
  obtain ⟨k, po, co, L, hk, rfl, rfl, hLk, eL, Or, Kr, Br⟩ := hrel
  by_cases hlt : k < n
  ·have hlt' : (k : Int) < (n : Int) := by omega
   have hkl : k < ss.length := by rw [uh en]; exact hlt
   obtain ⟨sk0, hy⟩ : ∃ y, ss[k]? = some y := ⟨_, List.getElem?_eq_getElem hkl⟩
   have hi := (uh HS).s _ (List.mem_of_getElem? hy)
   obtain ⟨v, ev⟩ : ∃ v : Nat, sk0.1 = (v : Int) := ⟨sk0.1.toNat, by omega⟩
   obtain ⟨b, o, rfl, hc0⟩ : ∃ b o, p = some ⟨b, o, none⟩ ∧ wr.cell? ⟨b, o + k * 3, none⟩ = some (.int .u64 v) := by
    obtain ⟨p', c', evv, hd⟩ := (uh HR _ (uh Br)).1
    simp only [Value.slice.injEq] at evv
    obtain ⟨rfl, -, -⟩ := evv
    rcases hd with h0 | ⟨b, o, h1, h2⟩
    ·rw [h0] at hkl; simp at hkl
    ·exact ⟨b, o, h1, by rw [← ev]; exact (h2 k _ hy).1⟩
   rw [ev] at hi
   have eS : Hid (seB sk0 = vi v) := by show _ = _; rw [seB, ev]; rfl
   obtain ⟨M, eM⟩ : ∃ M, Hid ((vi v).length = M) := ⟨_, (by show _ = _; rfl)⟩
   have hM : M ≤ 10 := by have := (vi_len v).2; rw [uh eM] at this; exact this
   obtain ⟨A, hA⟩ : ∃ A, Hid (A = A3 ++ cat ((ss.take k).map seB)) := ⟨_, (by show _ = _; rfl)⟩
   rw [← uh hA] at eL Or
   obtain ⟨AA, hAA⟩ : ∃ l, Hid (l = A ++ vi v) := ⟨_, (by show _ = _; rfl)⟩
   have EA : Hid (A3 ++ cat ((ss.take (k + 1)).map seB) = AA) := by show _ = _; rw [uh hAA, uh hA, cat_take_step seB hy, uh eS, List.append_assoc]
   have wk : IntKind.i64.wrap ((k : Int) + 1) = ((k + 1 : Nat) : Int) := by rw [IntWalk.i64_in _ (by omega)]; omega
   clear hkl hy ev eS
   obtain ⟨i0, i1, i2, i3, i4, i5⟩ := St6.of_blk (uh Kr)
   go_wp2_with fail
   refine (l3varN v _ (by omega) M eM).mono ?_
   rintro z9 y8 ⟨py8, cy8, rfl, oy8, hby8⟩
   have Oy8 := hide (Own.below (uh Or) hby8)
   have By8 := hide (Below.step (uh Br) hby8)
   have Ky8 := hide (blk_below (uh Kr) hby8)
   have Ry8 := hide oy8.rd
   clear oy8 hby8 Br Kr Or
   clear i0 i1 i2 i3 i4 i5
   clear hc0
   obtain ⟨Ly9, hLy9, bLy9⟩ : ∃ y, Hid (y = L + M) ∧ y ≤ L + M := ⟨_, (by show _ = _; rfl), Nat.le_refl _⟩
   go_wp2_with (at_builtin; refine wpList_app rfl _ _ rfl By8 (.slice po L co) A (vi v) AA hAA py8 cy8 M eM L eL Ly9 hLy9 rfl rfl Oy8 Ry8 (by omega) ?_)
   intro poy9 coy9 y9 Oy9 eLy9 By9 KBy9
   have Ky9 := hide (uh KBy9 _ _ _ (by decide) (uh Ky8))
   clear KBy9 Oy8 By8 Ky8
   obtain ⟨i0, i1, i2, i3, i4, i5⟩ := St6.of_blk (uh Ky9)
   go_wp2
   go_roundw
   case rel => exact ⟨k + 1, _, _, _, by omega, rfl, by go_num, by omega, (by rw [uh EA]; exact eLy9), (by rw [uh EA]; exact Oy9), Ky9, By9⟩
   case measure => simp [intOf]; omega
  ·have hlt' : ¬ (k : Int) < (n : Int) := by omega
   have ekn : n = k := by omega
   subst ekn
   rw [List.take_of_length_le (by rw [uh en]; exact Nat.le_refl _)] at eL Or
   obtain ⟨A4, hA4⟩ : ∃ A, Hid (A = A3 ++ cat (ss.map seB)) := ⟨_, (by show _ = _; rfl)⟩
   rw [← uh hA4] at eL Or
   obtain ⟨A5, hA5⟩ : ∃ A, Hid (A = A4 ++ vi m) := ⟨_, (by show _ = _; rfl)⟩
   clear hk hlt
   obtain ⟨i0, i1, i2, i3, i4, i5⟩ := St6.of_blk (uh Kr)
   go_wp2_with fail
   refine (l3varN m _ (by omega) M5 f5).mono ?_
   rintro z9 y10 ⟨py10, cy10, rfl, oy10, hby10⟩
   have Oy10 := hide (Own.below (uh Or) hby10)
   have By10 := hide (Below.step (uh Br) hby10)
   have Ky10 := hide (blk_below (uh Kr) hby10)
   have Ry10 := hide oy10.rd
   clear oy10 hby10 Br Kr Or
   clear i0 i1 i2 i3 i4 i5
   obtain ⟨Ly11, hLy11, bLy11⟩ : ∃ y, Hid (y = L + M5) ∧ y ≤ L + M5 := ⟨_, (by show _ = _; rfl), Nat.le_refl _⟩
   go_wp2_with (at_builtin; refine wpList_app rfl _ _ rfl By10 (.slice po L co) A4 (vi m) A5 hA5 py10 cy10 M5 f5 L eL Ly11 hLy11 rfl rfl Oy10 Ry10 (by omega) ?_)
   intro poy11 coy11 y11 Oy11 eLy11 By11 KBy11
   have Ky11 := hide (uh KBy11 _ _ _ (by decide) (uh Ky10))
   clear KBy11 Oy10 By10 Ky10
   have bA5 : Ly11 ≤ 600 := by omega
   have EN : Hid (stB e g x ss ns = A5 ++ cat (ns.map noB)) := by show _ = _; rw [stB_is, uh hA5, uh hA4, uh hA3, uh hA2, uh hA1, uh en, uh em]
   clear hLy11 hlt'
   obtain ⟨i0, i1, i2, i3, i4, i5⟩ := St6.of_blk (uh Ky11)
   go_wp2
   clear i0 i1 i2 i3 i4 i5
   go_loopw [3, 5] (fun ov iv wr => ∃ (k : Nat) (po : Option Addr) (co L : Nat), k ≤ m ∧ ov = .slice po L co ∧ iv = .int .i64 k ∧ L ≤ 600 + 800 * k ∧ Hid ((A5 ++ cat ((ns.take k).map noB)).length = L) ∧ Hid (Own w.heap.size wr (.slice po L co) (A5 ++ cat ((ns.take k).map noB))) ∧ Hid (wr.heap[w.heap.size]? = some (.cells #[.int .u64 e, .int .u64 g, .int .u64 x, .int .i64 t, .slice p n c, .slice q m d] 27)) ∧ Hid (Below w.heap.size w wr)) (fun _ iv _ => m - (intOf iv).toNat)
   case atStart => exact ⟨0, _, _, _, Nat.zero_le _, rfl, rfl, by omega, (by show _ = _; simp only [List.take_zero, List.map_nil, cat_nil, List.append_nil]; exact uh eLy11), (by show Own _ _ _ _; simp only [List.take_zero, List.map_nil, cat_nil, List.append_nil]; exact uh Oy11), Ky11, By11⟩
   case round =>
    clear Oy11 Ky11 By11 eLy11
    obtain ⟨k, po, co, L, hk, rfl, rfl, hLk, eL, Or, Kr, Br⟩ := hrel
    by_cases hlt : k < m
    ·have hlt' : (k : Int) < (m : Int) := by omega
     have hkl : k < ns.length := by rw [uh em]; exact hlt
     obtain ⟨nd, hy⟩ : ∃ y, ns[k]? = some y := ⟨_, List.getElem?_eq_getElem hkl⟩
     have hi := (uh HS).d nd (List.mem_of_getElem? hy)
     have hlen := (noB_len (uh HS) nd (List.mem_of_getElem? hy)).1
     obtain ⟨b, o, rfl, PP, PV, PH, PU, hna⟩ : ∃ b o, q = some ⟨b, o, none⟩ ∧ ∃ P V H U, NodeAt w b (o + k * 8) nd P V H U := by
      obtain ⟨p', c', ev, hd⟩ := (uh HR _ (Below.refl _ _)).2
      simp only [Value.slice.injEq] at ev
      obtain ⟨rfl, -, -⟩ := ev
      rcases hd with h0 | ⟨b, o, h1, h2⟩
      ·rw [h0] at hkl; simp at hkl
      ·exact ⟨b, o, h1, h2 k _ hy⟩
     obtain ⟨P, eP⟩ : ∃ v, nd.path = v := ⟨_, rfl⟩
     obtain ⟨V, eV⟩ : ∃ v, nd.value = v := ⟨_, rfl⟩
     obtain ⟨H, eH⟩ : ∃ v, nd.holders = v := ⟨_, rfl⟩
     obtain ⟨pA, cA, nA, rfl, eA⟩ := hna.r0.slc
     obtain ⟨pB, cB, nB, rfl, eB⟩ := hna.r1.slc
     obtain ⟨pD, cD, nD, rfl, eD⟩ := hna.r4.slc
     obtain ⟨pU, cU, nU, rfl, -⟩ := hna.r7.slc
     obtain ⟨hc0, hc1, hc2, hc3, hc4, hc5, hc6, hc7, -⟩ := hna.below (uh Br)
     obtain ⟨-, -, -, -, -, -, -, -, q0, q1, q4, -, -⟩ := hna
     rw [eP] at q0
     rw [eV] at q1
     rw [eH] at q4
     have QQ := hide fun (w' : World) (hb : Below w.heap.size w w') => And.intro (q0.below hb) (And.intro (q1.below hb) (q4.below hb))
     obtain ⟨⟨j1, j2, j3⟩, j4, j5, j6, j7, j8⟩ := hi
     rw [uh eA] at j1
     rw [uh eB] at j2
     rw [uh eD] at j3
     have J8 := hide j8
     obtain ⟨ow, eow⟩ : ∃ v : Nat, nd.owner = (v : Int) := ⟨nd.owner.toNat, by omega⟩
     obtain ⟨ep, eep⟩ : ∃ v : Nat, nd.epoch = (v : Int) := ⟨nd.epoch.toNat, by omega⟩
     obtain ⟨ge, ege⟩ : ∃ v : Nat, nd.gen = (v : Int) := ⟨nd.gen.toNat, by omega⟩
     obtain ⟨mo, emo⟩ : ∃ v : Int, nd.mode = v := ⟨_, rfl⟩
     rw [eow] at hc2 j5
     rw [eep] at hc5 j6
     rw [ege] at hc6 j7
     rw [emo] at hc3 j4
     rw [eP] at eA
     rw [eV] at eB
     rw [eH] at eD J8
     have EB : Hid (noB nd = ((((((tx P ++ tx V) ++ vi ow) ++ [mo]) ++ vi nD) ++ cat (H.map viI)) ++ vi ep) ++ vi ge) := by show _ = _; rw [noB_is, eow, eep, ege, emo, eP, eV, eH, viI, viI, viI, uh eD]; rfl
     have HY := hide hy
     have wmo : IntKind.u8.wrap mo = mo := by rw [IntKind.wrap_u8]; omega
     have wh : IntKind.u64.wrap (nD : Int) = (nD : Int) := by rw [IntKind.wrap_u64]; omega
     have wk : IntKind.i64.wrap ((k : Int) + 1) = ((k + 1 : Nat) : Int) := by rw [IntWalk.i64_in _ (by omega)]; omega
     obtain ⟨T0, t0⟩ : ∃ M, Hid ((tx P).length = M) := ⟨_, (by show _ = _; rfl)⟩
     obtain ⟨T1, t1⟩ : ∃ M, Hid ((tx V).length = M) := ⟨_, (by show _ = _; rfl)⟩
     have bT0 : T0 ≤ 146 := by have := (tx_len P).2; rw [uh t0, uh eA] at this; omega
     have bT1 : T1 ≤ 50 := by have := (tx_len V).2; rw [uh t1, uh eB] at this; omega
     obtain ⟨G0, g0⟩ : ∃ M, Hid ((vi ow).length = M) := ⟨_, (by show _ = _; rfl)⟩
     have hG0 : G0 ≤ 10 := by have := (vi_len ow).2; rw [uh g0] at this; exact this
     obtain ⟨G1, g1⟩ : ∃ M, Hid ((vi nD).length = M) := ⟨_, (by show _ = _; rfl)⟩
     have hG1 : G1 ≤ 10 := by have := (vi_len nD).2; rw [uh g1] at this; exact this
     obtain ⟨G2, g2⟩ : ∃ M, Hid ((vi ep).length = M) := ⟨_, (by show _ = _; rfl)⟩
     have hG2 : G2 ≤ 10 := by have := (vi_len ep).2; rw [uh g2] at this; exact this
     obtain ⟨G3, g3⟩ : ∃ M, Hid ((vi ge).length = M) := ⟨_, (by show _ = _; rfl)⟩
     have hG3 : G3 ≤ 10 := by have := (vi_len ge).2; rw [uh g3] at this; exact this
     obtain ⟨C, hC⟩ : ∃ A, Hid (A = A5 ++ cat ((ns.take k).map noB)) := ⟨_, (by show _ = _; rfl)⟩
     rw [← uh hC] at eL Or
     obtain ⟨C1, hC1⟩ : ∃ l, Hid (l = C ++ tx P) := ⟨_, (by show _ = _; rfl)⟩
     obtain ⟨C2, hC2⟩ : ∃ l, Hid (l = C1 ++ tx V) := ⟨_, (by show _ = _; rfl)⟩
     obtain ⟨C3, hC3⟩ : ∃ l, Hid (l = C2 ++ vi ow) := ⟨_, (by show _ = _; rfl)⟩
     obtain ⟨C4, hC4⟩ : ∃ l, Hid (l = C3 ++ [mo]) := ⟨_, (by show _ = _; rfl)⟩
     obtain ⟨C5, hC5⟩ : ∃ l, Hid (l = C4 ++ vi nD) := ⟨_, (by show _ = _; rfl)⟩
     obtain ⟨C6, hC6⟩ : ∃ l, Hid (l = C5 ++ cat (H.map viI)) := ⟨_, (by show _ = _; rfl)⟩
     obtain ⟨C7, hC7⟩ : ∃ l, Hid (l = C6 ++ vi ep) := ⟨_, (by show _ = _; rfl)⟩
     obtain ⟨C8, hC8⟩ : ∃ l, Hid (l = C7 ++ vi ge) := ⟨_, (by show _ = _; rfl)⟩
     have EC : Hid (A5 ++ cat ((ns.take (k + 1)).map noB) = C8) := by show _ = _; rw [cat_take_step noB (uh HY), uh EB, uh hC8, uh hC7, uh hC6, uh hC5, uh hC4, uh hC3, uh hC2, uh hC1, uh hC]; simp only [List.append_assoc]
     clear q0 q1 q4 j8 eow eep ege emo eP eV eH hkl hy hlen
     obtain ⟨i0, i1, i2, i3, i4, i5⟩ := St6.of_blk (uh Kr)
     go_wp2_with fail
     clear i0 i1 i2 i3 i4 i5 hc0 hc1 hc2 hc3 hc4 hc5 hc6 hc7
     obtain ⟨X, hX⟩ : ∃ X, X = wr.alloc (.cells #[.slice pA nA cA, .slice pB nB cB, .int .u64 ow, .int .i64 mo, .slice pD nD cD, .int .u64 ep, .int .u64 ge, .slice pU nU cU] 66) := ⟨_, rfl⟩
     have hbX : Below wr.heap.size wr X := by rw [hX]; exact (Below.refl _ _).alloc (Nat.le_refl _) _
     obtain ⟨nb, hnb⟩ : ∃ y, y = wr.heap.size := ⟨_, rfl⟩
     have NX : Hid (X.heap[nb]? = some (.cells #[.slice pA nA cA, .slice pB nB cB, .int .u64 ow, .int .i64 mo, .slice pD nD cD, .int .u64 ep, .int .u64 ge, .slice pU nU cU] 66)) := by rw [hX, hnb]; exact blk_new _ _
     have OX := hide (Own.below (uh Or) hbX)
     have BX := hide (Below.step (uh Br) hbX)
     have KX := hide (blk_below (uh Kr) hbX)
     rw [← hX, ← hnb]
     clear hX hbX Or Br Kr hnb
     refine (l3text_any pA cA nA P eA _ (uh QQ _ (uh BX)).1 (by omega) T0 t0).mono ?_
     rintro z9 y12 ⟨py12, cy12, rfl, oy12, hby12⟩
     have Oy12 := hide (Own.below (uh OX) hby12)
     have By12 := hide (Below.step (uh BX) hby12)
     have Ky12 := hide (blk_below (uh KX) hby12)
     have Ny12 := hide (blk_below (uh NX) hby12)
     have Ry12 := hide oy12.rd
     clear oy12 hby12 BX KX OX NX
     obtain ⟨Ly13, hLy13, bLy13⟩ : ∃ y, Hid (y = L + T0) ∧ y ≤ L + T0 := ⟨_, (by show _ = _; rfl), Nat.le_refl _⟩
     go_wp2_with (at_builtin; refine wpList_app rfl _ _ rfl By12 (.slice po L co) C (tx P) C1 hC1 py12 cy12 T0 t0 L eL Ly13 hLy13 rfl rfl Oy12 Ry12 (by omega) ?_)
     intro poy13 coy13 y13 Oy13 eLy13 By13 KBy13
     have Ky13 := hide (uh KBy13 _ _ _ (by decide) (uh Ky12))
     have Ny13 := hide (uh KBy13 _ _ _ (by decide) (uh Ny12))
     clear KBy13 Oy12 By12 Ky12 Ny12
     obtain ⟨i0, i1, i2, i3, i4, i5⟩ := St6.of_blk (uh Ky13)
     obtain ⟨a0, a1, a2, a3, a4, a5, a6, a7⟩ := At8.of_blk (uh Ny13)
     go_wp2_with fail
     refine (l3text_any pB cB nB V eB _ (uh QQ _ (uh By13)).2.1 (by omega) T1 t1).mono ?_
     rintro z9 y14 ⟨py14, cy14, rfl, oy14, hby14⟩
     have Oy14 := hide (Own.below (uh Oy13) hby14)
     have By14 := hide (Below.step (uh By13) hby14)
     have Ky14 := hide (blk_below (uh Ky13) hby14)
     have Ny14 := hide (blk_below (uh Ny13) hby14)
     have Ry14 := hide oy14.rd
     clear oy14 hby14 By13 Ky13 Oy13 Ny13
     clear i0 i1 i2 i3 i4 i5 a0 a1 a2 a3 a4 a5 a6 a7
     obtain ⟨Ly15, hLy15, bLy15⟩ : ∃ y, Hid (y = Ly13 + T1) ∧ y ≤ Ly13 + T1 := ⟨_, (by show _ = _; rfl), Nat.le_refl _⟩
     go_wp2_with (at_builtin; refine wpList_app rfl _ _ rfl By14 (.slice poy13 Ly13 coy13) C1 (tx V) C2 hC2 py14 cy14 T1 t1 Ly13 eLy13 Ly15 hLy15 rfl rfl Oy14 Ry14 (by omega) ?_)
     intro poy15 coy15 y15 Oy15 eLy15 By15 KBy15
     have Ky15 := hide (uh KBy15 _ _ _ (by decide) (uh Ky14))
     have Ny15 := hide (uh KBy15 _ _ _ (by decide) (uh Ny14))
     clear KBy15 Oy14 By14 Ky14 Ny14
     obtain ⟨i0, i1, i2, i3, i4, i5⟩ := St6.of_blk (uh Ky15)
     obtain ⟨a0, a1, a2, a3, a4, a5, a6, a7⟩ := At8.of_blk (uh Ny15)
     go_wp2_with fail
     refine (l3varN ow _ (by omega) G0 g0).mono ?_
     rintro z9 y16 ⟨py16, cy16, rfl, oy16, hby16⟩
     have Oy16 := hide (Own.below (uh Oy15) hby16)
     have By16 := hide (Below.step (uh By15) hby16)
     have Ky16 := hide (blk_below (uh Ky15) hby16)
     have Ny16 := hide (blk_below (uh Ny15) hby16)
     have Ry16 := hide oy16.rd
     clear oy16 hby16 By15 Ky15 Oy15 Ny15
     clear i0 i1 i2 i3 i4 i5 a0 a1 a2 a3 a4 a5 a6 a7
     obtain ⟨Ly17, hLy17, bLy17⟩ : ∃ y, Hid (y = Ly15 + G0) ∧ y ≤ Ly15 + G0 := ⟨_, (by show _ = _; rfl), Nat.le_refl _⟩
     go_wp2_with (at_builtin; refine wpList_app rfl _ _ rfl By16 (.slice poy15 Ly15 coy15) C2 (vi ow) C3 hC3 py16 cy16 G0 g0 Ly15 eLy15 Ly17 hLy17 rfl rfl Oy16 Ry16 (by omega) ?_)
     intro poy17 coy17 y17 Oy17 eLy17 By17 KBy17
     have Ky17 := hide (uh KBy17 _ _ _ (by decide) (uh Ky16))
     have Ny17 := hide (uh KBy17 _ _ _ (by decide) (uh Ny16))
     clear KBy17 Oy16 By16 Ky16 Ny16
     obtain ⟨i0, i1, i2, i3, i4, i5⟩ := St6.of_blk (uh Ky17)
     obtain ⟨a0, a1, a2, a3, a4, a5, a6, a7⟩ := At8.of_blk (uh Ny17)
     obtain ⟨Ly18, hLy18, bLy18⟩ : ∃ y, Hid (y = Ly17 + 1) ∧ y ≤ Ly17 + 1 := ⟨_, (by show _ = _; rfl), Nat.le_refl _⟩
     go_wp2_with (at_builtin; refine wpList_appb rfl _ _ rfl By17 (.slice poy17 Ly17 coy17) C3 C4 mo hC4 Ly17 eLy17 Ly18 hLy18 rfl rfl Oy17 (by omega) ?_)
     intro poy18 coy18 y18 Oy18 eLy18 By18 KBy18
     have Ky18 := hide (uh KBy18 _ _ _ (by decide) (uh Ky17))
     have Ny18 := hide (uh KBy18 _ _ _ (by decide) (uh Ny17))
     clear KBy18 Oy17 By17 Ky17 Ny17
     clear i0 i1 i2 i3 i4 i5 a0 a1 a2 a3 a4 a5 a6 a7
     obtain ⟨i0, i1, i2, i3, i4, i5⟩ := St6.of_blk (uh Ky18)
     obtain ⟨a0, a1, a2, a3, a4, a5, a6, a7⟩ := At8.of_blk (uh Ny18)
     go_wp2_with fail
     refine (l3varN nD _ (by omega) G1 g1).mono ?_
     rintro z9 y19 ⟨py19, cy19, rfl, oy19, hby19⟩
     have Oy19 := hide (Own.below (uh Oy18) hby19)
     have By19 := hide (Below.step (uh By18) hby19)
     have Ky19 := hide (blk_below (uh Ky18) hby19)
     have Ny19 := hide (blk_below (uh Ny18) hby19)
     have Ry19 := hide oy19.rd
     clear oy19 hby19 By18 Ky18 Oy18 Ny18
     clear i0 i1 i2 i3 i4 i5 a0 a1 a2 a3 a4 a5 a6 a7
     obtain ⟨Ly20, hLy20, bLy20⟩ : ∃ y, Hid (y = Ly18 + G1) ∧ y ≤ Ly18 + G1 := ⟨_, (by show _ = _; rfl), Nat.le_refl _⟩
     go_wp2_with (at_builtin; refine wpList_app rfl _ _ rfl By19 (.slice poy18 Ly18 coy18) C4 (vi nD) C5 hC5 py19 cy19 G1 g1 Ly18 eLy18 Ly20 hLy20 rfl rfl Oy19 Ry19 (by omega) ?_)
     intro poy20 coy20 y20 Oy20 eLy20 By20 KBy20
     have Ky20 := hide (uh KBy20 _ _ _ (by decide) (uh Ky19))
     have Ny20 := hide (uh KBy20 _ _ _ (by decide) (uh Ny19))
     clear KBy20 Oy19 By19 Ky19 Ny19
     obtain ⟨i0, i1, i2, i3, i4, i5⟩ := St6.of_blk (uh Ky20)
     obtain ⟨a0, a1, a2, a3, a4, a5, a6, a7⟩ := At8.of_blk (uh Ny20)
     go_wp2
     clear i0 i1 i2 i3 i4 i5 a0 a1 a2 a3 a4 a5 a6 a7
     go_loopw [3, 7] (fun ov kv wr => ∃ (j : Nat) (po : Option Addr) (co L : Nat), j ≤ nD ∧ ov = .slice po L co ∧ kv = .int .i64 j ∧ L ≤ Ly20 + 10 * j ∧ Hid ((C5 ++ cat ((H.take j).map viI)).length = L) ∧ Hid (Own w.heap.size wr (.slice po L co) (C5 ++ cat ((H.take j).map viI))) ∧ Hid (wr.heap[w.heap.size]? = some (.cells #[.int .u64 e, .int .u64 g, .int .u64 x, .int .i64 t, .slice p n c, .slice (some ⟨b, o, none⟩) m d] 27)) ∧ Hid (wr.heap[nb]? = some (.cells #[.slice pA nA cA, .slice pB nB cB, .int .u64 ow, .int .i64 mo, .slice pD nD cD, .int .u64 ep, .int .u64 ge, .slice pU nU cU] 66)) ∧ Hid (Below w.heap.size w wr)) (fun _ kv _ => nD - (intOf kv).toNat)
     case atStart => exact ⟨0, _, _, _, Nat.zero_le _, rfl, rfl, by omega, (by show _ = _; simp only [List.take_zero, List.map_nil, cat_nil, List.append_nil]; exact uh eLy20), (by show Own _ _ _ _; simp only [List.take_zero, List.map_nil, cat_nil, List.append_nil]; exact uh Oy20), Ky20, Ny20, By20⟩
     case round =>
      clear Oy20 Ky20 Ny20 By20 eLy20 eL
      obtain ⟨j, pr, cr, Lr, hj, rfl, rfl, hLj, eLr, Or, Kr, Nr, Br⟩ := hrel
      by_cases hlj : j < nD
      ·have hlj' : (j : Int) < (nD : Int) := by omega
       have hjl : j < H.length := by rw [uh eD]; exact hlj
       obtain ⟨iv, hy⟩ : ∃ y, H[j]? = some y := ⟨_, List.getElem?_eq_getElem hjl⟩
       have hi := uh J8 iv (List.mem_of_getElem? hy)
       obtain ⟨v, rfl⟩ : ∃ v : Nat, iv = (v : Int) := ⟨iv.toNat, by omega⟩
       obtain ⟨b', o', rfl, hc⟩ : ∃ b o, pD = some ⟨b, o, none⟩ ∧ wr.cell? ⟨b, o + j, none⟩ = some (.int .u64 v) := by
        obtain ⟨p', c', ev, hd⟩ := (uh QQ _ (uh Br)).2.2
        simp only [Value.slice.injEq] at ev
        obtain ⟨rfl, -, -⟩ := ev
        rcases hd with h0 | ⟨b, o, h1, h2⟩
        ·rw [h0] at hjl; simp at hjl
        ·refine ⟨b, o, h1, ?_⟩
         have := h2 j hjl
         rw [List.getD_eq_getElem?_getD, hy, Option.getD_some] at this
         exact this
       obtain ⟨M, eM⟩ : ∃ M, Hid ((vi v).length = M) := ⟨_, (by show _ = _; rfl)⟩
       have hM : M ≤ 10 := by have := (vi_len v).2; rw [uh eM] at this; exact this
       obtain ⟨A, hA⟩ : ∃ A, Hid (A = C5 ++ cat ((H.take j).map viI)) := ⟨_, (by show _ = _; rfl)⟩
       rw [← uh hA] at eLr Or
       obtain ⟨AA, hAA⟩ : ∃ l, Hid (l = A ++ vi v) := ⟨_, (by show _ = _; rfl)⟩
       have EA : Hid (C5 ++ cat ((H.take (j + 1)).map viI) = AA) := by show _ = _; rw [uh hAA, uh hA, cat_take_step viI hy, List.append_assoc]; rfl
       have wj : IntKind.i64.wrap ((j : Int) + 1) = ((j + 1 : Nat) : Int) := by rw [IntWalk.i64_in _ (by omega)]; omega
       clear hjl hy
       obtain ⟨i0, i1, i2, i3, i4, i5⟩ := St6.of_blk (uh Kr)
       obtain ⟨a0, a1, a2, a3, a4, a5, a6, a7⟩ := At8.of_blk (uh Nr)
       go_wp2_with fail
       refine (l3varN v _ (by omega) M eM).mono ?_
       rintro z9 y21 ⟨py21, cy21, rfl, oy21, hby21⟩
       have Oy21 := hide (Own.below (uh Or) hby21)
       have By21 := hide (Below.step (uh Br) hby21)
       have Ky21 := hide (blk_below (uh Kr) hby21)
       have Ny21 := hide (blk_below (uh Nr) hby21)
       have Ry21 := hide oy21.rd
       clear oy21 hby21 Br Kr Or Nr
       clear i0 i1 i2 i3 i4 i5 a0 a1 a2 a3 a4 a5 a6 a7
       clear hc
       obtain ⟨Ly22, hLy22, bLy22⟩ : ∃ y, Hid (y = Lr + M) ∧ y ≤ Lr + M := ⟨_, (by show _ = _; rfl), Nat.le_refl _⟩
       go_wp2_with (at_builtin; refine wpList_app rfl _ _ rfl By21 (.slice pr Lr cr) A (vi v) AA hAA py21 cy21 M eM Lr eLr Ly22 hLy22 rfl rfl Oy21 Ry21 (by omega) ?_)
       intro poy22 coy22 y22 Oy22 eLy22 By22 KBy22
       have Ky22 := hide (uh KBy22 _ _ _ (by decide) (uh Ky21))
       have Ny22 := hide (uh KBy22 _ _ _ (by decide) (uh Ny21))
       clear KBy22 Oy21 By21 Ky21 Ny21
       obtain ⟨i0, i1, i2, i3, i4, i5⟩ := St6.of_blk (uh Ky22)
       obtain ⟨a0, a1, a2, a3, a4, a5, a6, a7⟩ := At8.of_blk (uh Ny22)
       go_wp2
       go_roundw
       case rel => exact ⟨j + 1, _, _, _, by omega, rfl, by go_num, by omega, (by rw [uh EA]; exact eLy22), (by rw [uh EA]; exact Oy22), Ky22, Ny22, By22⟩
       case measure => simp [intOf]; omega
      ·have hlj' : ¬ (j : Int) < (nD : Int) := by omega
       have ejn : nD = j := by omega
       rw [List.take_of_length_le (by rw [uh eD]; omega)] at eLr Or
       rw [← uh hC6] at eLr Or
       obtain ⟨i0, i1, i2, i3, i4, i5⟩ := St6.of_blk (uh Kr)
       obtain ⟨a0, a1, a2, a3, a4, a5, a6, a7⟩ := At8.of_blk (uh Nr)
       go_wp2_with fail
       refine (l3varN ep _ (by omega) G2 g2).mono ?_
       rintro z9 y23 ⟨py23, cy23, rfl, oy23, hby23⟩
       have Oy23 := hide (Own.below (uh Or) hby23)
       have By23 := hide (Below.step (uh Br) hby23)
       have Ky23 := hide (blk_below (uh Kr) hby23)
       have Ny23 := hide (blk_below (uh Nr) hby23)
       have Ry23 := hide oy23.rd
       clear oy23 hby23 Br Kr Or Nr
       clear i0 i1 i2 i3 i4 i5 a0 a1 a2 a3 a4 a5 a6 a7
       obtain ⟨Ly24, hLy24, bLy24⟩ : ∃ y, Hid (y = Lr + G2) ∧ y ≤ Lr + G2 := ⟨_, (by show _ = _; rfl), Nat.le_refl _⟩
       go_wp2_with (at_builtin; refine wpList_app rfl _ _ rfl By23 (.slice pr Lr cr) C6 (vi ep) C7 hC7 py23 cy23 G2 g2 Lr eLr Ly24 hLy24 rfl rfl Oy23 Ry23 (by omega) ?_)
       intro poy24 coy24 y24 Oy24 eLy24 By24 KBy24
       have Ky24 := hide (uh KBy24 _ _ _ (by decide) (uh Ky23))
       have Ny24 := hide (uh KBy24 _ _ _ (by decide) (uh Ny23))
       clear KBy24 Oy23 By23 Ky23 Ny23
       obtain ⟨i0, i1, i2, i3, i4, i5⟩ := St6.of_blk (uh Ky24)
       obtain ⟨a0, a1, a2, a3, a4, a5, a6, a7⟩ := At8.of_blk (uh Ny24)
       go_wp2_with fail
       refine (l3varN ge _ (by omega) G3 g3).mono ?_
       rintro z9 y25 ⟨py25, cy25, rfl, oy25, hby25⟩
       have Oy25 := hide (Own.below (uh Oy24) hby25)
       have By25 := hide (Below.step (uh By24) hby25)
       have Ky25 := hide (blk_below (uh Ky24) hby25)
       have Ny25 := hide (blk_below (uh Ny24) hby25)
       have Ry25 := hide oy25.rd
       clear oy25 hby25 By24 Ky24 Oy24 Ny24
       clear i0 i1 i2 i3 i4 i5 a0 a1 a2 a3 a4 a5 a6 a7
       obtain ⟨Ly26, hLy26, bLy26⟩ : ∃ y, Hid (y = Ly24 + G3) ∧ y ≤ Ly24 + G3 := ⟨_, (by show _ = _; rfl), Nat.le_refl _⟩
       go_wp2_with (at_builtin; refine wpList_app rfl _ _ rfl By25 (.slice poy24 Ly24 coy24) C7 (vi ge) C8 hC8 py25 cy25 G3 g3 Ly24 eLy24 Ly26 hLy26 rfl rfl Oy25 Ry25 (by omega) ?_)
       intro poy26 coy26 y26 Oy26 eLy26 By26 KBy26
       have Ky26 := hide (uh KBy26 _ _ _ (by decide) (uh Ky25))
       have Ny26 := hide (uh KBy26 _ _ _ (by decide) (uh Ny25))
       clear KBy26 Oy25 By25 Ky25 Ny25
       obtain ⟨i0, i1, i2, i3, i4, i5⟩ := St6.of_blk (uh Ky26)
       obtain ⟨a0, a1, a2, a3, a4, a5, a6, a7⟩ := At8.of_blk (uh Ny26)
       go_wp2
       go_roundw
       case rel => exact ⟨k + 1, _, _, _, by omega, rfl, by go_num, by omega, (by rw [uh EC]; exact eLy26), (by rw [uh EC]; exact Oy26), Ky26, By26⟩
       case measure => simp [intOf]; omega
    ·have hlt' : ¬ (k : Int) < (m : Int) := by omega
     have ekm : m = k := by omega
     subst ekm
     rw [List.take_of_length_le (by rw [uh em]; exact Nat.le_refl _), ← uh EN] at eL Or
     have eLN : L = N := (uh eL).symm.trans (uh eN)
     subst eLN
     obtain ⟨i0, i1, i2, i3, i4, i5⟩ := St6.of_blk (uh Kr)
     go_wp2
     go_ret
     exact ⟨po, co, rfl, uh Or, uh Br⟩
end Go.Proofs.YtnbgnhhnpmmloaaGreatDoor

