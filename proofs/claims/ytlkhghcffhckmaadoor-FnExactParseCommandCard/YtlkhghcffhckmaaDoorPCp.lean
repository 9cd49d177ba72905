import Derived.Test.YtlkhghcffhckmaaDoorPLb
namespace Go.Proofs.YtlkhghcffhckmaaDoor
open Go.ChangeShapes Go.WideShapes Go.ChangeAt Go.RowKit
set_option linter.unusedVariables false
set_option linter.unusedSimpArgs false
set_option maxRecDepth 100000

set_option maxHeartbeats 6400000 in
theorem put_any (F : Frm) (fw : ByteArray) (p : Pl) (hp : p.ok) (hF : (0 ≤ F.mostN ∧ F.mostN ≤ 1000000) ∧ 0 ≤ F.mostM ∧ F.mostM ≤ 1000000) (C : Cmd) (b B : Nat) (a1 : Option Addr) (a2 a3 : Nat) (d1 : Option Addr) (d2 d3 : Nat) (x : List Int) (hb : Hid (Byt x)) (hx : x.length ≤ 1048576) (w : World) (hC : Hid (CellsAre w b (cmL C (.slice a1 a2 a3) (.slice d1 d2 d3)))) (hN : Hid (NoB w b)) (hO : Hid (OwnP B w (.slice a1 a2 a3) (.slice d1 d2 d3) C.pa C.va)) (hlt : b < w.heap.size) (hB : B ≤ w.heap.size) (hE : Hid (∀ w', Below b w w' → ErrVars w')) :
  Calls Tryd.prog 27 #[frmV fw F, .pointer (some ⟨b, 0, none⟩), .string (bstr p.word), .string (bstr x)] w fun e w' => e = .returned (.bool (putI F C p x).isSome) ∧ Below b w w' ∧ NoB w' b ∧ ∀ C', putI F C p x = some C' → ∃ x1 x2 x3 y1 y2 y3, CellsAre w' b (cmL C' (.slice x1 x2 x3) (.slice y1 y2 y3)) ∧ OwnP B w' (.slice x1 x2 x3) (.slice y1 y2 y3) C'.pa C'.va := by
 rcases p with q | (_ | _ | _) | (_ | _) | (_ | _)
 ·skip
  have hq := hp
  simp only [Pl.ok] at hq
  obtain ⟨hqb, n0, n1, n2, n3, n4, n5, n6⟩ := hq
  have g0 : ((bstr q).toList == [83]) = false := tab_ne hqb (by unfold Byt; decide) n0 [83] rfl
  have g1 : ((bstr q).toList == [80]) = false := tab_ne hqb (by unfold Byt; decide) n1 [80] rfl
  have g2 : ((bstr q).toList == [86]) = false := tab_ne hqb (by unfold Byt; decide) n2 [86] rfl
  have g3 : ((bstr q).toList == [69]) = false := tab_ne hqb (by unfold Byt; decide) n3 [69] rfl
  have g4 : ((bstr q).toList == [71]) = false := tab_ne hqb (by unfold Byt; decide) n4 [71] rfl
  have g5 : ((bstr q).toList == [78]) = false := tab_ne hqb (by unfold Byt; decide) n5 [78] rfl
  have g6 : ((bstr q).toList == [77]) = false := tab_ne hqb (by unfold Byt; decide) n6 [77] rfl
  have g9 : ((bstr x).toList == (bstr q).toList) = decide (x = q) := bstr_eq (unhide hb) hqb
  have G9 := hide g9
  clear n0 n1 n2 n3 n4 n5 n6 hp
  show Calls Tryd.prog 27 #[frmV fw F, .pointer (some ⟨b, 0, none⟩), .string (bstr q), .string (bstr x)] w _
  obtain ⟨W, hW⟩ : ∃ V, V = w.alloc (.cells #[.string fw, .int .i64 F.k, .int .i64 F.op, .int .i64 F.fl, .int .i64 F.mostN, .int .i64 F.mostM, .int .i64 F.m] 47) := ⟨_, rfl⟩
  have hbW : Below w.heap.size w W := by rw [hW]; exact (Below.refl _ _).alloc (Nat.le_refl _) _
  have zW : W.heap.size = w.heap.size + 1 := by rw [hW]; simp
  have HC := hide ((unhide hC).below hlt hbW)
  have HN := hide ((unhide hN).below hlt hbW)
  have HO := hide ((unhide hO).below hbW)
  go_enter Tryd.func27, Tryd.ntmps27
  go_wp2
  rw [← hW]
  clear hW
  refine bodyPost_ret (v := .bool (decide (x = q))) (by simp [results, Tryd.results27, go_sem]) rfl ⟨?_, hbW.mono (by omega), unhide HN, fun C' e => ?_⟩
  ·simp only [putI]
   by_cases h : x = q <;> simp [h]
  ·simp only [putI] at e
   split at e
   ·cases e
    exact ⟨a1, a2, a3, d1, d2, d3, unhide HC, unhide HO⟩
   ·cases e
 ·skip
  have gl : (bstr [83]).toList = [83] := by rw [bstr_list]; rfl
  have g0 : ((bstr [83]).toList == [83]) = true := by rw [gl]; rfl
  have g1 : ((bstr [83]).toList == [80]) = false := by rw [gl]; rfl
  have g2 : ((bstr [83]).toList == [86]) = false := by rw [gl]; rfl
  have g3 : ((bstr [83]).toList == [69]) = false := by rw [gl]; rfl
  have g4 : ((bstr [83]).toList == [71]) = false := by rw [gl]; rfl
  have g5 : ((bstr [83]).toList == [78]) = false := by rw [gl]; rfl
  have g6 : ((bstr [83]).toList == [77]) = false := by rw [gl]; rfl
  clear gl
  show Calls Tryd.prog 27 #[frmV fw F, .pointer (some ⟨b, 0, none⟩), .string (bstr [83]), .string (bstr x)] w _
  obtain ⟨W, hW⟩ : ∃ V, V = w.alloc (.cells #[.string fw, .int .i64 F.k, .int .i64 F.op, .int .i64 F.fl, .int .i64 F.mostN, .int .i64 F.mostM, .int .i64 F.m] 47) := ⟨_, rfl⟩
  have hbW : Below w.heap.size w W := by rw [hW]; exact (Below.refl _ _).alloc (Nat.le_refl _) _
  have zW : W.heap.size = w.heap.size + 1 := by rw [hW]; simp
  have HC := hide ((unhide hC).below hlt hbW)
  have HN := hide ((unhide hN).below hlt hbW)
  have HO := hide ((unhide hO).below hbW)
  have F1 := putNumber_any b 2 _ x hb hx W ((unhide HC).1 2 _ rfl) ((unhide HC).2 2) (by omega) (hide (unhide hE W (hbW.mono (by omega))))
  have HF := hide F1
  clear F1
  go_enter Tryd.func27, Tryd.ntmps27
  go_wp2_with fail
  rw [← hW]
  clear hW
  refine (unhide HF).mono ?_
  rintro r w1 ⟨rfl, v, W1, hv0, hb1, rfl, hv⟩
  have HV := hide hv
  have hC1 := (unhide HC).below (by omega) hb1
  have hN1 := (unhide HN).below (by omega) hb1
  have H1 := hide (And.intro hC1 (And.intro hN1 ((unhide HO).below hb1)))
  have b1 := Below.step hbW hb1
  have bb : Below b w W1 := b1.mono (by omega)
  clear hv hC1 hN1 HF
  go_wp2
  refine bodyPost_ret (v := .bool (numO x 4611686018427387904).isSome) (by simp [results, Tryd.results27, go_sem]) rfl ⟨?_, bb.setCell (Nat.le_refl _) _, (unhide H1).2.1.set ((unhide H1).1.1 2 _ rfl) (by simp), fun C' e => ?_⟩
  ·simp only [putI, Option.isSome_map]
  ·simp only [putI, Option.map_eq_some_iff] at e
   obtain ⟨y, hy, rfl⟩ := e
   have hvy := unhide HV y hy
   subst hvy
   exact ⟨a1, a2, a3, d1, d2, d3, (unhide H1).1.near 2 (by simp) (.int .u64 v), (unhide H1).2.2.put (unhide H1).2.1 2 _⟩
 ·skip
  have gl : (bstr [80]).toList = [80] := by rw [bstr_list]; rfl
  have g0 : ((bstr [80]).toList == [83]) = false := by rw [gl]; rfl
  have g1 : ((bstr [80]).toList == [80]) = true := by rw [gl]; rfl
  have g2 : ((bstr [80]).toList == [86]) = false := by rw [gl]; rfl
  have g3 : ((bstr [80]).toList == [69]) = false := by rw [gl]; rfl
  have g4 : ((bstr [80]).toList == [71]) = false := by rw [gl]; rfl
  have g5 : ((bstr [80]).toList == [78]) = false := by rw [gl]; rfl
  have g6 : ((bstr [80]).toList == [77]) = false := by rw [gl]; rfl
  clear gl
  show Calls Tryd.prog 27 #[frmV fw F, .pointer (some ⟨b, 0, none⟩), .string (bstr [80]), .string (bstr x)] w _
  obtain ⟨W, hW⟩ : ∃ V, V = w.alloc (.cells #[.string fw, .int .i64 F.k, .int .i64 F.op, .int .i64 F.fl, .int .i64 F.mostN, .int .i64 F.mostM, .int .i64 F.m] 47) := ⟨_, rfl⟩
  have hbW : Below w.heap.size w W := by rw [hW]; exact (Below.refl _ _).alloc (Nat.le_refl _) _
  have zW : W.heap.size = w.heap.size + 1 := by rw [hW]; simp
  have HC := hide ((unhide hC).below hlt hbW)
  have HN := hide ((unhide hN).below hlt hbW)
  have HO := hide ((unhide hO).below hbW)
  obtain ⟨c', W2, A, hrun, hnew⟩ := run_conv2 W x (unhide hb)
  have hN2 := (unhide HN).below (by omega) hnew.bel
  have hC2 := (unhide HC).below (by omega) hnew.bel
  have c2 := hC2.1 3 _ rfl
  have f2 := hC2.2
  have H2 := hide (And.intro hC2 hN2)
  have HNew := hide hnew
  have b2 := Below.step hbW hnew.bel
  have hrun2 : (convert 9 22 (.string (bstr x))).run Tryd.prog (w.alloc (.cells #[.string fw, .int .i64 F.k, .int .i64 F.op, .int .i64 F.fl, .int .i64 F.mostN, .int .i64 F.mostM, .int .i64 F.m] 47)) = .ok (.slice (some ⟨w.heap.size + 1, 0, none⟩) x.length c') W2 := by rw [← hW, ← zW]; exact hrun
  have bb : Below b w W2 := b2.mono (by omega)
  have ZW := hide zW
  clear hC2 hN2 hnew hrun hW zW
  go_enter Tryd.func27, Tryd.ntmps27
  go_wp2
  refine bodyPost_ret (v := .bool true) (by simp [results, Tryd.results27, go_sem]) rfl ⟨?_, bb.setCell (Nat.le_refl _) _, (unhide H2).2.set c2 (by simp), fun C' e => ?_⟩
  ·simp only [putI, Option.isSome_some]
  ·simp only [putI, Option.some.injEq] at e
   subst e
   exact ⟨_, _, _, d1, d2, d3, (unhide H2).1.near 3 (by simp) (.slice (some ⟨w.heap.size + 1, 0, none⟩) x.length c'), ((unhide HO).setP (by rw [← unhide ZW]; exact unhide HNew) (by rw [unhide ZW]; omega)).put (unhide H2).2 3 _⟩
 ·skip
  have gl : (bstr [86]).toList = [86] := by rw [bstr_list]; rfl
  have g0 : ((bstr [86]).toList == [83]) = false := by rw [gl]; rfl
  have g1 : ((bstr [86]).toList == [80]) = false := by rw [gl]; rfl
  have g2 : ((bstr [86]).toList == [86]) = true := by rw [gl]; rfl
  have g3 : ((bstr [86]).toList == [69]) = false := by rw [gl]; rfl
  have g4 : ((bstr [86]).toList == [71]) = false := by rw [gl]; rfl
  have g5 : ((bstr [86]).toList == [78]) = false := by rw [gl]; rfl
  have g6 : ((bstr [86]).toList == [77]) = false := by rw [gl]; rfl
  clear gl
  show Calls Tryd.prog 27 #[frmV fw F, .pointer (some ⟨b, 0, none⟩), .string (bstr [86]), .string (bstr x)] w _
  obtain ⟨W, hW⟩ : ∃ V, V = w.alloc (.cells #[.string fw, .int .i64 F.k, .int .i64 F.op, .int .i64 F.fl, .int .i64 F.mostN, .int .i64 F.mostM, .int .i64 F.m] 47) := ⟨_, rfl⟩
  have hbW : Below w.heap.size w W := by rw [hW]; exact (Below.refl _ _).alloc (Nat.le_refl _) _
  have zW : W.heap.size = w.heap.size + 1 := by rw [hW]; simp
  have HC := hide ((unhide hC).below hlt hbW)
  have HN := hide ((unhide hN).below hlt hbW)
  have HO := hide ((unhide hO).below hbW)
  obtain ⟨c', W2, A, hrun, hnew⟩ := run_conv2 W x (unhide hb)
  have hN2 := (unhide HN).below (by omega) hnew.bel
  have hC2 := (unhide HC).below (by omega) hnew.bel
  have c2 := hC2.1 5 _ rfl
  have f2 := hC2.2
  have H2 := hide (And.intro hC2 hN2)
  have HNew := hide hnew
  have b2 := Below.step hbW hnew.bel
  have hrun2 : (convert 9 22 (.string (bstr x))).run Tryd.prog (w.alloc (.cells #[.string fw, .int .i64 F.k, .int .i64 F.op, .int .i64 F.fl, .int .i64 F.mostN, .int .i64 F.mostM, .int .i64 F.m] 47)) = .ok (.slice (some ⟨w.heap.size + 1, 0, none⟩) x.length c') W2 := by rw [← hW, ← zW]; exact hrun
  have bb : Below b w W2 := b2.mono (by omega)
  have ZW := hide zW
  clear hC2 hN2 hnew hrun hW zW
  go_enter Tryd.func27, Tryd.ntmps27
  go_wp2
  refine bodyPost_ret (v := .bool true) (by simp [results, Tryd.results27, go_sem]) rfl ⟨?_, bb.setCell (Nat.le_refl _) _, (unhide H2).2.set c2 (by simp), fun C' e => ?_⟩
  ·simp only [putI, Option.isSome_some]
  ·simp only [putI, Option.some.injEq] at e
   subst e
   exact ⟨a1, a2, a3, _, _, _, (unhide H2).1.near 5 (by simp) (.slice (some ⟨w.heap.size + 1, 0, none⟩) x.length c'), ((unhide HO).setV (by rw [← unhide ZW]; exact unhide HNew) (by rw [unhide ZW]; omega)).put (unhide H2).2 5 _⟩
 ·skip
  have gl : (bstr [69]).toList = [69] := by rw [bstr_list]; rfl
  have g0 : ((bstr [69]).toList == [83]) = false := by rw [gl]; rfl
  have g1 : ((bstr [69]).toList == [80]) = false := by rw [gl]; rfl
  have g2 : ((bstr [69]).toList == [86]) = false := by rw [gl]; rfl
  have g3 : ((bstr [69]).toList == [69]) = true := by rw [gl]; rfl
  have g4 : ((bstr [69]).toList == [71]) = false := by rw [gl]; rfl
  have g5 : ((bstr [69]).toList == [78]) = false := by rw [gl]; rfl
  have g6 : ((bstr [69]).toList == [77]) = false := by rw [gl]; rfl
  clear gl
  show Calls Tryd.prog 27 #[frmV fw F, .pointer (some ⟨b, 0, none⟩), .string (bstr [69]), .string (bstr x)] w _
  obtain ⟨W, hW⟩ : ∃ V, V = w.alloc (.cells #[.string fw, .int .i64 F.k, .int .i64 F.op, .int .i64 F.fl, .int .i64 F.mostN, .int .i64 F.mostM, .int .i64 F.m] 47) := ⟨_, rfl⟩
  have hbW : Below w.heap.size w W := by rw [hW]; exact (Below.refl _ _).alloc (Nat.le_refl _) _
  have zW : W.heap.size = w.heap.size + 1 := by rw [hW]; simp
  have HC := hide ((unhide hC).below hlt hbW)
  have HN := hide ((unhide hN).below hlt hbW)
  have HO := hide ((unhide hO).below hbW)
  have F1 := putNumber_any b 6 _ x hb hx W ((unhide HC).1 6 _ rfl) ((unhide HC).2 6) (by omega) (hide (unhide hE W (hbW.mono (by omega))))
  have HF := hide F1
  clear F1
  go_enter Tryd.func27, Tryd.ntmps27
  go_wp2_with fail
  rw [← hW]
  clear hW
  refine (unhide HF).mono ?_
  rintro r w1 ⟨rfl, v, W1, hv0, hb1, rfl, hv⟩
  have HV := hide hv
  have hC1 := (unhide HC).below (by omega) hb1
  have hN1 := (unhide HN).below (by omega) hb1
  have H1 := hide (And.intro hC1 (And.intro hN1 ((unhide HO).below hb1)))
  have b1 := Below.step hbW hb1
  have bb : Below b w W1 := b1.mono (by omega)
  clear hv hC1 hN1 HF
  go_wp2
  refine bodyPost_ret (v := .bool (numO x 4611686018427387904).isSome) (by simp [results, Tryd.results27, go_sem]) rfl ⟨?_, bb.setCell (Nat.le_refl _) _, (unhide H1).2.1.set ((unhide H1).1.1 6 _ rfl) (by simp), fun C' e => ?_⟩
  ·simp only [putI, Option.isSome_map]
  ·simp only [putI, Option.map_eq_some_iff] at e
   obtain ⟨y, hy, rfl⟩ := e
   have hvy := unhide HV y hy
   subst hvy
   exact ⟨a1, a2, a3, d1, d2, d3, (unhide H1).1.near 6 (by simp) (.int .u64 v), (unhide H1).2.2.put (unhide H1).2.1 6 _⟩
 ·skip
  have gl : (bstr [71]).toList = [71] := by rw [bstr_list]; rfl
  have g0 : ((bstr [71]).toList == [83]) = false := by rw [gl]; rfl
  have g1 : ((bstr [71]).toList == [80]) = false := by rw [gl]; rfl
  have g2 : ((bstr [71]).toList == [86]) = false := by rw [gl]; rfl
  have g3 : ((bstr [71]).toList == [69]) = false := by rw [gl]; rfl
  have g4 : ((bstr [71]).toList == [71]) = true := by rw [gl]; rfl
  have g5 : ((bstr [71]).toList == [78]) = false := by rw [gl]; rfl
  have g6 : ((bstr [71]).toList == [77]) = false := by rw [gl]; rfl
  clear gl
  show Calls Tryd.prog 27 #[frmV fw F, .pointer (some ⟨b, 0, none⟩), .string (bstr [71]), .string (bstr x)] w _
  obtain ⟨W, hW⟩ : ∃ V, V = w.alloc (.cells #[.string fw, .int .i64 F.k, .int .i64 F.op, .int .i64 F.fl, .int .i64 F.mostN, .int .i64 F.mostM, .int .i64 F.m] 47) := ⟨_, rfl⟩
  have hbW : Below w.heap.size w W := by rw [hW]; exact (Below.refl _ _).alloc (Nat.le_refl _) _
  have zW : W.heap.size = w.heap.size + 1 := by rw [hW]; simp
  have HC := hide ((unhide hC).below hlt hbW)
  have HN := hide ((unhide hN).below hlt hbW)
  have HO := hide ((unhide hO).below hbW)
  have F1 := putNumber_any b 7 _ x hb hx W ((unhide HC).1 7 _ rfl) ((unhide HC).2 7) (by omega) (hide (unhide hE W (hbW.mono (by omega))))
  have HF := hide F1
  clear F1
  go_enter Tryd.func27, Tryd.ntmps27
  go_wp2_with fail
  rw [← hW]
  clear hW
  refine (unhide HF).mono ?_
  rintro r w1 ⟨rfl, v, W1, hv0, hb1, rfl, hv⟩
  have HV := hide hv
  have hC1 := (unhide HC).below (by omega) hb1
  have hN1 := (unhide HN).below (by omega) hb1
  have H1 := hide (And.intro hC1 (And.intro hN1 ((unhide HO).below hb1)))
  have b1 := Below.step hbW hb1
  have bb : Below b w W1 := b1.mono (by omega)
  clear hv hC1 hN1 HF
  go_wp2
  refine bodyPost_ret (v := .bool (numO x 4611686018427387904).isSome) (by simp [results, Tryd.results27, go_sem]) rfl ⟨?_, bb.setCell (Nat.le_refl _) _, (unhide H1).2.1.set ((unhide H1).1.1 7 _ rfl) (by simp), fun C' e => ?_⟩
  ·simp only [putI, Option.isSome_map]
  ·simp only [putI, Option.map_eq_some_iff] at e
   obtain ⟨y, hy, rfl⟩ := e
   have hvy := unhide HV y hy
   subst hvy
   exact ⟨a1, a2, a3, d1, d2, d3, (unhide H1).1.near 7 (by simp) (.int .u64 v), (unhide H1).2.2.put (unhide H1).2.1 7 _⟩
 ·skip
  have gl : (bstr [78]).toList = [78] := by rw [bstr_list]; rfl
  have g0 : ((bstr [78]).toList == [83]) = false := by rw [gl]; rfl
  have g1 : ((bstr [78]).toList == [80]) = false := by rw [gl]; rfl
  have g2 : ((bstr [78]).toList == [86]) = false := by rw [gl]; rfl
  have g3 : ((bstr [78]).toList == [69]) = false := by rw [gl]; rfl
  have g4 : ((bstr [78]).toList == [71]) = false := by rw [gl]; rfl
  have g5 : ((bstr [78]).toList == [78]) = true := by rw [gl]; rfl
  have g6 : ((bstr [78]).toList == [77]) = false := by rw [gl]; rfl
  clear gl
  show Calls Tryd.prog 27 #[frmV fw F, .pointer (some ⟨b, 0, none⟩), .string (bstr [78]), .string (bstr x)] w _
  obtain ⟨W, hW⟩ : ∃ V, V = w.alloc (.cells #[.string fw, .int .i64 F.k, .int .i64 F.op, .int .i64 F.fl, .int .i64 F.mostN, .int .i64 F.mostM, .int .i64 F.m] 47) := ⟨_, rfl⟩
  have hbW : Below w.heap.size w W := by rw [hW]; exact (Below.refl _ _).alloc (Nat.le_refl _) _
  have zW : W.heap.size = w.heap.size + 1 := by rw [hW]; simp
  have HC := hide ((unhide hC).below hlt hbW)
  have HN := hide ((unhide hN).below hlt hbW)
  have HO := hide ((unhide hO).below hbW)
  have hcf : ∀ (vs : Array Value) (w : World), (callFunc 31 vs).run Tryd.prog w = .ok (.enter 31 vs) w := fun vs w => by kernel_rfl
  have HCF := hide hcf
  have HFB := hide (by rw [hW]; exact CellsAre.alloc w _ _ : CellsAre W w.heap.size [.string fw, .int .i64 F.k, .int .i64 F.op, .int .i64 F.fl, .int .i64 F.mostN, .int .i64 F.mostM, .int .i64 F.m])
  obtain ⟨vA, hvA⟩ : ∃ V, V = W.drew := ⟨_, rfl⟩
  have hbA : Below W.heap.size W vA := by rw [hvA]; exact (Below.refl _ _).drew
  have zA := hbA.size
  have GA := hide (And.intro ((unhide HC).below (by omega) hbA) (And.intro ((unhide HN).below (by omega) hbA) (And.intro ((unhide HO).below hbA) ((unhide HFB).below (by omega) hbA))))
  have bA := Below.step hbW hbA
  have F1 := putSmall_any b 8 _ x F.mostN hF.1 hb hx vA ((unhide GA).1.1 8 _ rfl) ((unhide GA).1.2 8) (by omega) (hide fun w' hw' => unhide hE w' ((Below.step bA hw').mono (by omega)))
  have HF := hide F1
  clear F1 hcf
  go_enter Tryd.func27, Tryd.ntmps27
  go_wp2_with fail
  refine wp_region_noPanic ?_
  refine wp_region_held_drew (S := fun w' => w'.cell? ⟨w.heap.size, 4, none⟩ = some (.int .i64 F.mostN)) (by kernel_rfl) (by rw [← hW, ← hvA]; exact (unhide GA).2.2.2.1 4 _ rfl) (fun hS => ?_)
  rw [← hW, ← hvA] at hS ⊢
  clear hW hvA hbA
  refine tk 0 hS (h := ?_)
  simp only [Act.put, xa, xb, xc]
  refine tk 1 hS (h := ?_)
  simp only [Act.put, xa, xb, xc]
  refine tk 2 hS (h := ?_)
  simp only [Act.put, xa, xb, xc]
  refine tk 3 hS (h := ?_)
  simp only [Act.put, xa, xb, xc]
  refine tk 4 hS (h := ?_)
  simp only [Act.put, xa, xb, xc]
  refine tk 5 hS (h := ?_)
  simp only [Act.put, xa, xb, xc]
  refine ry [6] ?_
  refine cn (fun KK hK => ?_) ?_
  ·refine step_call (by rfl) 31 _ _ _ _ (by rfl) (.pointer (some ⟨b, 8, none⟩)) (.string (bstr x)) (.int .i64 F.mostN) (by rfl) (by rfl) (by rfl) (fun _ => unhide HCF _ _) (unhide HF) ?_
   rintro r w1 ⟨rfl, W1, hb1, hw1⟩
   refine ⟨_, rfl, ?_⟩
   have H1 := hide (And.intro ((unhide GA).1.below (by omega) hb1) (And.intro ((unhide GA).2.1.below (by omega) hb1) (And.intro ((unhide GA).2.2.1.below hb1) ((unhide GA).2.2.2.below (by omega) hb1))))
   have b1 := Below.step bA hb1
   have bb : Below b w W1 := b1.mono (by omega)
   have HW := hide hw1
   have hs1 : w1.cell? ⟨w.heap.size, 4, none⟩ = some (.int .i64 F.mostN) := by
    rcases hw1 with ⟨-, rfl⟩ | ⟨y, -, rfl⟩
    ·exact (unhide H1).2.2.2.1 4 _ rfl
    ·exact ((unhide H1).2.2.2.far (by show w.heap.size ≠ b; omega) _).1 4 _ rfl
   refine hK.out _ _ (by exact hs1) (fun hS => ?_)
   clear hK KK hw1 hs1
   (try simp only [Act.put, xa, xb, xc])
   refine tk 7 hS (h := ?_)
   simp only [Act.put, xa, xb, xc]
   refine wpAnyH_done (by kernel_rfl) ?_ _
   refine NoPanic.normal ?_
   clear hS
   go_wp2
   refine bodyPost_ret (v := .bool (smallO x F.mostN).isSome) (by simp [results, Tryd.results27, go_sem]) rfl ?_
   rcases unhide HW with ⟨hn, rfl⟩ | ⟨y, hy, rfl⟩
   ·refine ⟨by simp only [putI, Option.isSome_map], bb, (unhide H1).2.1, fun C' e => ?_⟩
    simp only [putI, hn, Option.map_none] at e
    cases e
   ·refine ⟨by simp only [putI, Option.isSome_map], bb.setCell (Nat.le_refl _) _, (unhide H1).2.1.set ((unhide H1).1.1 8 _ rfl) (by simp), fun C' e => ?_⟩
    simp only [putI, hy, Option.map_some, Option.some.injEq] at e
    subst e
    exact ⟨a1, a2, a3, d1, d2, d3, (unhide H1).1.near 8 (by simp) (.int .i64 y), (unhide H1).2.2.1.put (unhide H1).2.1 8 _⟩
  exact AllReadyH.nil
 ·skip
  have gl : (bstr [77]).toList = [77] := by rw [bstr_list]; rfl
  have g0 : ((bstr [77]).toList == [83]) = false := by rw [gl]; rfl
  have g1 : ((bstr [77]).toList == [80]) = false := by rw [gl]; rfl
  have g2 : ((bstr [77]).toList == [86]) = false := by rw [gl]; rfl
  have g3 : ((bstr [77]).toList == [69]) = false := by rw [gl]; rfl
  have g4 : ((bstr [77]).toList == [71]) = false := by rw [gl]; rfl
  have g5 : ((bstr [77]).toList == [78]) = false := by rw [gl]; rfl
  have g6 : ((bstr [77]).toList == [77]) = true := by rw [gl]; rfl
  clear gl
  show Calls Tryd.prog 27 #[frmV fw F, .pointer (some ⟨b, 0, none⟩), .string (bstr [77]), .string (bstr x)] w _
  obtain ⟨W, hW⟩ : ∃ V, V = w.alloc (.cells #[.string fw, .int .i64 F.k, .int .i64 F.op, .int .i64 F.fl, .int .i64 F.mostN, .int .i64 F.mostM, .int .i64 F.m] 47) := ⟨_, rfl⟩
  have hbW : Below w.heap.size w W := by rw [hW]; exact (Below.refl _ _).alloc (Nat.le_refl _) _
  have zW : W.heap.size = w.heap.size + 1 := by rw [hW]; simp
  have HC := hide ((unhide hC).below hlt hbW)
  have HN := hide ((unhide hN).below hlt hbW)
  have HO := hide ((unhide hO).below hbW)
  have hcf : ∀ (vs : Array Value) (w : World), (callFunc 31 vs).run Tryd.prog w = .ok (.enter 31 vs) w := fun vs w => by kernel_rfl
  have HCF := hide hcf
  have HFB := hide (by rw [hW]; exact CellsAre.alloc w _ _ : CellsAre W w.heap.size [.string fw, .int .i64 F.k, .int .i64 F.op, .int .i64 F.fl, .int .i64 F.mostN, .int .i64 F.mostM, .int .i64 F.m])
  obtain ⟨vA, hvA⟩ : ∃ V, V = W.drew := ⟨_, rfl⟩
  have hbA : Below W.heap.size W vA := by rw [hvA]; exact (Below.refl _ _).drew
  have zA := hbA.size
  have GA := hide (And.intro ((unhide HC).below (by omega) hbA) (And.intro ((unhide HN).below (by omega) hbA) (And.intro ((unhide HO).below hbA) ((unhide HFB).below (by omega) hbA))))
  have bA := Below.step hbW hbA
  have F1 := putSmall_any b 9 _ x F.mostM hF.2 hb hx vA ((unhide GA).1.1 9 _ rfl) ((unhide GA).1.2 9) (by omega) (hide fun w' hw' => unhide hE w' ((Below.step bA hw').mono (by omega)))
  have HF := hide F1
  clear F1 hcf
  go_enter Tryd.func27, Tryd.ntmps27
  go_wp2_with fail
  refine wp_region_noPanic ?_
  refine wp_region_held_drew (S := fun w' => w'.cell? ⟨w.heap.size, 5, none⟩ = some (.int .i64 F.mostM)) (by kernel_rfl) (by rw [← hW, ← hvA]; exact (unhide GA).2.2.2.1 5 _ rfl) (fun hS => ?_)
  rw [← hW, ← hvA] at hS ⊢
  clear hW hvA hbA
  refine tk 0 hS (h := ?_)
  simp only [Act.put, xa, xb, xc]
  refine tk 1 hS (h := ?_)
  simp only [Act.put, xa, xb, xc]
  refine tk 2 hS (h := ?_)
  simp only [Act.put, xa, xb, xc]
  refine tk 3 hS (h := ?_)
  simp only [Act.put, xa, xb, xc]
  refine tk 4 hS (h := ?_)
  simp only [Act.put, xa, xb, xc]
  refine tk 5 hS (h := ?_)
  simp only [Act.put, xa, xb, xc]
  refine ry [6] ?_
  refine cn (fun KK hK => ?_) ?_
  ·refine step_call (by rfl) 31 _ _ _ _ (by rfl) (.pointer (some ⟨b, 9, none⟩)) (.string (bstr x)) (.int .i64 F.mostM) (by rfl) (by rfl) (by rfl) (fun _ => unhide HCF _ _) (unhide HF) ?_
   rintro r w1 ⟨rfl, W1, hb1, hw1⟩
   refine ⟨_, rfl, ?_⟩
   have H1 := hide (And.intro ((unhide GA).1.below (by omega) hb1) (And.intro ((unhide GA).2.1.below (by omega) hb1) (And.intro ((unhide GA).2.2.1.below hb1) ((unhide GA).2.2.2.below (by omega) hb1))))
   have b1 := Below.step bA hb1
   have bb : Below b w W1 := b1.mono (by omega)
   have HW := hide hw1
   have hs1 : w1.cell? ⟨w.heap.size, 5, none⟩ = some (.int .i64 F.mostM) := by
    rcases hw1 with ⟨-, rfl⟩ | ⟨y, -, rfl⟩
    ·exact (unhide H1).2.2.2.1 5 _ rfl
    ·exact ((unhide H1).2.2.2.far (by show w.heap.size ≠ b; omega) _).1 5 _ rfl
   refine hK.out _ _ (by exact hs1) (fun hS => ?_)
   clear hK KK hw1 hs1
   (try simp only [Act.put, xa, xb, xc])
   refine tk 7 hS (h := ?_)
   simp only [Act.put, xa, xb, xc]
   refine wpAnyH_done (by kernel_rfl) ?_ _
   refine NoPanic.normal ?_
   clear hS
   go_wp2
   refine bodyPost_ret (v := .bool (smallO x F.mostM).isSome) (by simp [results, Tryd.results27, go_sem]) rfl ?_
   rcases unhide HW with ⟨hn, rfl⟩ | ⟨y, hy, rfl⟩
   ·refine ⟨by simp only [putI, Option.isSome_map], bb, (unhide H1).2.1, fun C' e => ?_⟩
    simp only [putI, hn, Option.map_none] at e
    cases e
   ·refine ⟨by simp only [putI, Option.isSome_map], bb.setCell (Nat.le_refl _) _, (unhide H1).2.1.set ((unhide H1).1.1 9 _ rfl) (by simp), fun C' e => ?_⟩
    simp only [putI, hy, Option.map_some, Option.some.injEq] at e
    subst e
    exact ⟨a1, a2, a3, d1, d2, d3, (unhide H1).1.near 9 (by simp) (.int .i64 y), (unhide H1).2.2.1.put (unhide H1).2.1 9 _⟩
  exact AllReadyH.nil
end Go.Proofs.YtlkhghcffhckmaaDoor
