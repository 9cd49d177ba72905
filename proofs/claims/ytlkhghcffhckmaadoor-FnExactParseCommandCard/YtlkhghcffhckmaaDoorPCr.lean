import Derived.Test.YtlkhghcffhckmaaDoorPCp
namespace Go.Proofs.YtlkhghcffhckmaaDoor
open Go.ChangeShapes Go.WideShapes Go.ChangeAt Go.RowKit
set_option linter.unusedVariables false
set_option linter.unusedSimpArgs false
set_option maxRecDepth 100000

/-- the variables that the program reads -/
def Vars (w : World) : Prop := ErrVars w ∧ Lib.TabIs Tryd.prog w "strings.asciiSpace" .u8 Lib.asciiSpaceTab
/-- a form's words, as 'Fields' parts them -/
structure FOk (s : ByteArray) (F : Frm) : Prop where
 small : s.size ≤ 100
 ascii : ∀ (j : Nat) b, s.data.toList[j]? = some b → b.toNat < 128
 flds : Lib.fields s.data.toList = F.pl.map fun p => u8s p.word
 ok : ∀ p ∈ F.pl, p.ok
 len : F.pl.length ≤ 10
 most : (0 ≤ F.mostN ∧ F.mostN ≤ 1000000) ∧ 0 ≤ F.mostM ∧ F.mostM ≤ 1000000
theorem put10_own {w : World} {b B : Nat} {P V : Value} {pa va : List Int} (hO : OwnP B w P V pa va) {o0 o1 o2 o3 o4 o5 o6 o7 o8 o9 : Value} (h : CellsAre w b [o0, o1, o2, o3, o4, o5, o6, o7, o8, o9]) (hn : NoB w b) {v0 v1 v2 v3 v4 v5 v6 v7 v8 v9 : Value} (hv : ∀ u ∈ [v0, v1, v2, v3, v4, v5, v6, v7, v8, v9], ∀ x, u ≠ .int .u8 x) :
  OwnP B (put10 w b v0 v1 v2 v3 v4 v5 v6 v7 v8 v9) P V pa va := by
 have c0 := h.near 0 (by simp) v0
 have c1 := c0.near 1 (by simp) v1
 have c2 := c1.near 2 (by simp) v2
 have c3 := c2.near 3 (by simp) v3
 have c4 := c3.near 4 (by simp) v4
 have c5 := c4.near 5 (by simp) v5
 have c6 := c5.near 6 (by simp) v6
 have c7 := c6.near 7 (by simp) v7
 have c8 := c7.near 8 (by simp) v8
 have c9 := c8.near 9 (by simp) v9
 have n0 := hn.set (h.1 0 _ rfl) (hv v0 (by simp))
 have n1 := n0.set (c0.1 1 _ rfl) (hv v1 (by simp))
 have n2 := n1.set (c1.1 2 _ rfl) (hv v2 (by simp))
 have n3 := n2.set (c2.1 3 _ rfl) (hv v3 (by simp))
 have n4 := n3.set (c3.1 4 _ rfl) (hv v4 (by simp))
 have n5 := n4.set (c4.1 5 _ rfl) (hv v5 (by simp))
 have n6 := n5.set (c5.1 6 _ rfl) (hv v6 (by simp))
 have n7 := n6.set (c6.1 7 _ rfl) (hv v7 (by simp))
 have n8 := n7.set (c7.1 8 _ rfl) (hv v8 (by simp))
 have n9 := n8.set (c8.1 9 _ rfl) (hv v9 (by simp))
 exact (((((((((hO.put hn 0 _).put n0 1 _).put n1 2 _).put n2 3 _).put n3 4 _).put n4 5 _).put n5 6 _).put n6 7 _).put n7 8 _).put n8 9 _
theorem step_call4 {P : Program} {w : World} {ops : Array Oper} {o : Oper} {a : Act} {K : Act → World → Prop} {Q : Exit → Act → World → Prop} {E : Prop} {R : Ending → World → Prop} (hgd : o.guard = none) (f : FuncId) (x1 x2 x3 x4 : Operand) (tys : Array TypeId)
  (ho : o.op = .call { callee := .value (.func f), args := #[x1, x2, x3, x4], argTypes := tys }) (v1 v2 v3 v4 : Value) (h1 : a.eval x1 = v1) (h2 : a.eval x2 = v2) (h3 : a.eval x3 = v3) (h4 : a.eval x4 = v4) (hcf : ∀ vs, (callFunc f vs).run P w = .ok (.enter f vs) w) (hc : Calls P f #[v1, v2, v3, v4] w R) (hR : ∀ e w', R e w' → ∃ v, e = .returned v ∧ K (a.put o.dst v) w') :
  if Region.wanted o (yielded ops a.tmps) = true then Oper.wp P o a w K Q else E := by
 have hw : Region.wanted o (yielded ops a.tmps) = true := by simp [Region.wanted, hgd]
 rw [if_pos hw]
 have hrun : (execOp a.eval o).run P w = .ok (.enter f #[v1, v2, v3, v4]) w := by
  subst h1 h2 h3 h4
  unfold execOp
  simp [go_sem, ho, resolve, invoke, hcf]
 show o.upon P a K Q _
 rw [hrun, Oper.upon_enter]
 refine hc.mono ?_
 intro e w' h
 obtain ⟨v, rfl, hk⟩ := hR e w' h
 exact hk
abbrev At7f (w : World) (b : Nat) (v0 v1 v2 v3 v4 v5 v6 : Value) : Prop := w.cell? ⟨b, 0, none⟩ = some v0 ∧ w.cell? ⟨b, 1, none⟩ = some v1 ∧ w.cell? ⟨b, 2, none⟩ = some v2 ∧ w.cell? ⟨b, 3, none⟩ = some v3 ∧ w.cell? ⟨b, 4, none⟩ = some v4 ∧ w.cell? ⟨b, 5, none⟩ = some v5 ∧ w.cell? ⟨b, 6, none⟩ = some v6
theorem CellsAre.at7f {w : World} {b : Nat} {v0 v1 v2 v3 v4 v5 v6 : Value} (h : CellsAre w b [v0, v1, v2, v3, v4, v5, v6]) : At7f w b v0 v1 v2 v3 v4 v5 v6 := ⟨h.1 0 _ rfl, h.1 1 _ rfl, h.1 2 _ rfl, h.1 3 _ rfl, h.1 4 _ rfl, h.1 5 _ rfl, h.1 6 _ rfl⟩
theorem puts_step (F : Frm) (C : Cmd) (ps : List Pl) (ws : List (List Int)) (j : Nat) (q : Pl) (y : List Int) (hq : ps[j]? = some q) (hy : ws[j]? = some y) : putsI F C (ps.drop j) (ws.drop j) = (putI F C q y).bind fun c' => putsI F c' (ps.drop (j + 1)) (ws.drop (j + 1)) := by
 obtain ⟨h1, e1⟩ := List.getElem?_eq_some_iff.1 hq
 obtain ⟨h2, e2⟩ := List.getElem?_eq_some_iff.1 hy
 rw [List.drop_eq_getElem_cons h1, List.drop_eq_getElem_cons h2, e1, e2]
 rfl
set_option maxHeartbeats 6400000 in
theorem read_any (s : ByteArray) (F : Frm) (hF : FOk s F) (p : Option Addr) (N c : Nat) (ws : List (List Int)) (eN : Hid (ws.length = N)) (hby : Hid (∀ x ∈ ws, Byt x ∧ x.length ≤ 1048576)) (hNs : N ≤ 1048576) (w : World) (hW : Hid (StrW w p ws)) (hV : Hid (∀ w', Below w.heap.size w w' → Vars w')) :
  Calls Tryd.prog 17 #[frmV s F, .slice p N c] w fun e w' => (∃ C1 x1 x2 x3 y1 y2 y3, e = .returned (.tuple #[cmV C1.k C1.op C1.se (.slice x1 x2 x3) C1.fl (.slice y1 y2 y3) C1.ep C1.ge C1.n C1.m, .bool (readI ws F).isSome]) ∧ ∀ C, readI ws F = some C → C1 = C ∧ OwnP w.heap.size w' (.slice x1 x2 x3) (.slice y1 y2 y3) C.pa C.va) ∧ Below w.heap.size w w' := by
 obtain ⟨W0, hW0⟩ : ∃ V, V = w.alloc (.cells #[.string s, .int .i64 F.k, .int .i64 F.op, .int .i64 F.fl, .int .i64 F.mostN, .int .i64 F.mostM, .int .i64 F.m] 47) := ⟨_, rfl⟩
 have b0 : Below w.heap.size w W0 := by rw [hW0]; exact (Below.refl _ _).alloc (Nat.le_refl _) _
 have z0 : W0.heap.size = w.heap.size + 1 := by rw [hW0]; simp
 have C0 := hide (by rw [hW0]; exact CellsAre.alloc w _ _ : CellsAre W0 w.heap.size [.string s, .int .i64 F.k, .int .i64 F.op, .int .i64 F.fl, .int .i64 F.mostN, .int .i64 F.mostM, .int .i64 F.m])
 obtain ⟨W1, hW1⟩ : ∃ V, V = W0.alloc (.cells #[.int .i64 0, .int .i64 0, .int .u64 0, .slice none 0 0, .int .i64 0, .slice none 0 0, .int .u64 0, .int .u64 0, .int .i64 0, .int .i64 0] 27) := ⟨_, rfl⟩
 have bW1 : Below W0.heap.size W0 W1 := by rw [hW1]; exact (Below.refl _ _).alloc (Nat.le_refl _) _
 have z1 : W1.heap.size = w.heap.size + 2 := by rw [hW1]; simp; omega
 have R0 := hide (by rw [hW1, ← z0]; exact CellsAre.alloc W0 _ _ : CellsAre W1 (w.heap.size + 1) [.int .i64 0, .int .i64 0, .int .u64 0, .slice none 0 0, .int .i64 0, .slice none 0 0, .int .u64 0, .int .u64 0, .int .i64 0, .int .i64 0])
 have RN0 := hide (by rw [hW1, ← z0]; exact NoB.alloc W0 _ _ (by simp) : NoB W1 (w.heap.size + 1))
 have b1 := Below.step b0 bW1
 obtain ⟨L, eL⟩ : ∃ L, F.pl.length = L := ⟨_, rfl⟩
 have hL10 : L ≤ 10 := by rw [← eL]; exact hF.len
 have FF := Tryd.strings_Fields s W1 (by have := hF.small; omega) hF.ascii (unhide hV W1 b1).2
 rw [hF.flds, List.length_map, eL] at FF
 have EL := hide eL
 obtain ⟨W2, hW2⟩ : ∃ V, V = W1.alloc (.cells ((F.pl.map fun p => u8s p.word).map fun l => Value.string ⟨l.toArray⟩).toArray 9) := ⟨_, rfl⟩
 have bW2 : Below W1.heap.size W1 W2 := by rw [hW2]; exact (Below.refl _ _).alloc (Nat.le_refl _) _
 have z2 : W2.heap.size = w.heap.size + 3 := by rw [hW2]; simp; omega
 have P0 : Hid (∀ (i : Nat) (q : Pl), F.pl[i]? = some q → W2.cell? ⟨w.heap.size + 2, i, none⟩ = some (.string (bstr q.word))) := fun i q hq => by
  rw [hW2, ← z1]
  refine (CellsAre.alloc W1 _ 9).1 i _ ?_
  simp only [List.map_map, List.getElem?_map, hq, Option.map_some, Function.comp]
  congr 2
  apply ByteArray.ext
  rw [bstr_is]
  rfl
 rw [← hW2, z1] at FF
 have HFF := hide FF
 clear FF hW2 eL
 go_enter Tryd.func17, Tryd.ntmps17
 go_wp2_with fail
 rw [← hW0, ← hW1]
 clear hW0 hW1
 refine (unhide HFF).mono ?_
 rintro r w2 ⟨rfl, rfl⟩
 have C2 := hide (((unhide C0).below (by omega) bW1).below (by omega) bW2)
 have R2 := hide ((unhide R0).below (by omega) bW2)
 have RN2 := hide ((unhide RN0).below (by omega) bW2)
 have b2 := Below.step b1 bW2
 have HW2 := hide ((unhide hW).below b2)
 clear b0 bW1 b1 bW2 HFF
 by_cases hNL : N = L
 ·subst hNL
  obtain ⟨C2a, cf⟩ := unhide C2
  have c1 := C2a 1 _ rfl
  have c2 := C2a 2 _ rfl
  have c3 := C2a 3 _ rfl
  have c6 := C2a 6 _ rfl
  clear C2a
  go_wp2
  clear c1 c2 c3 c6 cf
  go_loopw [31] (fun iv wr => ∃ (i : Nat) (C : Cmd) (a1 : Option Addr) (a2 a3 : Nat) (d1 : Option Addr) (d2 d3 : Nat), i ≤ N ∧ w.heap.size + 3 < wr.heap.size ∧ iv = .int .i64 i ∧ Hid (putsI F C (F.pl.drop i) (ws.drop i) = readI ws F) ∧ Hid (CellsAre wr (w.heap.size + 3) (cmL C (.slice a1 a2 a3) (.slice d1 d2 d3))) ∧ Hid (NoB wr (w.heap.size + 3)) ∧ Hid (OwnP w.heap.size wr (.slice a1 a2 a3) (.slice d1 d2 d3) C.pa C.va) ∧ Hid (Below (w.heap.size + 3) w2 wr)) (fun iv _ => N - (intOf iv).toNat)
  case atStart => exact ⟨0, ⟨F.k, F.op, 0, [], F.fl, [], 0, 0, 0, F.m⟩, none, 0, 0, none, 0, 0, by omega, by simp; omega, rfl, (by show _ = _; unfold readI; rw [if_pos (by rw [unhide eN, unhide EL])]; rfl), (by show CellsAre _ _ _; rw [← z2]; exact CellsAre.alloc w2 _ _), (by show NoB _ _; rw [← z2]; exact NoB.alloc w2 _ _ (by simp)), OwnP.nil _ _, (by show Below _ _ _; rw [← z2]; exact (Below.refl _ w2).alloc (Nat.le_refl _) _)⟩
  case round =>
   obtain ⟨i, C, a1, a2, a3, d1, d2, d3, hi, zb, rfl, hR, hC, hNo, hO, hBl⟩ := hrel
   have wi : IntKind.i64.wrap ((i : Int) + 1) = ((i + 1 : Nat) : Int) := by rw [IntWalk.i64_in _ (by omega)]; omega
   have hbl2 : Below w2.heap.size w2 wr := by rw [z2]; exact unhide hBl
   have HCF2 := hide ((unhide C2).below (by omega) hbl2)
   have HR3 := hide ((unhide R2).below (by omega) hbl2)
   have HRN3 := hide ((unhide RN2).below (by omega) hbl2)
   have B3 := hide (Below.step b2 hbl2)
   by_cases hiN : i < N
   ·have hiN' : (i : Int) < (N : Int) := by omega
    obtain ⟨q, hq⟩ : ∃ q, F.pl[i]? = some q := ⟨_, List.getElem?_eq_getElem (by rw [unhide EL]; exact hiN)⟩
    obtain ⟨x, hx⟩ : ∃ x, ws[i]? = some x := ⟨_, List.getElem?_eq_getElem (by rw [unhide eN]; exact hiN)⟩
    have pc := cell_below (unhide P0 i q hq) hbl2
    obtain ⟨bw, ow, rfl, hcx⟩ := (unhide HW2).below hbl2 i x hx
    have hst := puts_step F C _ _ _ _ _ hq hx
    have HST := hide hst
    have hxb := unhide hby x (List.mem_of_getElem? hx)
    have hqo := hF.ok q (List.mem_of_getElem? hq)
    have hcf : ∀ (vs : Array Value) (w : World), (callFunc 27 vs).run Tryd.prog w = .ok (.enter 27 vs) w := fun vs w => by kernel_rfl
    have HCF := hide hcf
    obtain ⟨vA, hvA⟩ : ∃ V, V = wr.drew := ⟨_, rfl⟩
    have hbA : Below wr.heap.size wr vA := by rw [hvA]; exact (Below.refl _ _).drew
    have zA := hbA.size
    have G : Hid (∀ v, Below (w.heap.size + 3) vA v → CellsAre v w.heap.size [.string s, .int .i64 F.k, .int .i64 F.op, .int .i64 F.fl, .int .i64 F.mostN, .int .i64 F.mostM, .int .i64 F.m] ∧ CellsAre v (w.heap.size + 1) [.int .i64 0, .int .i64 0, .int .u64 0, .slice none 0 0, .int .i64 0, .slice none 0 0, .int .u64 0, .int .u64 0, .int .i64 0, .int .i64 0] ∧ NoB v (w.heap.size + 1) ∧ Below w.heap.size w v ∧ Below (w.heap.size + 3) w2 v ∧ v.cell? ⟨bw, ow + i, none⟩ = some (.string (bstr x))) := fun v hv => by
     have h2 : Below (w.heap.size + 3) w2 v := ((unhide hBl).trans (hbA.mono (by omega))).trans hv
     have h2' : Below w2.heap.size w2 v := by rw [z2]; exact h2
     refine ⟨(unhide C2).below (by omega) h2', (unhide R2).below (by omega) h2', (unhide RN2).below (by omega) h2', Below.step b2 h2', h2, ?_⟩
     obtain ⟨b', o', e', hc'⟩ := (unhide HW2).below h2' i x hx
     simp only [Option.some.injEq, Addr.mk.injEq, and_true] at e'
     obtain ⟨rfl, rfl⟩ := e'
     exact hc'
    have FP := put_any F s q hqo hF.most C (w.heap.size + 3) w.heap.size a1 a2 a3 d1 d2 d3 x (hide hxb.1) hxb.2 vA (hide ((unhide hC).below (by omega) hbA)) (hide ((unhide hNo).below (by omega) hbA)) (hide ((unhide hO).below hbA)) (by omega) (by have := (unhide B3).size; omega) (hide fun w' hw' => (unhide hV w' (unhide G w' hw').2.2.2.1).1)
    have HFP := hide FP
    clear FP hst hxb hqo hcf hq hx hbl2
    go_wp2_with fail
    refine wp_region_noPanic ?_
    refine wp_region_held_drew (S := fun w' => At7f w' w.heap.size (.string s) (.int .i64 F.k) (.int .i64 F.op) (.int .i64 F.fl) (.int .i64 F.mostN) (.int .i64 F.mostM) (.int .i64 F.m) ∧ w'.cell? ⟨bw, ow + i, none⟩ = some (.string (bstr x))) (by kernel_rfl) (by rw [← hvA]; exact ⟨(unhide G vA (Below.refl _ _)).1.at7f, (unhide G vA (Below.refl _ _)).2.2.2.2.2⟩) (fun hS => ?_)
    rw [← hvA] at hS ⊢
    clear hvA hbA pc hcx
    refine tk 0 hS (h := ?_)
    simp only [Act.put, xa, xb, xc]
    refine tk 1 hS (h := ?_)
    simp only [Act.put, xa, xb, xc]
    refine tk 2 hS (h := ?_)
    simp only [Act.put, xa, xb, xc]
    refine tk 3 hS (h := ?_)
    simp only [Act.put, xa, xb, xc]
    refine tk 4 hS (h := ?_)
    simp only [Act.put, xa, xb, xc]
    refine tk 5 hS (h := ?_)
    simp only [Act.put, xa, xb, xc]
    refine ry [6] ?_
    refine cn (fun KK hK => ?_) ?_
    ·refine step_call4 (by rfl) 27 _ _ _ _ _ (by rfl) (frmV s F) (.pointer (some ⟨w.heap.size + 3, 0, none⟩)) (.string (bstr q.word)) (.string (bstr x)) (by rfl) (by rfl) (by rfl) (by rfl) (fun _ => unhide HCF _ _) (unhide HFP) ?_
     rintro r v1 ⟨rfl, bv, nv, hok⟩
     refine ⟨_, rfl, ?_⟩
     refine hK.out _ _ (by exact ⟨(unhide G v1 bv).1.at7f, (unhide G v1 bv).2.2.2.2.2⟩) (fun hS => ?_)
     have HOK := hide hok
     have NV := hide nv
     have HR5 := hide (unhide G v1 bv).2.1
     have B5 := hide (unhide G v1 bv).2.2.2.1
     have B6 := hide (unhide G v1 bv).2.2.2.2.1
     have z5 := bv.size
     clear hK KK hok nv
     (try simp only [Act.put, xa, xb, xc])
     refine tk 7 hS (h := ?_)
     simp only [Act.put, xa, xb, xc]
     refine wpAnyH_done (by kernel_rfl) ?_ _
     refine NoPanic.normal ?_
     clear hS
     cases hpi : putI F C q x with
     | none =>
      simp only [Option.isSome_none]
      have hno : readI ws F = none := by rw [← unhide hR, unhide HST, hpi]; rfl
      have HNO := hide hno
      obtain ⟨Dk, kf⟩ := unhide HR5
      have k0 := Dk 0 _ rfl
      have k1 := Dk 1 _ rfl
      have k2 := Dk 2 _ rfl
      have k3 := Dk 3 _ rfl
      have k4 := Dk 4 _ rfl
      have k5 := Dk 5 _ rfl
      have k6 := Dk 6 _ rfl
      have k7 := Dk 7 _ rfl
      have k8 := Dk 8 _ rfl
      have k9 := Dk 9 _ rfl
      clear Dk
      clear hno hpi
      go_wp2
      refine bodyPost_ret (v := .tuple #[cmV 0 0 0 (.slice none 0 0) 0 (.slice none 0 0) 0 0 0 0, .bool false]) (by simp [results, Tryd.results17, go_sem, k0, k1, k2, k3, k4, k5, k6, k7, k8, k9]) rfl ?_
      refine ⟨⟨cmd0, none, 0, 0, none, 0, 0, by rw [unhide HNO]; rfl, fun C e => by rw [unhide HNO] at e; cases e⟩, ?_⟩
      repeat (first | with_reducible exact unhide B5 | with_reducible refine Below.setCell ?_ (by simp) _)
     | some C' =>
      simp only [Option.isSome_some]
      obtain ⟨x1, x2, x3, y1, y2, y3, hC', hO'⟩ := unhide HOK C' hpi
      have hR' : putsI F C' (F.pl.drop (i + 1)) (ws.drop (i + 1)) = readI ws F := by rw [← unhide hR, unhide HST, hpi]; rfl
      have HR' := hide hR'
      have HC' := hide hC'
      have HO' := hide hO'
      clear hR' hC' hO' hpi
      go_wp2
      go_roundw
      case rel => exact ⟨i + 1, C', x1, x2, x3, y1, y2, y3, by omega, by omega, by go_num, HR', HC', NV, HO', B6⟩
      case measure => simp [intOf]; omega
    exact AllReadyH.nil
   ·have hiE : i = N := by omega
    subst hiE
    have hno : readI ws F = some C := by
     rw [← unhide hR, List.drop_of_length_le (by rw [unhide EL]; exact Nat.le_refl _), List.drop_of_length_le (by rw [unhide eN]; exact Nat.le_refl _)]
     rfl
    have HNO := hide hno
    have hp := put10_is (unhide HR3) (unhide HRN3) (v0 := .int .i64 C.k) (v1 := .int .i64 C.op) (v2 := .int .u64 C.se) (v3 := .slice a1 a2 a3) (v4 := .int .i64 C.fl) (v5 := .slice d1 d2 d3) (v6 := .int .u64 C.ep) (v7 := .int .u64 C.ge) (v8 := .int .i64 C.n) (v9 := .int .i64 C.m) (by simp)
    have ho := put10_own (unhide hO) (unhide HR3) (unhide HRN3) (v0 := .int .i64 C.k) (v1 := .int .i64 C.op) (v2 := .int .u64 C.se) (v3 := .slice a1 a2 a3) (v4 := .int .i64 C.fl) (v5 := .slice d1 d2 d3) (v6 := .int .u64 C.ep) (v7 := .int .u64 C.ge) (v8 := .int .i64 C.n) (v9 := .int .i64 C.m) (by simp)
    have HP := hide (And.intro ho (hp.2.2.2 w.heap.size _ (by omega) (unhide B3)))
    obtain ⟨Dk, kf⟩ := unhide hC
    have k0 := Dk 0 _ rfl
    have k1 := Dk 1 _ rfl
    have k2 := Dk 2 _ rfl
    have k3 := Dk 3 _ rfl
    have k4 := Dk 4 _ rfl
    have k5 := Dk 5 _ rfl
    have k6 := Dk 6 _ rfl
    have k7 := Dk 7 _ rfl
    have k8 := Dk 8 _ rfl
    have k9 := Dk 9 _ rfl
    clear Dk
    obtain ⟨Dr, rf⟩ := unhide HR3
    have r0 := Dr 0 _ rfl
    have r1 := Dr 1 _ rfl
    have r2 := Dr 2 _ rfl
    have r3 := Dr 3 _ rfl
    have r4 := Dr 4 _ rfl
    have r5 := Dr 5 _ rfl
    have r6 := Dr 6 _ rfl
    have r7 := Dr 7 _ rfl
    have r8 := Dr 8 _ rfl
    have r9 := Dr 9 _ rfl
    clear Dr
    clear hno hp ho hbl2
    go_wp2
    refine bodyPost_ret (v := .tuple #[cmV C.k C.op C.se (.slice a1 a2 a3) C.fl (.slice d1 d2 d3) C.ep C.ge C.n C.m, .bool true]) (by simp [results, Tryd.results17, go_sem, k0, k1, k2, k3, k4, k5, k6, k7, k8, k9, r0, r1, r2, r3, r4, r5, r6, r7, r8, r9]) rfl ?_
    refine ⟨⟨C, a1, a2, a3, d1, d2, d3, by rw [unhide HNO]; rfl, fun C' e => ?_⟩, (unhide HP).2⟩
    rw [unhide HNO] at e
    cases e
    exact ⟨rfl, (unhide HP).1⟩
 ·have hNL' : ¬ (N : Int) = (L : Int) := by omega
  obtain ⟨D1, kf⟩ := unhide R2
  have k0 := D1 0 _ rfl
  have k1 := D1 1 _ rfl
  have k2 := D1 2 _ rfl
  have k3 := D1 3 _ rfl
  have k4 := D1 4 _ rfl
  have k5 := D1 5 _ rfl
  have k6 := D1 6 _ rfl
  have k7 := D1 7 _ rfl
  have k8 := D1 8 _ rfl
  have k9 := D1 9 _ rfl
  clear D1
  have hno : readI ws F = none := by unfold readI; rw [if_neg (by rw [unhide eN, unhide EL]; exact hNL)]
  have HNO := hide hno
  clear hno
  go_wp2
  refine bodyPost_ret (v := .tuple #[cmV 0 0 0 (.slice none 0 0) 0 (.slice none 0 0) 0 0 0 0, .bool false]) (by simp [results, Tryd.results17, go_sem, k0, k1, k2, k3, k4, k5, k6, k7, k8, k9]) rfl ?_
  refine ⟨⟨cmd0, none, 0, 0, none, 0, 0, by rw [unhide HNO]; rfl, fun C e => by rw [unhide HNO] at e; cases e⟩, ?_⟩
  repeat (first | with_reducible exact b2 | with_reducible refine Below.setCell ?_ (by simp) _)
end Go.Proofs.YtlkhghcffhckmaaDoor
