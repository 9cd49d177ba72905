import Derived.Test.YtlkhghcffhckmaaDoorPCr
import Derived.Test.YtlkhghcffhckmaaDoorPCq
namespace Go.Proofs.YtlkhghcffhckmaaDoor
open Go.ChangeShapes Go.WideShapes Go.ChangeAt Go.RowKit
set_option linter.unusedVariables false
set_option linter.unusedSimpArgs false
set_option maxRecDepth 100000

theorem formsT_ok : ∀ x ∈ formsT, FOk x.1 x.2 := by
 intro x hx
 simp only [formsT, strsI, formsI, List.zip_cons_cons, List.zip_nil_right, List.mem_cons, List.not_mem_nil, or_false] at hx
 rcases hx with rfl | rfl | rfl | rfl | rfl | rfl | rfl | rfl | rfl | rfl | rfl | rfl | rfl | rfl | rfl | rfl | rfl | rfl | rfl | rfl | rfl | rfl | rfl | rfl | rfl
 all_goals exact ⟨by decide, fun j b h => (by decide : ∀ b ∈ _, b.toNat < 128) b (List.mem_of_getElem? h), rfl, by simp [Pl.ok, Byt], by decide, by decide⟩
theorem formsT_len : formsT.length = 25 := rfl
theorem formsT_I : formsT.map (·.2) = formsI := rfl
set_option maxHeartbeats 6400000 in
theorem impl_parse (p : Option Addr) (c n : Nat) (l : List Int) (en : Hid (l.length = n)) (w : World) (h : Rd w (.slice p n c) l) (hb : Hid (Byt l)) (hl : n ≤ 1048576) (hV : Hid (∀ w', Below w.heap.size w w' → Vars w')) (R : Option Cmd) (eR : Hid (implC (wds l) = R)) (k : Int) (ek : Hid (k = if R.isSome then 0 else 2)) :
  Calls Tryd.prog 6 #[.slice p n c] w fun e w' => (∃ x1 x2 x3 y1 y2 y3, e = .returned (.tuple #[cmV (R.getD cmd0).k (R.getD cmd0).op (R.getD cmd0).se (.slice x1 x2 x3) (R.getD cmd0).fl (.slice y1 y2 y3) (R.getD cmd0).ep (R.getD cmd0).ge (R.getD cmd0).n (R.getD cmd0).m, .int .i64 k]) ∧ OwnP w.heap.size w' (.slice x1 x2 x3) (.slice y1 y2 y3) (R.getD cmd0).pa (R.getD cmd0).va) ∧ Below w.heap.size w w' := by
 obtain ⟨N, eN⟩ : ∃ N, Hid ((wds l).length = N) := ⟨_, (by show _ = _; rfl)⟩
 have HR := hide fun (w' : World) (hb : Below w.heap.size w w') => h.below hb
 clear h
 obtain ⟨W, hW⟩ : ∃ W, W = (w.alloc (.cells #[.int .i64 0, .int .i64 0, .int .u64 0, .slice none 0 0, .int .i64 0, .slice none 0 0, .int .u64 0, .int .u64 0, .int .i64 0, .int .i64 0] 27)) := ⟨_, rfl⟩
 have bW : Below w.heap.size w W := by rw [hW]; exact (Below.refl _ _).alloc (Nat.le_refl _) _
 have zW : W.heap.size = w.heap.size + 1 := by rw [hW]; simp
 have HC := hide (by rw [hW]; exact CellsAre.alloc w _ _ : CellsAre W w.heap.size [.int .i64 0, .int .i64 0, .int .u64 0, .slice none 0 0, .int .i64 0, .slice none 0 0, .int .u64 0, .int .u64 0, .int .i64 0, .int .i64 0])
 have HNB := hide (by rw [hW]; exact NoB.alloc w _ _ (by simp) : NoB W w.heap.size)
 go_enter Tryd.func6, Tryd.ntmps6
 go_wp2_with fail
 rw [← hW]
 clear hW
 refine (wordsOf_any p c n l en _ (unhide HR _ bW) hb hl N eN).mono ?_
 rintro r w1 ⟨p', c', rfl, hS, hb1⟩
 have HC1 := hide ((unhide HC).below (by omega) hb1)
 have HNB1 := hide ((unhide HNB).below (by omega) hb1)
 have b1 := Below.step bW hb1
 have z1 := hb1.size
 have HS := hide hS
 clear hS hb1
 go_wp2_with fail
 refine (lineForms_any _).mono ?_
 rintro r w2 ⟨b, rfl, hT, hb2⟩
 have HC2 := hide ((unhide HC1).below (by omega) hb2)
 have HNB2 := hide ((unhide HNB1).below (by omega) hb2)
 have HS2 := hide ((unhide HS).below hb2)
 have b2 := Below.step b1 hb2
 have z2 := hb2.size
 have HT := hide hT
 clear hT hb2 b1
 obtain ⟨ws, ews⟩ : ∃ ws, wds l = ws := ⟨_, rfl⟩
 have HWB : Hid (∀ x ∈ ws, Byt x ∧ x.length ≤ 1048576) := fun x hx => by
  rw [← ews] at hx
  have := wds_byt l (unhide hb) x hx
  rw [unhide en] at this
  exact ⟨this.1, by omega⟩
 have hNN : N ≤ 1048576 := by
  have h1 := wfold_len l
  have h2 := unhide eN
  rw [unhide en] at h1
  unfold wds at h2
  split at h2
  ·omega
  ·next h3 =>
   have := List.length_pos_iff.2 h3
   rw [List.length_append, List.length_singleton] at h2
   omega
 rw [ews] at HS2 eR eN
 clear ews
 go_wp2
 go_loopw [13] (fun iv wr => ∃ (i : Nat), i ≤ 25 ∧ iv = .int .i64 i ∧ Hid ((formsI.drop i).findSome? (readI ws) = R) ∧ Hid (Below w2.heap.size w2 wr)) (fun iv _ => 25 - (intOf iv).toNat)
 case atStart => exact ⟨0, by omega, rfl, eR, Below.refl _ _⟩
 case round =>
  obtain ⟨i, hi, rfl, hR, hBl⟩ := hrel
  have wi : IntKind.i64.wrap ((i : Int) + 1) = ((i + 1 : Nat) : Int) := by rw [IntWalk.i64_in _ (by omega)]; omega
  have zr := (unhide hBl).size
  have HC3 := hide ((unhide HC2).below (by omega) (unhide hBl))
  have HN3 := hide ((unhide HNB2).below (by omega) (unhide hBl))
  have HT3 := hide ((unhide HT).below (unhide hBl))
  have HS3 := hide ((unhide HS2).below (unhide hBl))
  have B3 := hide (Below.step b2 (unhide hBl))
  by_cases hi25 : i < 25
  ·have hi25' : (i : Int) < 25 := by omega
   obtain ⟨⟨s, F⟩, hx⟩ : ∃ x, formsT[i]? = some x := ⟨_, List.getElem?_eq_getElem (by rw [formsT_len]; exact hi25)⟩
   have hok := formsT_ok _ (List.mem_of_getElem? hx)
   have hfi : formsI[i]? = some F := by rw [← formsT_I, List.getElem?_map, hx]; rfl
   have hst : (formsI.drop i).findSome? (readI ws) = match readI ws F with | some C => some C | none => (formsI.drop (i + 1)).findSome? (readI ws) := by
    obtain ⟨h1, e1⟩ := List.getElem?_eq_some_iff.1 hfi
    rw [List.drop_eq_getElem_cons h1, e1, List.findSome?_cons]
    cases readI ws F <;> rfl
   have HST := hide hst
   have t0 := unhide HT3 i _ hx 0 _ rfl
   have t1 := unhide HT3 i _ hx 1 _ rfl
   have t2 := unhide HT3 i _ hx 2 _ rfl
   have t3 := unhide HT3 i _ hx 3 _ rfl
   have t4 := unhide HT3 i _ hx 4 _ rfl
   have t5 := unhide HT3 i _ hx 5 _ rfl
   have t6 := unhide HT3 i _ hx 6 _ rfl
   rw [Nat.add_zero] at t0
   simp only at t0 t1 t2 t3 t4 t5 t6
   obtain ⟨W3, hW3⟩ : ∃ V, V = wr.alloc (.cells #[.string s, .int .i64 F.k, .int .i64 F.op, .int .i64 F.fl, .int .i64 F.mostN, .int .i64 F.mostM, .int .i64 F.m] 47) := ⟨_, rfl⟩
   have hb3 : Below wr.heap.size wr W3 := by rw [hW3]; exact (Below.refl _ _).alloc (Nat.le_refl _) _
   have zW3 := hb3.size
   have B4 := hide (Below.step (unhide B3) hb3)
   have FR := read_any s F hok p' N c' ws eN HWB hNN W3 (hide ((unhide HS3).below hb3)) (hide fun w' hw' => unhide hV w' (Below.step (unhide B4) hw'))
   have HFR := hide FR
   have HOK := hide hok
   clear FR hok hx hfi hst
   go_wp2_with fail
   rw [← hW3]
   clear hW3
   refine (unhide HFR).mono ?_
   rintro r w4 ⟨⟨C1, x1, x2, x3, y1, y2, y3, rfl, hC1⟩, hb4⟩
   have HC1' := hide hC1
   have z4 := hb4.size
   have B5 := hide (Below.step (unhide B4) hb4)
   have HB4 := hide (Below.step (Below.step (unhide hBl) hb3) hb4)
   have HR4 := hide (((unhide HC3).below (by omega) hb3).below (by omega) hb4)
   have HN4 := hide (((unhide HN3).below (by omega) hb3).below (by omega) hb4)
   obtain ⟨V, hV4⟩ : ∃ Z, Z = w4.alloc (.cells #[.int .i64 C1.k, .int .i64 C1.op, .int .u64 C1.se, .slice x1 x2 x3, .int .i64 C1.fl, .slice y1 y2 y3, .int .u64 C1.ep, .int .u64 C1.ge, .int .i64 C1.n, .int .i64 C1.m] 27) := ⟨_, rfl⟩
   have hb5 : Below w4.heap.size w4 V := by rw [hV4]; exact (Below.refl _ _).alloc (Nat.le_refl _) _
   have z5 := hb5.size
   have HV := hide hV4
   have HVC := hide (by rw [hV4]; exact CellsAre.alloc w4 _ _ : CellsAre V w4.heap.size [.int .i64 C1.k, .int .i64 C1.op, .int .u64 C1.se, .slice x1 x2 x3, .int .i64 C1.fl, .slice y1 y2 y3, .int .u64 C1.ep, .int .u64 C1.ge, .int .i64 C1.n, .int .i64 C1.m])
   have HR5 := hide ((unhide HR4).below (by omega) hb5)
   have HN5 := hide ((unhide HN4).below (by omega) hb5)
   have B6 := hide (Below.step (unhide B5) hb5)
   have HB5 := hide (Below.step (unhide HB4) hb5)
   have HB55 := hide hb5
   clear hC1 hb4 hb3 t0 t1 t2 t3 t4 t5 t6 hb5 hV4
   cases hri : readI ws F with
   | none =>
    simp only [Option.isSome_none]
    have hR' : (formsI.drop (i + 1)).findSome? (readI ws) = R := by rw [← unhide hR, unhide HST, hri]
    have HR' := hide hR'
    clear hR' hri
    go_wp2
    rw [← unhide HV]
    go_roundw
    case rel => exact ⟨i + 1, by omega, by go_num, HR', HB5⟩
    case measure => simp [intOf]; omega
   | some C =>
    simp only [Option.isSome_some]
    obtain ⟨rfl, hO⟩ := unhide HC1' C hri
    have hR' : R = some C1 := by rw [← unhide hR, unhide HST, hri]
    have HR' := hide hR'
    have hp := put10_is (unhide HR4) (unhide HN4) (v0 := .int .i64 C1.k) (v1 := .int .i64 C1.op) (v2 := .int .u64 C1.se) (v3 := .slice x1 x2 x3) (v4 := .int .i64 C1.fl) (v5 := .slice y1 y2 y3) (v6 := .int .u64 C1.ep) (v7 := .int .u64 C1.ge) (v8 := .int .i64 C1.n) (v9 := .int .i64 C1.m) (by simp)
    have ho := put10_own (hO.mono (B' := w.heap.size) (by omega)) (unhide HR4) (unhide HN4) (v0 := .int .i64 C1.k) (v1 := .int .i64 C1.op) (v2 := .int .u64 C1.se) (v3 := .slice x1 x2 x3) (v4 := .int .i64 C1.fl) (v5 := .slice y1 y2 y3) (v6 := .int .u64 C1.ep) (v7 := .int .u64 C1.ge) (v8 := .int .i64 C1.n) (v9 := .int .i64 C1.m) (by simp)
    have HP := hide (And.intro ho (hp.2.2.2 w.heap.size _ (Nat.le_refl _) (unhide B5)))
    have hlt : w.heap.size < w4.heap.size := by omega
    have q1 : ¬ w.heap.size = w4.heap.size := by omega
    have q2 : ¬ w4.heap.size = w.heap.size := by omega
    have q3 : (w.heap.size == w4.heap.size) = false := by simpa using q1
    have kf2 := fun (cs : Array Value) (t : TypeId) (o : Nat) => (frozen?_alloc_cells w4 cs t ⟨w.heap.size, o, none⟩).trans ((unhide HR4).2 o)
    have m0 := fun (o : Obj) => (World.cell?_alloc_lt w4 o ⟨w.heap.size, 0, none⟩ hlt).trans ((unhide HR4).1 0 _ rfl)
    have m1 := fun (o : Obj) => (World.cell?_alloc_lt w4 o ⟨w.heap.size, 1, none⟩ hlt).trans ((unhide HR4).1 1 _ rfl)
    have m2 := fun (o : Obj) => (World.cell?_alloc_lt w4 o ⟨w.heap.size, 2, none⟩ hlt).trans ((unhide HR4).1 2 _ rfl)
    have m3 := fun (o : Obj) => (World.cell?_alloc_lt w4 o ⟨w.heap.size, 3, none⟩ hlt).trans ((unhide HR4).1 3 _ rfl)
    have m4 := fun (o : Obj) => (World.cell?_alloc_lt w4 o ⟨w.heap.size, 4, none⟩ hlt).trans ((unhide HR4).1 4 _ rfl)
    have m5 := fun (o : Obj) => (World.cell?_alloc_lt w4 o ⟨w.heap.size, 5, none⟩ hlt).trans ((unhide HR4).1 5 _ rfl)
    have m6 := fun (o : Obj) => (World.cell?_alloc_lt w4 o ⟨w.heap.size, 6, none⟩ hlt).trans ((unhide HR4).1 6 _ rfl)
    have m7 := fun (o : Obj) => (World.cell?_alloc_lt w4 o ⟨w.heap.size, 7, none⟩ hlt).trans ((unhide HR4).1 7 _ rfl)
    have m8 := fun (o : Obj) => (World.cell?_alloc_lt w4 o ⟨w.heap.size, 8, none⟩ hlt).trans ((unhide HR4).1 8 _ rfl)
    have m9 := fun (o : Obj) => (World.cell?_alloc_lt w4 o ⟨w.heap.size, 9, none⟩ hlt).trans ((unhide HR4).1 9 _ rfl)
    obtain ⟨Dk, kf⟩ := unhide HR4
    have k0 := Dk 0 _ rfl
    have k1 := Dk 1 _ rfl
    have k2 := Dk 2 _ rfl
    have k3 := Dk 3 _ rfl
    have k4 := Dk 4 _ rfl
    have k5 := Dk 5 _ rfl
    have k6 := Dk 6 _ rfl
    have k7 := Dk 7 _ rfl
    have k8 := Dk 8 _ rfl
    have k9 := Dk 9 _ rfl
    clear Dk
    clear hO hR' hri hp ho
    go_wp2
    refine bodyPost_ret (v := .tuple #[cmV C1.k C1.op C1.se (.slice x1 x2 x3) C1.fl (.slice y1 y2 y3) C1.ep C1.ge C1.n C1.m, .int .i64 0]) (by simp [results, Tryd.results6, go_sem, k0, k1, k2, k3, k4, k5, k6, k7, k8, k9, World.cell?_alloc_lt, hlt]) rfl ?_
    have ek' := unhide ek
    rw [unhide HR'] at ek' ⊢
    subst ek'
    have hfin : Below (put10 w4 w.heap.size (.int .i64 C1.k) (.int .i64 C1.op) (.int .u64 C1.se) (.slice x1 x2 x3) (.int .i64 C1.fl) (.slice y1 y2 y3) (.int .u64 C1.ep) (.int .u64 C1.ge) (.int .i64 C1.n) (.int .i64 C1.m)).heap.size (put10 w4 w.heap.size (.int .i64 C1.k) (.int .i64 C1.op) (.int .u64 C1.se) (.slice x1 x2 x3) (.int .i64 C1.fl) (.slice y1 y2 y3) (.int .u64 C1.ep) (.int .u64 C1.ge) (.int .i64 C1.n) (.int .i64 C1.m)) ((put10 w4 w.heap.size (.int .i64 C1.k) (.int .i64 C1.op) (.int .u64 C1.se) (.slice x1 x2 x3) (.int .i64 C1.fl) (.slice y1 y2 y3) (.int .u64 C1.ep) (.int .u64 C1.ge) (.int .i64 C1.n) (.int .i64 C1.m)).alloc (.cells #[.int .i64 C1.k, .int .i64 C1.op, .int .u64 C1.se, .slice x1 x2 x3, .int .i64 C1.fl, .slice y1 y2 y3, .int .u64 C1.ep, .int .u64 C1.ge, .int .i64 C1.n, .int .i64 C1.m] 27)) := (Below.refl _ _).alloc (Nat.le_refl _) _
    exact ⟨⟨x1, x2, x3, y1, y2, y3, rfl, (unhide HP).1.below hfin⟩, Below.step (unhide HP).2 hfin⟩
  ·have hiE : i = 25 := by omega
   subst hiE
   have hR' : R = none := by rw [← unhide hR]; rfl
   have HR' := hide hR'
   have hp := put10_is (unhide HC3) (unhide HN3) (v0 := .int .i64 0) (v1 := .int .i64 0) (v2 := .int .u64 0) (v3 := .slice none 0 0) (v4 := .int .i64 0) (v5 := .slice none 0 0) (v6 := .int .u64 0) (v7 := .int .u64 0) (v8 := .int .i64 0) (v9 := .int .i64 0) (by simp)
   have HP := hide (hp.2.2.2 w.heap.size _ (Nat.le_refl _) (unhide B3))
   obtain ⟨Dr, rf⟩ := unhide HC3
   have r0 := Dr 0 _ rfl
   have r1 := Dr 1 _ rfl
   have r2 := Dr 2 _ rfl
   have r3 := Dr 3 _ rfl
   have r4 := Dr 4 _ rfl
   have r5 := Dr 5 _ rfl
   have r6 := Dr 6 _ rfl
   have r7 := Dr 7 _ rfl
   have r8 := Dr 8 _ rfl
   have r9 := Dr 9 _ rfl
   clear Dr
   clear hR' hp
   go_wp2
   refine bodyPost_ret (v := .tuple #[cmV 0 0 0 (.slice none 0 0) 0 (.slice none 0 0) 0 0 0 0, .int .i64 2]) (by simp [results, Tryd.results6, go_sem, r0, r1, r2, r3, r4, r5, r6, r7, r8, r9]) rfl ?_
   have ek' := unhide ek
   rw [unhide HR'] at ek' ⊢
   subst ek'
   exact ⟨⟨none, 0, 0, none, 0, 0, rfl, OwnP.nil _ _⟩, unhide HP⟩
end Go.Proofs.YtlkhghcffhckmaaDoor
