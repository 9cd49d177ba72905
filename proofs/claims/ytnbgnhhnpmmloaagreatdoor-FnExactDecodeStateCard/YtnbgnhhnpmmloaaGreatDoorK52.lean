import Derived.Test.YtnbgnhhnpmmloaaGreatDoorK0
import Derived.ShutString
import Derived.ChangeOld
import Derived.Below
import Derived.HandedShaped
import Derived.Shelf.Vars
import Derived.LaidMore
import Derived.Lay
import Derived.ProofKit
import Derived.OpenShut
import Derived.Stop.Joined
import Derived.Test.YtnbgnhhnpmmloaaGreatDoorK44
import Derived.Test.YtnbgnhhnpmmloaaGreatDoorDSs
import Derived.Test.YtnbgnhhnpmmloaaGreatDoorK51
namespace Go.Proofs.YtnbgnhhnpmmloaaGreatDoor
open Go.ChangeShapes Go.WideShapes Go.ChangeAt Go.RowKit Go.Deep
set_option linter.unusedVariables false
set_option linter.unusedSimpArgs false
theorem Rd.of_trod {H : Type} {enc : TypeId × Value → H} {w : World} {n : Nat} {cs : List Value} {x : DataW H × List MemPlace} (h : DataW.trod enc Tryz.prog w 0 (fun _ => true) true n 22 cs = some x) :
  ∃ (p : Option Addr) (l : List Int) (c : Nat), cs = [.slice p l.length c] ∧ Rd w (.slice p l.length c) l ∧ l.length ≤ maxLen ∧ (∀ z ∈ l, (Lit.int .u8 z).wf = true) := by
 rcases open_ints Tryz.underlying22 Tryz.underlying5 (by kernel_rfl) h with ⟨rfl, _⟩ | ⟨a, len, cap, zs, rfl, _, hl, hm, hz, _, hcell, hwz⟩
 ·exact ⟨none, [], 0, rfl, Rd.nil w, by simp, by simp⟩
 ·simp only [if_true] at hz
  have e : (zs.take len).length = len := by simp; omega
  refine ⟨some a, zs.take len, cap, by rw [e], ?_, by omega, fun z h => hwz z (List.mem_of_mem_take h)⟩
  refine ⟨some a, cap, rfl, ?_⟩
  by_cases h0 : len = 0
  ·left; subst h0; simp
  ·right
   obtain ⟨b, o, spot⟩ := a
   have hs : spot = none := by simpa [Addr.add] using World.cell?_spot (hcell 0 (by omega))
   subst hs
   refine ⟨b, o, rfl, fun i hi => ?_⟩
   rw [e] at hi
   have := hcell i (by omega)
   simp only [Addr.add_lit] at this
   rw [this]
   simp [List.getD, List.getElem?_take, hi]
theorem Rd.of_trod_cap {H : Type} {enc : TypeId × Value → H} {w : World} {n : Nat} {cs : List Value} {x : DataW H × List MemPlace} (h : DataW.trod enc Tryz.prog w 0 (fun _ => true) true n 22 cs = some x) :
  ∃ (p : Option Addr) (l : List Int) (c : Nat), cs = [.slice p l.length c] ∧ Rd w (.slice p l.length c) l ∧ l.length ≤ maxLen ∧ l.length ≤ c ∧ (∀ z ∈ l, 0 ≤ z ∧ z < 256) := by
 obtain ⟨p, l, c, e, hr, hm, hw⟩ := Rd.of_trod h
 refine ⟨p, l, c, e, hr, hm, ?_, fun z hz => ?_⟩
 ·rcases open_ints Tryz.underlying22 Tryz.underlying5 (by kernel_rfl) h with ⟨rfl, _⟩ | ⟨a, len, cap, zs, rfl, _, hl, _⟩
  ·simp at e; omega
  ·simp at e; omega
 ·have := hw z hz
  simp [Lit.wf, IntKind.min, IntKind.max, IntKind.signed, IntKind.bits] at this
  omega
theorem own : ownKnob Tryz.prog.godebug = none := by kernel_rfl
theorem laidOut : laidOutB Tryz.prog = true := by kernel_rfl
theorem handed_both {H : Type} {enc : TypeId × Value → H} {a : Assume} {C : Checked} {os : Os} {f : FuncId} {fn : Func} {s : ChangeSpec} {conds : List PathCond} {apart fresh handsOn again : Bool} {X : World → Array Value → Prop}
  (hX : ∀ (w w' : World) (args : Array Value), w.heap = w'.heap → X w args → X w' args)
  (own : ownKnob C.prog.godebug = none) (started : os.Started) (noInit : C.prog.inits.idxOf? f = none) (hfn : C.prog.funcs[f]? = some fn)
  (witness : ∃ (w : World) (tape : Tape) (i : Input), w.os = os ∧ (w.forCall tape i).Shaped C.prog ∧ i.vars = [] ∧ Input.okWide C.prog (w.forCall tape i) .any w.heap.size f i ∧
   ((s.pre enc C.prog fn conds apart (w.forCall tape i).memory i.args ∧ X (w.forCall tape i).memory i.args) ∧ sizedMet enc C.prog fn (OpenSpec.ofChange s) apart (w.forCall tape i).memory i.args) ∧ a.holds C.prog (lone (Frame.enter C.prog f i.args .normal) [] (w.forCall tape i)))
  (contract : ∀ (W : World) (base : Nat) (args : Array Value) (ds gs : List (DataW H)) (before : List MemPlace),
   (∀ (j : Nat) t v, fn.params[j]? = some t → args[j]? = some v → Value.okWide C.prog W .any base t v) →
   DataW.Whole enc C.prog fn.params.toList s.vars apart W args.toList ds gs before →
   X W args → W.ShapedOpen C.prog →
   Calls C.prog f args W fun e W' => ∃ v, e = .returned v ∧ s.post enc C.prog fn apart fresh handsOn again W args v W') :
  ReturnsInHanded a C os f .any (fun w args => (s.pre enc C.prog fn conds apart w args ∧ X w args) ∧ sizedMet enc C.prog fn (OpenSpec.ofChange s) apart w args) (s.post enc C.prog fn apart fresh handsOn again) := by
 refine returnsInHanded_of_calls own started noInit witness ?_
 intro w tape i _ hsh _ hok hpre hholds
 obtain ⟨_, _, _, fn', hfn', _, _, _, _, hval⟩ := hok
 have e : fn' = fn := Option.some.inj (hfn'.symm.trans hfn)
 subst e
 obtain ⟨⟨⟨ds, gs, before, hw, hc⟩, hx⟩, hz⟩ := hpre
 refine (contract (w.forCall tape i) w.heap.size i.args ds gs before hval (DataW.Whole.of_heap (w' := w.forCall tape i) (by rfl) hw) (hX _ _ _ (by rfl) hx) hsh).mono fun e W' ⟨v, he, hp⟩ => ?_
 subst he
 exact ChangeSpec.post_blind hp
theorem maxLen_cell {w : World} (h : w.ShapedOpen Tryz.prog) : ∃ m, w.cell? ⟨1, 0, none⟩ = some (.int .i64 m) :=
 cell_of_shapedOpen_int (t := 3) (zero := #[.int .i64 0]) h (of_decide_eq_true (by kernel_rfl)) (by kernel_rfl) rfl (by kernel_rfl) (by kernel_rfl) Tryz.underlying3
end Go.Proofs.YtnbgnhhnpmmloaaGreatDoor
namespace Go.Proofs.YtnbgnhhnpmmloaaGreatDoor
open Go.ChangeShapes Go.WideShapes Go.ChangeAt Go.RowKit
set_option linter.unusedVariables false
set_option linter.unusedSimpArgs false
set_option maxRecDepth 100000
theorem Own.adrS {B : Nat} {w : World} {q : Option Addr} {n d : Nat} {l : List Int} (h : Own B w (.slice q n d) l) : Hid ((q = none ∧ d = 0) ∨ ∃ b o, q = some ⟨b, o, none⟩) ∧ Hid (∀ b o, q = some ⟨b, o, none⟩ → b < w.heap.size) := by
 refine ⟨?_, fun b o e => ?_⟩
 ·rcases h.2 with ⟨e, h0⟩ | ⟨g, cap, cur, e, _⟩
  ·simp only [Value.slice.injEq] at e; exact .inl ⟨e.1, e.2.2⟩
  ·simp only [Value.slice.injEq] at e; exact .inr ⟨g, 0, e.1⟩
 ·subst e
  exact (h.lt b rfl).2
theorem sumF_cap {α : Type} {F : α → Nat} {C : Nat} (l : List α) (h : ∀ x ∈ l, F x ≤ C) : sumF F l ≤ C * l.length := by
 have := sum_le C (l.map F) fun x hx => by
  obtain ⟨y, hy, rfl⟩ := List.mem_map.1 hx
  exact h y hy
 rw [List.length_map] at this
 exact this
theorem decSz {l : List Int} (hb : Byt l) (hl : l.length ≤ 1048576) : szSt (decD (implP l)).ss (decD (implP l)).ns ≤ 1048576 := by
 rw [implP]
 split
 ·next hc =>
  obtain ⟨hsh, hE⟩ := hc
  have hok : stOK (imSt l).1.1 (imSt l).1.2.1 (imSt l).1.2.2 0 (imSt l).2.1 (imSt l).2.2.1 = true := by
   by_cases hk : stOK (imSt l).1.1 (imSt l).1.2.1 (imSt l).1.2.2 0 (imSt l).2.1 (imSt l).2.2.1 = true
   ·exact hk
   ·rw [encR, if_neg hk] at hE
    rw [← hE, imSt_nil] at hsh
    cases hsh
  obtain ⟨a1, a2, a3, -⟩ := sNs_ok (l, false) hb hl
  obtain ⟨b1, b2, b3, -⟩ := sNs_ok (sNs (l, false)).2 a2 (by simp only at a3; omega)
  obtain ⟨c1, c2, c3, -⟩ := sNs_ok (sNs (sNs (l, false)).2).2 b2 (by simp only at a3; omega)
  obtain ⟨d1, d2, d3, -⟩ := lF_ok sSe_ok (sNs (sNs (sNs (l, false)).2).2).2 c2 (by simp only at a3; omega)
  obtain ⟨e1, -⟩ := lF_ok sNo_ok (lF sSe (sNs (sNs (sNs (l, false)).2).2).2).2 d2 (by simp only at a3; omega)
  have hS := rg_sml hok e1
  have h1 : sumF szSes (imSt l).2.1 ≤ 0 * (imSt l).2.1.length := sumF_cap _ fun s hs => by
   have := (d1 s hs).2
   unfold szSes
   rw [this]
   exact Nat.le_refl _
  have h2 : sumF szNod (imSt l).2.2.1 ≤ 226 * (imSt l).2.2.1.length := sumF_cap _ fun nd hnd => by
   have h3 := hS.d nd hnd
   have h4 := (e1 nd hnd).l7
   unfold szNod
   rw [h4]
   simp only [List.length_nil]
   omega
  have h5 := hS.n1
  have h6 := hS.n2
  simp only [decD, szSt]
  omega
 ·simp [decD, stD0, szSt, sumF]
set_option maxHeartbeats 6400000 in
theorem lawDecS_small (p : Option Addr) (c n : Nat) (l : List Int) (en : Hid (l.length = n)) (w : World) (h : Rd w (.slice p n c) l) (hb : Hid (Byt l)) (hl : n ≤ 1048576) (hML : ML w) :
  Calls Tryz.prog 3 #[.slice p n c] w fun r w' => r = .returned (.bool true) ∧ Below w.heap.size w w' := by
 have HR := hide fun (w' : World) (hb : Below w.heap.size w w') => And.intro (h.below hb) (hML.below hb)
 clear h hML
 have hl' : ¬ (1048576 : Int) < (n : Int) := by omega
 have hsp := spec_impl (uh hb) (by rw [uh en]; exact hl)
 have hsz := decSz (uh hb) (by rw [uh en]; exact hl)
 obtain ⟨⟨e', g', x', t', ss', ns'⟩, eD⟩ : ∃ D, decD (implP l) = D := ⟨_, rfl⟩
 obtain ⟨cd, eC⟩ : ∃ C, decC (implP l) = C := ⟨_, rfl⟩
 rw [eD] at hsz
 have hsD : szSt ss' ns' ≤ 1048576 := hsz
 have ES : Hid (decD (specP l) = ⟨e', g', x', t', ss', ns'⟩ ∧ decC (specP l) = cd) := by rw [hsp]; exact ⟨eD, eC⟩
 obtain ⟨k1, k2, k3, k4⟩ := sz_ses hsD
 obtain ⟨n', en'⟩ : ∃ k, ss'.length = k := ⟨_, rfl⟩
 obtain ⟨m', em'⟩ : ∃ k, ns'.length = k := ⟨_, rfl⟩
 rw [en'] at k1
 rw [em'] at k2
 have K3 := hide k3
 have K4 := hide k4
 have HSD := hide hsD
 have ED := hide (And.intro eD eC)
 have EN := hide en'
 have EM := hide em'
 clear k3 k4 hsD hsz eD eC en' em' hsp
 have hne : (cd != cd) = false := by simp
 go_enter Tryz.func3, Tryz.ntmps3
 go_wp2_with fail
 refine (toByteS_n p c n l en _ (uh HR _ (Below.refl _ _)).1 hl).mono ?_
 rintro r w1 ⟨p1, c1, rfl, x1, b1⟩
 have X1 := hide x1
 clear x1
 go_wp2_with fail
 refine (specDec p1 c1 n l en _ (uh X1).rd hb hl (uh X1).cap).mono ?_
 rintro r w3 ⟨hres, hb3⟩
 rw [(uh ES).1, (uh ES).2] at hres
 obtain ⟨s3, a3, s4, a4, rfl, o3⟩ := hres
 dsimp only at o3 ⊢
 rw [uh EN, uh EM] at o3 ⊢
 have b3 := Below.step b1 hb3
 have V3 := hide o3
 clear hb3 o3
 obtain ⟨U3, hU3⟩ : ∃ U, U = w3.alloc (.cells #[.int .u64 e', .int .u64 g', .int .u64 x', .int .i64 t', .slice s3 n' a3, .slice s4 m' a4] 27) := ⟨_, rfl⟩
 have bU3 : Below w3.heap.size w3 U3 := by rw [hU3]; exact (Below.refl _ _).alloc (Nat.le_refl _) _
 have cU3 : St6 U3 w3.heap.size e' g' x' t' (.slice s3 n' a3) (.slice s4 m' a4) := by rw [hU3]; simp [St6]
 have zU3 : U3.heap.size = w3.heap.size + 1 := by rw [hU3]; simp
 have BU := hide (Below.step b3 bU3)
 have W0 := hide cU3
 have HV3 := hide ((uh V3).below bU3)
 go_wp2_with fail
 rw [← hU3]
 clear hU3 bU3 cU3
 refine (toByteS_n p c n l en _ (uh HR _ (uh BU)).1 hl).mono ?_
 rintro r w4 ⟨p4, c4, rfl, x4, hb4⟩
 have b4 := Below.step (uh BU) hb4
 have W4 := hide ((uh W0).below hb4)
 have V4 := hide ((uh HV3).below hb4)
 have X4 := hide x4
 have BX4 := hide fun b hb => (x4.lt b hb)
 have z34 := hb4.size
 have BUU1 := hide hb4
 clear hb4 x4
 go_wp2_with fail
 refine (implDecS p4 c4 n l en _ (uh X4).rd hb hl (uh X4).cap (uh X4).adrS.1 (uh X4).adrS.2 (uh HR _ b4).2).mono ?_
 rintro r w6 ⟨hres, hb6⟩
 rw [(uh ED).1, (uh ED).2] at hres
 obtain ⟨s6, a6, s7, a7, rfl, o6⟩ := hres
 dsimp only at o6 ⊢
 rw [uh EN, uh EM] at o6 ⊢
 have b6 := Below.step b4 hb6
 have BUU3 := hide (Below.step (uh BUU1) hb6)
 have W6 := hide ((uh W4).below hb6)
 have V6 := hide ((uh V4).below hb6)
 have X6 := hide (Own.below (uh X4) hb6)
 obtain ⟨D1, D2, o6'⟩ := o6
 have G6 : Hid (StLv w4.heap.size w6 D1 D2 s6 n' a6 s7 m' a7 ss' ns') := o6'
 have HLF := hide fun a ha => o6'.2.2.2.2.inn.lt (a := a) ha
 have HLO := hide o6'.2.2.2.2.lo
 have z46 := hb6.size
 clear hb6 o6'
 obtain ⟨U6, hU6⟩ : ∃ U, U = w6.alloc (.cells #[.int .u64 e', .int .u64 g', .int .u64 x', .int .i64 t', .slice s6 n' a6, .slice s7 m' a7] 27) := ⟨_, rfl⟩
 have bU6 : Below w6.heap.size w6 U6 := by rw [hU6]; exact (Below.refl _ _).alloc (Nat.le_refl _) _
 have cU6 : St6 U6 w6.heap.size e' g' x' t' (.slice s6 n' a6) (.slice s7 m' a7) := by rw [hU6]; simp [St6]
 have zU6 : U6.heap.size = w6.heap.size + 1 := by rw [hU6]; simp
 have b7 := Below.step b6 bU6
 have BUU := hide (Below.step (uh BUU3) bU6)
 have W7 := hide ((uh W6).below bU6)
 have V7 := hide ((uh V6).below bU6)
 have X7 := hide (Own.below (uh X6) bU6)
 have G7 := hide ((uh G6).below bU6)
 have J7 := hide cU6
 obtain ⟨i0, i1, i2, i3, i4, i5⟩ := uh W7
 rw [hU6] at i0 i1 i2 i3 i4 i5
 clear cU6 bU6
 go_wp2_with fail
 rw [← hU6]
 clear i0 i1 i2 i3 i4 i5 hU6
 refine (eqState_n e' g' x' t' s6 s7 s3 s4 a6 n' a7 m' a3 a4 ss' ns' EN EM _ (uh G7).rd.1 (uh G7).rd.2 (uh V7).rd.1 (uh V7).rd.2 k1 k2 K3 K4).mono ?_
 rintro r w7 ⟨rfl, hb7⟩
 have b8 := Below.step b7 hb7
 have X8 := hide (Own.below (uh X7) hb7)
 have B67 := hide hb7
 have z78 := hb7.size
 clear hb7
 go_wp2_with fail
 refine (toByteS_n p c n l en _ (uh HR _ b8).1 hl).mono ?_
 rintro r w8 ⟨p8, c8, rfl, y8, hb8⟩
 have b9 := Below.step b8 hb8
 have X9 := hide (Own.below (uh X8) hb8)
 have Y9 := hide y8.rd
 have B68 := hide (Below.step (uh B67) hb8)
 have z89 := hb8.size
 clear hb8 y8
 go_wp2_with fail
 refine (eqByteS_n p4 p8 c4 c8 n l en _ (uh X9).rd (uh Y9) (by omega)).mono ?_
 rintro r w9 ⟨rfl, hb9⟩
 have b10 := Below.step b9 hb9
 have X10 := hide (Own.below (uh X9) hb9)
 have B69 := hide (Below.step (uh B68) hb9)
 have BU9 := hide (Below.step (uh BUU) (uh B69))
 have z9 := hb9.size
 clear hb9
 go_wp2_with fail
 refine (markByteS_n U3.heap.size p4 c4 n l en 1 _ (uh X10) (by omega) (by omega) (by omega)).mono ?_
 rintro r u1 ⟨rfl, om, gm⟩
 have hnb : ∀ b, b < U3.heap.size ∨ w4.heap.size ≤ b → some b ≠ (Value.slice p4 n c4).ownBlock := fun b hb e => by have := uh BX4 b e.symm; omega
 have BUm : Hid (Below U3.heap.size U3 u1) := (uh BU9).grown gm (uh BU9).size (fun b e => by have := uh BX4 b e; omega)
 have KG : Hid (∀ b, w4.heap.size ≤ b → b < U6.heap.size → u1.heap[b]? = U6.heap[b]?) := fun b h1 h2 => (gm.block b (by omega) (hnb b (.inr h1))).trans ((uh B69).block b h2)
 have zm := gm.size
 obtain ⟨K, eK⟩ : ∃ K : Int, 1 + (n : Int) = K := ⟨_, rfl⟩
 have hK0 : ¬ K < 0 := by omega
 rw [eK]
 clear gm om hnb eK
 have G9 := hide ((uh G7).keep (w' := u1) (fun a ha => uh KG a.b (uh HLO a ha) (by have := uh HLF a ha; omega)))
 have V9 := hide ((uh HV3).below (uh BUm))
 have J9 := hide ((uh J7).heap (uh KG w6.heap.size (by omega) (by omega)))
 have W9 := hide ((uh W0).below (uh BUm))
 obtain ⟨i0, i1, i2, i3, i4, i5⟩ := uh J9
 obtain ⟨j0, j1, j2, j3, j4, j5⟩ := uh W9
 go_wp2_with fail
 clear i0 i1 i2 i3 i4 i5 j0 j1 j2 j3 j4 j5
 refine (eqState_n e' g' x' t' s6 s7 s3 s4 a6 n' a7 m' a3 a4 ss' ns' EN EM _ (uh G9).rd.1 (uh G9).rd.2 (uh V9).rd.1 (uh V9).rd.2 k1 k2 K3 K4).mono ?_
 rintro r v1 ⟨rfl, hc1⟩
 have BUa := hide (Below.step (uh BUm) hc1)
 have Ga := hide ((uh G9).below hc1)
 have Ja := hide ((uh J9).below hc1)
 have za := hc1.size
 obtain ⟨f1, f2, f3, f4, f5⟩ := uh Ga
 have hDn : D1.length + D2.length ≤ 4194304 := by
  have h1 := LvS.cnt f3
  have h2 := LvN.cnt f4
  have h3 := cnt_le ss' ns'
  have := uh HSD
  omega
 have FG := hide (And.intro f3 (And.intro f4 f5))
 clear hc1 f1 f2 f3 f4 f5
 obtain ⟨i0, i1, i2, i3, i4, i5⟩ := uh Ja
 go_wp2_with fail
 refine (markState_lv e' g' x' t' s6 s7 a6 n' a7 m' ss' ns' D1 D2 1 _ (uh FG).1 (uh FG).2.1 (LvIn.app.1 (uh FG).2.2.inn).1 (LvIn.app.1 (uh FG).2.2.inn).2 (by omega) (by omega)).mono ?_
 rintro r v2 ⟨rfl, mk2⟩
 have BUb : Hid (Below U3.heap.size U3 v2) := (uh BUa).trans (mk2.below (fun a ha => by have := (uh FG).2.2.lo a ha; omega) (by omega))
 have Jb := hide (show St6 v2 w6.heap.size e' g' x' t' (.slice s6 n' a6) (.slice s7 m' a7) from (uh Ja).heap (mk2.blk w6.heap.size (by omega) (fun a ha e => by have := uh HLF a ha; omega)))
 have FG2 := hide (And.intro (LvS.mk (uh FG).1 mk2 (uh FG).2.2.inn) (And.intro (LvN.mk (uh FG).2.1 mk2 (uh FG).2.2.inn) (mk2.held (uh FG).2.2.nd)))
 have zb := mk2.size
 obtain ⟨K2, eK2⟩ : ∃ K : Int, 1 + (D1.length : Int) + (D2.length : Int) = K := ⟨_, rfl⟩
 have hK2 : ¬ K2 < 0 := by omega
 have hK3 : (K2 != K2) = false := by simp
 rw [eK2]
 clear mk2 i0 i1 i2 i3 i4 i5
 obtain ⟨i0, i1, i2, i3, i4, i5⟩ := uh Jb
 go_wp2_with fail
 refine (heldState_lv e' g' x' t' s6 s7 a6 n' a7 m' ss' ns' D1 D2 1 _ (uh FG2).1 (uh FG2).2.1 (uh FG2).2.2 (by omega) (by omega)).mono ?_
 rintro r v3 ⟨rfl, hc3⟩
 rw [eK2]
 have BUc := hide (Below.step (uh BUb) hc3)
 have c3 : Below w.heap.size w v3 := (uh BU).trans ((uh BUc).mono (uh BU).size)
 clear hc3 eK2 i0 i1 i2 i3 i4 i5
 go_wp2_with fail
 refine (toByteS_n p c n l en _ (uh HR _ c3).1 hl).mono ?_
 rintro r v4 ⟨p9, c9, rfl, x9, hc4⟩
 have c4' := Below.step c3 hc4
 have BUd := hide (Below.step (uh BUc) hc4)
 have X11 := hide x9
 clear hc4 x9
 go_wp2_with fail
 refine (implDecS p9 c9 n l en _ (uh X11).rd hb hl (uh X11).cap (uh X11).adrS.1 (uh X11).adrS.2 (uh HR _ c4').2).mono ?_
 rintro r v5 ⟨hres, hc5⟩
 rw [(uh ED).1, (uh ED).2] at hres
 obtain ⟨h6, b6', h7, b7', rfl, oh⟩ := hres
 dsimp only at oh ⊢
 rw [uh EN, uh EM] at oh ⊢
 have c5 := Below.step c4' hc5
 have BUe := hide (Below.step (uh BUd) hc5)
 obtain ⟨v6, hv6⟩ : ∃ U, U = v5.alloc (.cells #[.int .u64 e', .int .u64 g', .int .u64 x', .int .i64 t', .slice h6 n' b6', .slice h7 m' b7'] 27) := ⟨_, rfl⟩
 have bv6 : Below v5.heap.size v5 v6 := by rw [hv6]; exact (Below.refl _ _).alloc (Nat.le_refl _) _
 have BUf := hide (Below.step (uh BUe) bv6)
 have OH := hide (oh.below bv6)
 have Wf := hide ((uh W0).below (uh BUf))
 have Vf := hide ((uh HV3).below (uh BUf))
 have c6 := Below.step c5 bv6
 clear hc5 oh bv6
 obtain ⟨i0, i1, i2, i3, i4, i5⟩ := uh Wf
 rw [hv6] at i0 i1 i2 i3 i4 i5
 go_wp2_with fail
 rw [← hv6]
 clear i0 i1 i2 i3 i4 i5 hv6
 refine (eqState_n e' g' x' t' h6 h7 s3 s4 b6' n' b7' m' a3 a4 ss' ns' EN EM _ (uh OH).rd.1 (uh OH).rd.2 (uh Vf).rd.1 (uh Vf).rd.2 k1 k2 K3 K4).mono ?_
 rintro r v7 ⟨rfl, hc7⟩
 have c7 := Below.step c6 hc7
 clear hc7
 go_wp2
 go_ret
 exact ⟨rfl, c7⟩
set_option maxHeartbeats 400000 in
theorem lawDecS_big (p : Option Addr) (c n : Nat) (w : World) (m0 : n ≤ maxLen) (hl : 1048576 < n) :
  Calls Tryz.prog 3 #[.slice p n c] w fun e w' => e = .returned (.bool true) ∧ Below w.heap.size w w' := by
 unfold maxLen at m0
 have hl' : (1048576 : Int) < (n : Int) := by omega
 go_enter Tryz.func3, Tryz.ntmps3
 go_wp2
 go_ret
 exact ⟨rfl, Below.refl _ _⟩
theorem lawDecS (p : Option Addr) (c : Nat) (l : List Int) (w : World) (h : Rd w (.slice p l.length c) l) (hb : Byt l) (hm : l.length ≤ maxLen) (hML : ML w) :
  Calls Tryz.prog 3 #[.slice p l.length c] w fun e w' => e = .returned (.bool true) ∧ Below w.heap.size w w' := by
 by_cases hl : l.length ≤ 1048576
 ·exact lawDecS_small p c l.length l rfl w h hb hl hML
 ·exact lawDecS_big p c l.length w hm (by omega)
end Go.Proofs.YtnbgnhhnpmmloaaGreatDoor
namespace Go.Proofs.YtnbgnhhnpmmloaaGreatDoor
open Go.ChangeShapes Go.WideShapes Go.ChangeAt Go.RowKit
set_option linter.unusedVariables false
set_option linter.unusedSimpArgs false
namespace dsRow
set_option maxRecDepth 100000 in
theorem lifted (os : Os) (started : os.Started) (H : Type) (enc : TypeId × Value → H) :
  ReturnsInHanded {} Tryz.checked os 3 .any (fun w args => (Rows.fnExactDecodeStateSpec.pre enc Tryz.prog Tryz.f3 Rows.fnExactDecodeStateRow.domain false w args ∧ laidMetH Tryz.prog Rows.fnExactDecodeStateRow.laid w) ∧ sizedMet enc Tryz.prog Tryz.f3 (OpenSpec.ofChange Rows.fnExactDecodeStateSpec) false w args)
   (Rows.fnExactDecodeStateSpec.post enc Tryz.prog Tryz.f3 false true false false) := by
 refine handed_both (C := Tryz.checked) (X := fun w _ => laidMetH Tryz.prog Rows.fnExactDecodeStateRow.laid w) (fun _ _ _ hh h => h.of_heap hh) own started (by kernel_rfl) Tryz.func3
  (ChangeSpec.witness_shaped (enc := enc) (C := Tryz.checked) (os := os) (X := fun w _ => laidMetH Tryz.prog Rows.fnExactDecodeStateRow.laid w) false (World.laidAll Tryz.prog os Rows.fnExactDecodeStateRow.laid) #[.slice none 0 0] 8 (World.laidAll_os _ _ _)
   (World.shaped_of_ZipB (by kernel_rfl) (by kernel_rfl)) (by kernel_rfl) (by kernel_rfl) (by kernel_rfl)
   (by rw [MakeChecks.laidMetH_plain _ _ _ (by kernel_rfl)]; exact laidMet_laidAll _ (by kernel_rfl) (by kernel_rfl))) ?_
 intro W base args ds gs before hval0 hW hL hsh
 have hval : ∀ (j : Nat) t v, Tryz.f3.params[j]? = some t → args[j]? = some v → Value.okWide Tryz.prog W .any base t v := hval0
 have hW' := hW
 obtain ⟨p, q, hA0, hV, rfl, hfz, hnd⟩ := hW
 have hA : DataW.TrodAll enc Tryz.prog W 0 (fun _ => true) true Tryz.f3.params.toList args.toList ds p := hA0
 rw [Tryz.params3] at hA hval
 obtain ⟨v0, vs0, d0, ds0, p0, q0, hargs, rfl, rfl, h0, r0⟩ := trodAll_cons hA
 obtain ⟨rfl, rfl, rfl⟩ := trodAll_nil r0
 obtain rfl : args = #[v0] := by cases args; simp_all
 obtain ⟨rfl, rfl⟩ := trodVars_none hV
 have k0 := h0
 have lt0 : ∀ x ∈ p0, x.block < W.heap.size := by obtain ⟨m, hm⟩ := k0; exact DataW.trod_lt m _ _ _ hm
 obtain ⟨a0, ln0, c0, rfl⟩ := okWide_slice Tryz.underlying22 (hval 0 22 v0 rfl rfl)
 obtain ⟨fu0, hf0⟩ := h0
 obtain ⟨pb0, l0, cb0, ecs0, e0, m0, _, hB0⟩ := Rd.of_trod_cap hf0
 simp [Value.cells] at ecs0
 obtain ⟨rfl, rfl, rfl⟩ := ecs0
 clear hA0 hval0
 refine (lawDecS a0 c0 l0 W e0 hB0 m0 (maxLen_cell hsh)).mono fun r W' ⟨he, bel⟩ => ?_
 subst he
 exact ⟨_, rfl, _, _, _, [], _, [], hW', trodAll_mk1 (shut_bool Tryz.underlying4 _), (trodAll_cons_mk (Below.trod laidOut (by kernel_rfl) (of_decide_eq_true (by kernel_rfl)) k0 bel lt0) trodAll_mk0), rfl, bel.frame _, fun h => by cases h⟩
theorem over : Rows.fnExactDecodeStateRow.holds Tryz.pinned (OpenSpec.ofChange Rows.fnExactDecodeStateSpec) :=
 OpenClaim.holds_of_wide 3 Tryz.f3 rfl rfl rfl rfl rfl rfl rfl ⟨rfl, rfl, rfl, rfl, rfl⟩ rfl rfl rfl rfl rfl (by kernel_rfl) Tryz.func3 (by kernel_rfl)
  (of_decide_eq_true (by kernel_rfl)) (by unfold Func.isWrapper; first | (rw [if_pos (by decide +kernel)]; kernel_rfl) | (rw [if_neg (by decide +kernel)]; exact ⟨rfl, rfl⟩))
  (fun os started H enc _ => lifted os started H enc)
end dsRow
end Go.Proofs.YtnbgnhhnpmmloaaGreatDoor
