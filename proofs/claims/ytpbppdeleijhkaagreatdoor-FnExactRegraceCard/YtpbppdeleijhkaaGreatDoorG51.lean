import Derived.Test.YtpbppdeleijhkaaGreatDoorG0
import Derived.ShutString
import Derived.ChangeOld
import Derived.Below
import Derived.HandedShaped
import Derived.Shelf.Vars
import Derived.LaidMore
import Derived.Lay
import Derived.ProofKit
import Derived.OpenShut
import Derived.Stop.Joined
import Derived.Test.YtpbppdeleijhkaaGreatDoorG45
import Derived.Test.YtpbppdeleijhkaaGreatDoorG50
namespace Go.Proofs.YtpbppdeleijhkaaGreatDoor
open Go.ChangeShapes Go.WideShapes Go.ChangeAt Go.RowKit Go.Deep
set_option linter.unusedVariables false
set_option linter.unusedSimpArgs false
theorem Rd.of_trod {H : Type} {enc : TypeId × Value → H} {w : World} {n : Nat} {cs : List Value} {x : DataW H × List MemPlace} (h : DataW.trod enc Tryz.prog w 0 (fun _ => true) true n 22 cs = some x) :
  ∃ (p : Option Addr) (l : List Int) (c : Nat), cs = [.slice p l.length c] ∧ Rd w (.slice p l.length c) l ∧ l.length ≤ maxLen ∧ (∀ z ∈ l, (Lit.int .u8 z).wf = true) := by
 rcases open_ints Tryz.underlying22 Tryz.underlying5 (by kernel_rfl) h with ⟨rfl, _⟩ | ⟨a, len, cap, zs, rfl, _, hl, hm, hz, _, hcell, hwz⟩
 ·exact ⟨none, [], 0, rfl, Rd.nil w, by simp, by simp⟩
 ·simp only [if_true] at hz
  have e : (zs.take len).length = len := by simp; omega
  refine ⟨some a, zs.take len, cap, by rw [e], ?_, by omega, fun z h => hwz z (List.mem_of_mem_take h)⟩
  refine ⟨some a, cap, rfl, ?_⟩
  by_cases h0 : len = 0
  ·left; subst h0; simp
  ·right
   obtain ⟨b, o, spot⟩ := a
   have hs : spot = none := by simpa [Addr.add] using World.cell?_spot (hcell 0 (by omega))
   subst hs
   refine ⟨b, o, rfl, fun i hi => ?_⟩
   rw [e] at hi
   have := hcell i (by omega)
   simp only [Addr.add_lit] at this
   rw [this]
   simp [List.getD, List.getElem?_take, hi]
theorem Rd.of_trod_cap {H : Type} {enc : TypeId × Value → H} {w : World} {n : Nat} {cs : List Value} {x : DataW H × List MemPlace} (h : DataW.trod enc Tryz.prog w 0 (fun _ => true) true n 22 cs = some x) :
  ∃ (p : Option Addr) (l : List Int) (c : Nat), cs = [.slice p l.length c] ∧ Rd w (.slice p l.length c) l ∧ l.length ≤ maxLen ∧ l.length ≤ c ∧ (∀ z ∈ l, 0 ≤ z ∧ z < 256) := by
 obtain ⟨p, l, c, e, hr, hm, hw⟩ := Rd.of_trod h
 refine ⟨p, l, c, e, hr, hm, ?_, fun z hz => ?_⟩
 ·rcases open_ints Tryz.underlying22 Tryz.underlying5 (by kernel_rfl) h with ⟨rfl, _⟩ | ⟨a, len, cap, zs, rfl, _, hl, _⟩
  ·simp at e; omega
  ·simp at e; omega
 ·have := hw z hz
  simp [Lit.wf, IntKind.min, IntKind.max, IntKind.signed, IntKind.bits] at this
  omega
theorem own : ownKnob Tryz.prog.godebug = none := by kernel_rfl
theorem laidOut : laidOutB Tryz.prog = true := by kernel_rfl
theorem handed_both {H : Type} {enc : TypeId × Value → H} {a : Assume} {C : Checked} {os : Os} {f : FuncId} {fn : Func} {s : ChangeSpec} {conds : List PathCond} {apart fresh handsOn again : Bool} {X : World → Array Value → Prop}
  (hX : ∀ (w w' : World) (args : Array Value), w.heap = w'.heap → X w args → X w' args)
  (own : ownKnob C.prog.godebug = none) (started : os.Started) (noInit : C.prog.inits.idxOf? f = none) (hfn : C.prog.funcs[f]? = some fn)
  (witness : ∃ (w : World) (tape : Tape) (i : Input), w.os = os ∧ (w.forCall tape i).Shaped C.prog ∧ i.vars = [] ∧ Input.okWide C.prog (w.forCall tape i) .any w.heap.size f i ∧
   ((s.pre enc C.prog fn conds apart (w.forCall tape i).memory i.args ∧ X (w.forCall tape i).memory i.args) ∧ sizedMet enc C.prog fn (OpenSpec.ofChange s) apart (w.forCall tape i).memory i.args) ∧ a.holds C.prog (lone (Frame.enter C.prog f i.args .normal) [] (w.forCall tape i)))
  (contract : ∀ (W : World) (base : Nat) (args : Array Value) (ds gs : List (DataW H)) (before : List MemPlace),
   (∀ (j : Nat) t v, fn.params[j]? = some t → args[j]? = some v → Value.okWide C.prog W .any base t v) →
   DataW.Whole enc C.prog fn.params.toList s.vars apart W args.toList ds gs before →
   X W args → W.ShapedOpen C.prog →
   Calls C.prog f args W fun e W' => ∃ v, e = .returned v ∧ s.post enc C.prog fn apart fresh handsOn again W args v W') :
  ReturnsInHanded a C os f .any (fun w args => (s.pre enc C.prog fn conds apart w args ∧ X w args) ∧ sizedMet enc C.prog fn (OpenSpec.ofChange s) apart w args) (s.post enc C.prog fn apart fresh handsOn again) := by
 refine returnsInHanded_of_calls own started noInit witness ?_
 intro w tape i _ hsh _ hok hpre hholds
 obtain ⟨_, _, _, fn', hfn', _, _, _, _, hval⟩ := hok
 have e : fn' = fn := Option.some.inj (hfn'.symm.trans hfn)
 subst e
 obtain ⟨⟨⟨ds, gs, before, hw, hc⟩, hx⟩, hz⟩ := hpre
 refine (contract (w.forCall tape i) w.heap.size i.args ds gs before hval (DataW.Whole.of_heap (w' := w.forCall tape i) (by rfl) hw) (hX _ _ _ (by rfl) hx) hsh).mono fun e W' ⟨v, he, hp⟩ => ?_
 subst he
 exact ChangeSpec.post_blind hp
theorem maxLen_cell {w : World} (h : w.ShapedOpen Tryz.prog) : ∃ m, w.cell? ⟨1, 0, none⟩ = some (.int .i64 m) :=
 cell_of_shapedOpen_int (t := 3) (zero := #[.int .i64 0]) h (of_decide_eq_true (by kernel_rfl)) (by kernel_rfl) rfl (by kernel_rfl) (by kernel_rfl) Tryz.underlying3
end Go.Proofs.YtpbppdeleijhkaaGreatDoor
namespace Go.Proofs.YtpbppdeleijhkaaGreatDoor
open Go.ChangeShapes Go.WideShapes Go.ChangeAt Go.RowKit Go.Maps
set_option linter.unusedVariables false
set_option linter.unusedSimpArgs false
set_option maxRecDepth 100000
theorem sumF_map {α : Type} {F : α → Nat} {f : α → α} (h : ∀ x, F (f x) ≤ F x) (l : List α) : sumF F (l.map f) ≤ sumF F l := by
 induction l with
 | nil => exact Nat.le_refl _
 | cons x l ih => simp only [sumF, List.map_cons, List.sum_cons] at *; have := h x; omega
theorem regSz (e g x t y : Int) (ss : List Ses) (ns : List Nod) : szSt (regD e g x t y ss ns).ss (regD e g x t y ss ns).ns ≤ szSt ss ns := by
 unfold regD
 split
 ·have h1 := sumF_map (F := szSes) (f := sesG y) (fun s => by simp [szSes, sesG, sumF]) ss
  have h2 := sumF_map (F := szNod) (f := nodF) (fun s => by simp [szNod, nodF]) ns
  simp only [szSt, List.length_map]
  omega
 ·exact Nat.zero_le _
set_option maxHeartbeats 3200000 in
theorem lawReg (e g x t y : Int) (p q : Option Addr) (c n d m : Nat) (ss : List Ses) (ns : List Nod) (en : Hid (ss.length = n)) (em : Hid (ns.length = m)) (w : World) (h : RdS w (.slice p n c) ss) (hN : RdN w (.slice q m d) ns) (hn : n ≤ maxLen) (hm : m ≤ maxLen)
  (hb1 : Hid (∀ s ∈ ss, s.2.2.length ≤ maxLen ∧ ∀ e ∈ s.2.2, e.2.length ≤ maxLen ∧ Byt e.2))
  (hb2 : Hid (∀ nd ∈ ns, (nd.path.length ≤ maxLen ∧ nd.value.length ≤ maxLen ∧ nd.holders.length ≤ maxLen ∧ nd.watchers.length ≤ maxLen) ∧ Byt nd.path ∧ (0 ≤ nd.owner ∧ nd.owner < 18446744073709551616) ∧ (∀ i ∈ nd.holders, 0 ≤ i ∧ i < 18446744073709551616) ∧ ∀ i ∈ nd.watchers, 0 ≤ i ∧ i < 18446744073709551616)) (wy : (Lit.int .i64 y).wf = true) (hML : ML w) :
  Calls Tryz.prog 7 #[stV e g x t (.slice p n c) (.slice q m d), .int .i64 y] w fun r w' => r = .returned (.bool true) ∧ Below w.heap.size w w' := by
 have HR := hide fun (w' : World) (hb : Below w.heap.size w w') => And.intro (h.below hb) (And.intro (hN.below hb) (hML.below hb))
 clear h hN hML
 have hy : -9223372036854775808 ≤ y ∧ y < 9223372036854775808 := i64_rng wy
 clear wy
 obtain ⟨N, eN⟩ : ∃ N, Hid (szSt ss ns = N) := ⟨_, (by show _ = _; rfl)⟩
 have he1 : Hid (∀ y ∈ ss, y.2.2.length ≤ maxLen ∧ ∀ e ∈ y.2.2, e.2.length ≤ maxLen) := fun y hy => ⟨(unhide hb1 y hy).1, fun e he => ((unhide hb1 y hy).2 e he).1⟩
 have he2 : Hid (∀ y ∈ ns, y.path.length ≤ maxLen ∧ y.value.length ≤ maxLen ∧ y.holders.length ≤ maxLen ∧ y.watchers.length ≤ maxLen) := fun y hy => (unhide hb2 y hy).1
 obtain ⟨W, hW⟩ : ∃ W, W = (w.alloc (.cells #[.int .u64 e, .int .u64 g, .int .u64 x, .int .i64 t, .slice p n c, .slice q m d] 39)) := ⟨_, rfl⟩
 have bW : Below w.heap.size w W := by rw [hW]; exact (Below.refl _ _).alloc (Nat.le_refl _) _
 have hc6 : St6 W w.heap.size e g x t (.slice p n c) (.slice q m d) := by rw [hW]; simp [St6]
 have HC6 := hide hc6
 go_enter Tryz.func7, Tryz.ntmps7
 go_wp2_with fail
 rw [← hW]
 clear hW hc6
 refine (szState_any e g x t p q c n d m ss ns en em _ (unhide HR _ bW).1 (unhide HR _ bW).2.1 hn hm he1 he2 N eN).mono ?_
 rintro r w1 ⟨rfl, hb1'⟩
 have b1 := Below.step bW hb1'
 have C1 := hide ((unhide HC6).below hb1')
 clear hb1'
 rcases szLeft_cases N 1048576 with ⟨eq, he⟩ | ⟨R, eq, hR, hR2⟩
 ·rw [eq]
  clear eq
  go_wp2
  go_ret
  exact ⟨rfl, b1⟩
 ·have hN : szSt ss ns ≤ 1048576 := by rw [unhide eN]; omega
  obtain ⟨q1, q2, q3, q4⟩ := sz_ses hN
  have HSZ := hide hN
  have hn1 : n ≤ 1048576 := by rw [← unhide en]; exact q1
  have hm1 : m ≤ 1048576 := by rw [← unhide em]; exact q2
  have Q3 := hide q3
  have Q4 := hide q4
  have hR' : ¬ R < 0 := by omega
  rw [eq]
  clear eq hR2 hN q1 q2 q3 q4 hn hm
  have hbs : Hid (∀ s ∈ ss, s.2.2.length ≤ 1048576 ∧ ∀ e ∈ s.2.2, Byt e.2 ∧ e.2.length ≤ 1048576) := fun s hs => ⟨(unhide Q3 s hs).1, fun e he => ⟨((unhide hb1 s hs).2 e he).2, (unhide Q3 s hs).2 e he⟩⟩
  have hby : Hid (∀ nd ∈ ns, Byt nd.path ∧ nd.path.length ≤ 1048576 ∧ nd.value.length ≤ 1048576 ∧ nd.holders.length ≤ 1048576 ∧ nd.watchers.length ≤ 1048576) := fun nd hnd => ⟨(unhide hb2 nd hnd).2.1, unhide Q4 nd hnd⟩
  have hnu : Hid (∀ nd ∈ ns, (∀ i ∈ nd.holders, 0 ≤ i ∧ i < 18446744073709551616) ∧ ∀ i ∈ nd.watchers, 0 ≤ i ∧ i < 18446744073709551616) := fun nd hnd => (unhide hb2 nd hnd).2.2.2
  have hou : Hid (∀ nd ∈ ns, 0 ≤ nd.owner ∧ nd.owner < 18446744073709551616) := fun nd hnd => (unhide hb2 nd hnd).2.2.1
  obtain ⟨⟨e', g', x', t', ss', ns'⟩, eD⟩ : ∃ D, regD e g x t y ss ns = D := ⟨_, rfl⟩
  obtain ⟨cd, eC⟩ : ∃ C, regC e g x t y ss ns = C := ⟨_, rfl⟩
  have hsD : szSt ss' ns' ≤ 1048576 := by
   have := regSz e g x t y ss ns
   rw [eD] at this
   exact Nat.le_trans this (unhide HSZ)
  obtain ⟨k1, k2, k3, k4⟩ := sz_ses hsD
  obtain ⟨n', en'⟩ : ∃ k, ss'.length = k := ⟨_, rfl⟩
  obtain ⟨m', em'⟩ : ∃ k, ns'.length = k := ⟨_, rfl⟩
  rw [en'] at k1
  rw [em'] at k2
  have K3 := hide k3
  have K4 := hide k4
  have HSD := hide hsD
  have ED := hide (And.intro eD eC)
  have EN := hide en'
  have EM := hide em'
  clear k3 k4 hsD eD eC en' em'
  obtain ⟨i0, i1, i2, i3, i4, i5⟩ := unhide C1
  go_wp2_with fail
  refine (toState_ac e g x t p q c n d m ss ns en em _ (unhide HR _ b1).1 (unhide HR _ b1).2.1 hn1 hm1 Q3 Q4).mono ?_
  rintro r w2 ⟨p4, d4, p5, d5, rfl, ab2, hb2'⟩
  have b2 := Below.step b1 hb2'
  have C2 := hide ((unhide C1).below hb2')
  have r2 := ab2.self
  have HR2 := hide r2
  clear i0 i1 i2 i3 i4 i5 hb2' ab2 r2
  go_wp2_with fail
  refine (specReg e g x t y p4 p5 d4 n d5 m ss ns en em _ (unhide HR2).1.rd (unhide HR2).2 hn1 hm1 hbs hby hy).mono ?_
  rintro r w3 ⟨hres, hb3⟩
  rw [(unhide ED).1, (unhide ED).2] at hres
  obtain ⟨s3, a3, s4, a4, rfl, o3⟩ := hres
  dsimp only at o3 ⊢
  rw [unhide EN, unhide EM] at o3 ⊢
  have b3 := Below.step b2 hb3
  have C3 := hide ((unhide C2).below hb3)
  have V3 := hide o3
  clear hb3 o3
  obtain ⟨U3, hU3⟩ : ∃ U, U = w3.alloc (.cells #[.int .u64 e', .int .u64 g', .int .u64 x', .int .i64 t', .slice s3 n' a3, .slice s4 m' a4] 27) := ⟨_, rfl⟩
  have bU3 : Below w3.heap.size w3 U3 := by rw [hU3]; exact (Below.refl _ _).alloc (Nat.le_refl _) _
  have cU3 : St6 U3 w3.heap.size e' g' x' t' (.slice s3 n' a3) (.slice s4 m' a4) := by rw [hU3]; simp [St6]
  have D3 := hide ((unhide C3).below bU3)
  have zU3 : U3.heap.size = w3.heap.size + 1 := by rw [hU3]; simp
  have zz3 : w.heap.size < w3.heap.size := World.block_lt_of_cell? w3 _ (unhide C3).1
  have BU := hide (Below.step b3 bU3)
  have BUU0 := hide (Below.refl U3.heap.size U3)
  have W0 := hide cU3
  have HV3 := hide ((unhide V3).below bU3)
  obtain ⟨i0, i1, i2, i3, i4, i5⟩ := unhide D3
  rw [hU3] at i0 i1 i2 i3 i4 i5
  go_wp2_with fail
  rw [← hU3]
  clear i0 i1 i2 i3 i4 i5 hU3 bU3 cU3
  refine (toState_aw e g x t p q c n d m ss ns en em _ U3.heap.size (Nat.le_refl _) (unhide HR _ (unhide BU)).1 (unhide HR _ (unhide BU)).2.1 hn1 hm1 Q3 Q4).mono ?_
  rintro r w4 ⟨p6, d6, p7, d7, rfl, ab4, hb4⟩
  have b4 := Below.step (unhide BU) hb4
  have C4 := hide ((unhide D3).below hb4)
  have W4 := hide ((unhide W0).below hb4)
  have V4 := hide ((unhide HV3).below hb4)
  have HR4 := hide ab4.self
  have z34 := hb4.size
  have BUU1 := hide hb4
  clear hb4 ab4 BUU0
  go_wp2_with fail
  obtain ⟨Y, hY⟩ : ∃ Y, Y = (w4.alloc (.cells #[.int .u64 e, .int .u64 g, .int .u64 x, .int .i64 t, .slice p6 n d6, .slice p7 m d7] 27)) := ⟨_, rfl⟩
  have bY : Below w4.heap.size w4 Y := by rw [hY]; exact (Below.refl _ _).alloc (Nat.le_refl _) _
  have cY : St6 Y w4.heap.size e g x t (.slice p6 n d6) (.slice p7 m d7) := by rw [hY]; simp [St6]
  have zY : Y.heap.size = w4.heap.size + 1 := by rw [hY]; simp
  rw [← hY]
  have b5 := Below.step b4 bY
  have BUU2 := hide (Below.step (unhide BUU1) bY)
  have C5 := hide ((unhide C4).below bY)
  have W5 := hide ((unhide W4).below bY)
  have V5 := hide ((unhide V4).below bY)
  obtain ⟨A1, A2, l1, l2, l3, l4, l5, l6⟩ := state_lv (unhide HR4).1 (unhide HR4).2
  have hA : A1.length + A2.length ≤ 4194304 := by have := unhide HSZ; omega
  have L5 := hide (And.intro (LvS.below l1 bY) (And.intro (LvN.below l2 bY) (And.intro (l3.below bY) (l4.below bY))))
  have LB := hide l5
  have HR5 := hide (And.intro ((unhide HR4).1.rd.below bY) ((unhide HR4).2.rd.below bY))
  have CY := hide cY
  clear hY bY cY l1 l2 l3 l4 l5 l6
  refine (implReg e g x t y p6 p7 d6 n d7 m ss ns en em _ (unhide HR5).1 (unhide HR5).2 hn1 hm1 hbs hby hnu hou (unhide HR _ b5).2.2 hy).mono ?_
  rintro r w6 ⟨hres, hb6⟩
  rw [(unhide ED).1, (unhide ED).2] at hres
  obtain ⟨s6, a6, s7, a7, rfl, o6⟩ := hres
  dsimp only at o6 ⊢
  rw [unhide EN, unhide EM] at o6 ⊢
  have b6 := Below.step b5 hb6
  have BUU3 := hide (Below.step (unhide BUU2) hb6)
  have C6 := hide ((unhide C5).below hb6)
  have W6 := hide ((unhide W5).below hb6)
  have V6 := hide ((unhide V5).below hb6)
  obtain ⟨D1, D2, o6'⟩ := o6
  have G6 : Hid (StLv Y.heap.size w6 D1 D2 s6 n' a6 s7 m' a7 ss' ns') := o6'
  have HLF := hide fun a ha => o6'.2.2.2.2.inn.lt (a := a) ha
  have HLO := hide o6'.2.2.2.2.lo
  have HR6 := hide (And.intro ((unhide HR5).1.below hb6) ((unhide HR5).2.below hb6))
  have CY6 := hide ((unhide CY).below hb6)
  obtain ⟨y1, y2, y3, y4⟩ := unhide L5
  have L6 := hide (And.intro (LvS.below y1 hb6) (And.intro (LvN.below y2 hb6) (And.intro (y3.below hb6) (y4.below hb6))))
  have z56 := hb6.size
  clear hb6 o6' y1 y2 y3 y4
  obtain ⟨U6, hU6⟩ : ∃ U, U = w6.alloc (.cells #[.int .u64 e', .int .u64 g', .int .u64 x', .int .i64 t', .slice s6 n' a6, .slice s7 m' a7] 27) := ⟨_, rfl⟩
  have bU6 : Below w6.heap.size w6 U6 := by rw [hU6]; exact (Below.refl _ _).alloc (Nat.le_refl _) _
  have cU6 : St6 U6 w6.heap.size e' g' x' t' (.slice s6 n' a6) (.slice s7 m' a7) := by rw [hU6]; simp [St6]
  have zU6 : U6.heap.size = w6.heap.size + 1 := by rw [hU6]; simp
  have b7 := Below.step b6 bU6
  have BUU := hide (Below.step (unhide BUU3) bU6)
  have C7 := hide ((unhide C6).below bU6)
  have W7 := hide ((unhide W6).below bU6)
  have V7 := hide ((unhide V6).below bU6)
  have G7 := hide ((unhide G6).below bU6)
  have J7 := hide cU6
  have HR7 := hide (And.intro ((unhide HR6).1.below bU6) ((unhide HR6).2.below bU6))
  have CY7 := hide ((unhide CY6).below bU6)
  obtain ⟨y1, y2, y3, y4⟩ := unhide L6
  have L7 := hide (And.intro (LvS.below y1 bU6) (And.intro (LvN.below y2 bU6) (And.intro (y3.below bU6) (y4.below bU6))))
  obtain ⟨i0, i1, i2, i3, i4, i5⟩ := unhide W7
  rw [hU6] at i0 i1 i2 i3 i4 i5
  clear y1 y2 y3 y4 cU6 bU6
  have hne : (cd != cd) = false := by simp
  go_wp2_with fail
  rw [← hU6]
  clear i0 i1 i2 i3 i4 i5 hU6
  refine (eqState_n e' g' x' t' s6 s7 s3 s4 a6 n' a7 m' a3 a4 ss' ns' EN EM _ (unhide G7).rd.1 (unhide G7).rd.2 (unhide V7).rd.1 (unhide V7).rd.2 k1 k2 K3 K4).mono ?_
  rintro r w7 ⟨rfl, hb7⟩
  have b8 := Below.step b7 hb7
  have C8 := hide ((unhide C7).below hb7)
  have CY8 := hide ((unhide CY7).below hb7)
  have HR8 := hide (And.intro ((unhide HR7).1.below hb7) ((unhide HR7).2.below hb7))
  have BX8 := hide hb7
  have z78 := hb7.size
  clear hb7
  go_wp2_with fail
  have hcf1 : ∀ (vs : Array Value) (w : World), (callFunc 19 vs).run Tryz.prog w = .ok (.enter 19 vs) w := fun vs w => by kernel_rfl
  have hcf2 : ∀ (vs : Array Value) (w : World), (callFunc 12 vs).run Tryz.prog w = .ok (.enter 12 vs) w := fun vs w => by kernel_rfl
  have HCF := hide (And.intro hcf1 hcf2)
  clear hcf1 hcf2
  refine wp_region_noPanic ?_
  refine wp_region_held_drew (S := fun w' => St6 w' w.heap.size e g x t (.slice p n c) (.slice q m d) ∧ St6 w' w4.heap.size e g x t (.slice p6 n d6) (.slice p7 m d7)) (by kernel_rfl) (by exact ⟨unhide C8, unhide CY8⟩) (fun hS => ?_)
  refine tk 0 hS (h := ?_); simp only [Act.put, xa, xb, xc]
  refine tk 1 hS (h := ?_); simp only [Act.put, xa, xb, xc]
  refine ry [2] ?_
  refine cn (fun KK hK => ?_) ?_
  ·refine step_call1 (by rfl) 19 _ _ (by rfl) (stV e g x t (.slice p n c) (.slice q m d)) (by rfl) (fun _ => (unhide HCF).1 _ _) (toState_ac e g x t p q c n d m ss ns en em _ ((unhide HR _ b8).1.below (Below.refl _ _).drew) ((unhide HR _ b8).2.1.below (Below.refl _ _).drew) hn1 hm1 Q3 Q4) ?_
   rintro r u7 ⟨p8, d8, p9, d9, rfl, ab7, hb7⟩
   refine ⟨_, rfl, ?_⟩
   have hb7' : Below w7.heap.size w7 u7 := Below.step (Below.refl w7.heap.size w7).drew hb7
   have K7 := hide (And.intro ((unhide C8).below hb7') ((unhide CY8).below hb7'))
   have HS7 := hide (And.intro ((unhide HR8).1.below hb7') ((unhide HR8).2.below hb7'))
   have HS8 := hide ab7.self
   have HB7 := hide hb7'
   refine hK.out _ _ (by exact unhide K7) (fun hS => ?_)
   clear hK KK ab7 hb7 hb7'
   (try simp only [Act.put, xa, xb, xc])
   refine ry [3] ?_
   refine cn (fun KK hK => ?_) ?_
   ·refine step_call2 (by rfl) 12 _ _ _ (by rfl) (stV e g x t (.slice p6 n d6) (.slice p7 m d7)) (stV e g x t (.slice p8 n d8) (.slice p9 m d9)) (by rfl) (by rfl) (fun _ => (unhide HCF).2 _ _) (eqState_n e g x t p6 p7 p8 p9 d6 n d7 m d8 d9 ss ns en em _ (unhide HS7).1.rd (unhide HS7).2 (unhide HS8).1.rd (unhide HS8).2 hn1 hm1 Q3 Q4) ?_
    rintro r w8 ⟨rfl, hb8⟩
    refine ⟨_, rfl, ?_⟩
    have hb8' : Below U6.heap.size U6 w8 := Below.step (unhide BX8) (Below.step (unhide HB7) hb8)
    refine hK.out _ _ (by exact ⟨(unhide K7).1.below hb8, (unhide K7).2.below hb8⟩) (fun hS => ?_)
    clear hK KK hb8
    (try simp only [Act.put, xa, xb, xc])
    refine tk 4 hS (h := ?_); simp only [Act.put, xa, xb, xc]
    refine wpAnyH_done (by kernel_rfl) ?_ _
    refine NoPanic.normal ?_
    clear hS
    have c8 := Below.step b7 hb8'
    have CY9 := hide ((unhide CY7).below hb8')
    obtain ⟨y1, y2, y3, y4⟩ := unhide L7
    have L8 := hide (And.intro (LvS.below y1 hb8') (And.intro (LvN.below y2 hb8') (And.intro (y3.below hb8') (y4.below hb8'))))
    have BU8 := hide (Below.step (unhide BUU) hb8')
    have B68 := hide hb8'
    have z68 := hb8'.size
    clear hb8' y1 y2 y3 y4 HB7 K7 HS7 HS8
    obtain ⟨j0, j1, j2, j3, j4, j5⟩ := unhide CY9
    go_wp2_with fail
    clear j0 j1 j2 j3 j4 j5
    refine (markState_lv e g x t p6 p7 d6 n d7 m ss ns A1 A2 1 _ (unhide L8).1 (unhide L8).2.1 (unhide L8).2.2.1 (unhide L8).2.2.2 (by omega) (by omega)).mono ?_
    rintro r w9 ⟨rfl, mk⟩
    have BU9 : Hid (Below U3.heap.size U3 w9) := (unhide BU8).trans (mk.below (fun a ha => (unhide LB a ha).1) (by omega))
    have KG9 : Hid (∀ b, Y.heap.size ≤ b → b < U6.heap.size → w9.heap[b]? = U6.heap[b]?) := fun b h1 h2 => (mk.blk b (by omega) (fun a ha e => by have := (unhide LB a ha).2; omega)).trans ((unhide B68).block b h2)
    have z89 := mk.size
    obtain ⟨K, eK⟩ : ∃ K : Int, 1 + (A1.length : Int) + (A2.length : Int) = K := ⟨_, rfl⟩
    have hK0 : ¬ K < 0 := by omega
    rw [eK]
    clear mk eK
    have G9 := hide ((unhide G7).keep (w' := w9) (fun a ha => unhide KG9 a.b (unhide HLO a ha) (by have := unhide HLF a ha; omega)))
    have V9 := hide ((unhide HV3).below (unhide BU9))
    have J9 := hide ((unhide J7).heap (unhide KG9 w6.heap.size (by omega) (by omega)))
    have W9 := hide ((unhide W0).below (unhide BU9))
    obtain ⟨i0, i1, i2, i3, i4, i5⟩ := unhide J9
    obtain ⟨j0, j1, j2, j3, j4, j5⟩ := unhide W9
    go_wp2_with fail
    clear i0 i1 i2 i3 i4 i5 j0 j1 j2 j3 j4 j5
    refine (eqState_n e' g' x' t' s6 s7 s3 s4 a6 n' a7 m' a3 a4 ss' ns' EN EM _ (unhide G9).rd.1 (unhide G9).rd.2 (unhide V9).rd.1 (unhide V9).rd.2 k1 k2 K3 K4).mono ?_
    rintro r v1 ⟨rfl, hc1⟩
    have BUa := hide (Below.step (unhide BU9) hc1)
    have Ga := hide ((unhide G9).below hc1)
    have Ja := hide ((unhide J9).below hc1)
    have za := hc1.size
    obtain ⟨f1, f2, f3, f4, f5⟩ := unhide Ga
    have hDn : D1.length + D2.length ≤ 4194304 := by
     have h1 := LvS.cnt f3
     have h2 := LvN.cnt f4
     have h3 := cnt_le ss' ns'
     have := unhide HSD
     omega
    have FG := hide (And.intro f3 (And.intro f4 f5))
    clear hc1 f1 f2 f3 f4 f5
    obtain ⟨i0, i1, i2, i3, i4, i5⟩ := unhide Ja
    go_wp2_with fail
    refine (markState_lv e' g' x' t' s6 s7 a6 n' a7 m' ss' ns' D1 D2 1 _ (unhide FG).1 (unhide FG).2.1 (LvIn.app.1 (unhide FG).2.2.inn).1 (LvIn.app.1 (unhide FG).2.2.inn).2 (by omega) (by omega)).mono ?_
    rintro r v2 ⟨rfl, mk2⟩
    have BUb : Hid (Below U3.heap.size U3 v2) := (unhide BUa).trans (mk2.below (fun a ha => by have := (unhide FG).2.2.lo a ha; omega) (by omega))
    have Jb := hide (show St6 v2 w6.heap.size e' g' x' t' (.slice s6 n' a6) (.slice s7 m' a7) from (unhide Ja).heap (mk2.blk w6.heap.size (by omega) (fun a ha e => by have := unhide HLF a ha; omega)))
    have FG2 := hide (And.intro (LvS.mk (unhide FG).1 mk2 (unhide FG).2.2.inn) (And.intro (LvN.mk (unhide FG).2.1 mk2 (unhide FG).2.2.inn) (mk2.held (unhide FG).2.2.nd)))
    have zb := mk2.size
    obtain ⟨K2, eK2⟩ : ∃ K : Int, 1 + (D1.length : Int) + (D2.length : Int) = K := ⟨_, rfl⟩
    have hK2 : ¬ K2 < 0 := by omega
    have hK3 : (K2 != K2) = false := by simp
    rw [eK2]
    clear mk2 i0 i1 i2 i3 i4 i5
    obtain ⟨i0, i1, i2, i3, i4, i5⟩ := unhide Jb
    go_wp2_with fail
    refine (heldState_lv e' g' x' t' s6 s7 a6 n' a7 m' ss' ns' D1 D2 1 _ (unhide FG2).1 (unhide FG2).2.1 (unhide FG2).2.2 (by omega) (by omega)).mono ?_
    rintro r v3 ⟨rfl, hc3⟩
    rw [eK2]
    have BUc := hide (Below.step (unhide BUb) hc3)
    have c3 : Below w.heap.size w v3 := (unhide BU).trans ((unhide BUc).mono (unhide BU).size)
    have Cc := hide ((unhide D3).below (unhide BUc))
    clear hc3 eK2 i0 i1 i2 i3 i4 i5
    obtain ⟨i0, i1, i2, i3, i4, i5⟩ := unhide Cc
    go_wp2_with fail
    clear i0 i1 i2 i3 i4 i5
    refine (toState_ac e g x t p q c n d m ss ns en em _ (unhide HR _ c3).1 (unhide HR _ c3).2.1 hn1 hm1 Q3 Q4).mono ?_
    rintro r v4 ⟨o6, f6, o7, f7, rfl, ab6, hc4⟩
    have c4 := Below.step c3 hc4
    have BUd := hide (Below.step (unhide BUc) hc4)
    have HRx := hide ab6.self
    clear hc4 ab6
    go_wp2_with fail
    refine (implReg e g x t y o6 o7 f6 n f7 m ss ns en em _ (unhide HRx).1 (unhide HRx).2 hn1 hm1 hbs hby hnu hou (unhide HR _ c4).2.2 hy).mono ?_
    rintro r v5 ⟨hres, hc5⟩
    rw [(unhide ED).1, (unhide ED).2] at hres
    obtain ⟨h6, b6', h7, b7', rfl, oh⟩ := hres
    dsimp only at oh ⊢
    rw [unhide EN, unhide EM] at oh ⊢
    have c5 := Below.step c4 hc5
    have BUe := hide (Below.step (unhide BUd) hc5)
    obtain ⟨v6, hv6⟩ : ∃ U, U = v5.alloc (.cells #[.int .u64 e', .int .u64 g', .int .u64 x', .int .i64 t', .slice h6 n' b6', .slice h7 m' b7'] 27) := ⟨_, rfl⟩
    have bv6 : Below v5.heap.size v5 v6 := by rw [hv6]; exact (Below.refl _ _).alloc (Nat.le_refl _) _
    have BUf := hide (Below.step (unhide BUe) bv6)
    have OH := hide (oh.below bv6)
    have Wf := hide ((unhide W0).below (unhide BUf))
    have Vf := hide ((unhide HV3).below (unhide BUf))
    have c6 := Below.step c5 bv6
    clear hc5 oh bv6
    obtain ⟨i0, i1, i2, i3, i4, i5⟩ := unhide Wf
    rw [hv6] at i0 i1 i2 i3 i4 i5
    go_wp2_with fail
    rw [← hv6]
    clear i0 i1 i2 i3 i4 i5 hv6
    refine (eqState_n e' g' x' t' h6 h7 s3 s4 b6' n' b7' m' a3 a4 ss' ns' EN EM _ (unhide OH).rd.1 (unhide OH).rd.2 (unhide Vf).rd.1 (unhide Vf).rd.2 k1 k2 K3 K4).mono ?_
    rintro r v7 ⟨rfl, hc7⟩
    have c7 := Below.step c6 hc7
    clear hc7
    go_wp2
    go_ret
    exact ⟨rfl, c7⟩
   exact AllReadyH.nil
  exact AllReadyH.nil
end Go.Proofs.YtpbppdeleijhkaaGreatDoor
