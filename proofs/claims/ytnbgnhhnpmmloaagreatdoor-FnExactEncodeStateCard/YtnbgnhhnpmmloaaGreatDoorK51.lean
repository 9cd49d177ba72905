import Derived.Test.YtnbgnhhnpmmloaaGreatDoorK0
import Derived.ShutString
import Derived.ChangeOld
import Derived.Below
import Derived.HandedShaped
import Derived.Shelf.Vars
import Derived.LaidMore
import Derived.Lay
import Derived.ProofKit
import Derived.OpenShut
import Derived.Stop.Joined
import Derived.Test.YtnbgnhhnpmmloaaGreatDoorK42
import Derived.Test.YtnbgnhhnpmmloaaGreatDoorK44
import Derived.Test.YtnbgnhhnpmmloaaGreatDoorK50
namespace Go.Proofs.YtnbgnhhnpmmloaaGreatDoor
open Go.ChangeShapes Go.WideShapes Go.ChangeAt Go.RowKit Go.Deep
set_option linter.unusedVariables false
set_option linter.unusedSimpArgs false
theorem Rd.of_trod {H : Type} {enc : TypeId × Value → H} {w : World} {n : Nat} {cs : List Value} {x : DataW H × List MemPlace} (h : DataW.trod enc Tryz.prog w 0 (fun _ => true) true n 22 cs = some x) :
  ∃ (p : Option Addr) (l : List Int) (c : Nat), cs = [.slice p l.length c] ∧ Rd w (.slice p l.length c) l ∧ l.length ≤ maxLen ∧ (∀ z ∈ l, (Lit.int .u8 z).wf = true) := by
 rcases open_ints Tryz.underlying22 Tryz.underlying5 (by kernel_rfl) h with ⟨rfl, _⟩ | ⟨a, len, cap, zs, rfl, _, hl, hm, hz, _, hcell, hwz⟩
 ·exact ⟨none, [], 0, rfl, Rd.nil w, by simp, by simp⟩
 ·simp only [if_true] at hz
  have e : (zs.take len).length = len := by simp; omega
  refine ⟨some a, zs.take len, cap, by rw [e], ?_, by omega, fun z h => hwz z (List.mem_of_mem_take h)⟩
  refine ⟨some a, cap, rfl, ?_⟩
  by_cases h0 : len = 0
  ·left; subst h0; simp
  ·right
   obtain ⟨b, o, spot⟩ := a
   have hs : spot = none := by simpa [Addr.add] using World.cell?_spot (hcell 0 (by omega))
   subst hs
   refine ⟨b, o, rfl, fun i hi => ?_⟩
   rw [e] at hi
   have := hcell i (by omega)
   simp only [Addr.add_lit] at this
   rw [this]
   simp [List.getD, List.getElem?_take, hi]
theorem Rd.of_trod_cap {H : Type} {enc : TypeId × Value → H} {w : World} {n : Nat} {cs : List Value} {x : DataW H × List MemPlace} (h : DataW.trod enc Tryz.prog w 0 (fun _ => true) true n 22 cs = some x) :
  ∃ (p : Option Addr) (l : List Int) (c : Nat), cs = [.slice p l.length c] ∧ Rd w (.slice p l.length c) l ∧ l.length ≤ maxLen ∧ l.length ≤ c ∧ (∀ z ∈ l, 0 ≤ z ∧ z < 256) := by
 obtain ⟨p, l, c, e, hr, hm, hw⟩ := Rd.of_trod h
 refine ⟨p, l, c, e, hr, hm, ?_, fun z hz => ?_⟩
 ·rcases open_ints Tryz.underlying22 Tryz.underlying5 (by kernel_rfl) h with ⟨rfl, _⟩ | ⟨a, len, cap, zs, rfl, _, hl, _⟩
  ·simp at e; omega
  ·simp at e; omega
 ·have := hw z hz
  simp [Lit.wf, IntKind.min, IntKind.max, IntKind.signed, IntKind.bits] at this
  omega
theorem own : ownKnob Tryz.prog.godebug = none := by kernel_rfl
theorem laidOut : laidOutB Tryz.prog = true := by kernel_rfl
theorem handed_both {H : Type} {enc : TypeId × Value → H} {a : Assume} {C : Checked} {os : Os} {f : FuncId} {fn : Func} {s : ChangeSpec} {conds : List PathCond} {apart fresh handsOn again : Bool} {X : World → Array Value → Prop}
  (hX : ∀ (w w' : World) (args : Array Value), w.heap = w'.heap → X w args → X w' args)
  (own : ownKnob C.prog.godebug = none) (started : os.Started) (noInit : C.prog.inits.idxOf? f = none) (hfn : C.prog.funcs[f]? = some fn)
  (witness : ∃ (w : World) (tape : Tape) (i : Input), w.os = os ∧ (w.forCall tape i).Shaped C.prog ∧ i.vars = [] ∧ Input.okWide C.prog (w.forCall tape i) .any w.heap.size f i ∧
   ((s.pre enc C.prog fn conds apart (w.forCall tape i).memory i.args ∧ X (w.forCall tape i).memory i.args) ∧ sizedMet enc C.prog fn (OpenSpec.ofChange s) apart (w.forCall tape i).memory i.args) ∧ a.holds C.prog (lone (Frame.enter C.prog f i.args .normal) [] (w.forCall tape i)))
  (contract : ∀ (W : World) (base : Nat) (args : Array Value) (ds gs : List (DataW H)) (before : List MemPlace),
   (∀ (j : Nat) t v, fn.params[j]? = some t → args[j]? = some v → Value.okWide C.prog W .any base t v) →
   DataW.Whole enc C.prog fn.params.toList s.vars apart W args.toList ds gs before →
   X W args → W.ShapedOpen C.prog →
   Calls C.prog f args W fun e W' => ∃ v, e = .returned v ∧ s.post enc C.prog fn apart fresh handsOn again W args v W') :
  ReturnsInHanded a C os f .any (fun w args => (s.pre enc C.prog fn conds apart w args ∧ X w args) ∧ sizedMet enc C.prog fn (OpenSpec.ofChange s) apart w args) (s.post enc C.prog fn apart fresh handsOn again) := by
 refine returnsInHanded_of_calls own started noInit witness ?_
 intro w tape i _ hsh _ hok hpre hholds
 obtain ⟨_, _, _, fn', hfn', _, _, _, _, hval⟩ := hok
 have e : fn' = fn := Option.some.inj (hfn'.symm.trans hfn)
 subst e
 obtain ⟨⟨⟨ds, gs, before, hw, hc⟩, hx⟩, hz⟩ := hpre
 refine (contract (w.forCall tape i) w.heap.size i.args ds gs before hval (DataW.Whole.of_heap (w' := w.forCall tape i) (by rfl) hw) (hX _ _ _ (by rfl) hx) hsh).mono fun e W' ⟨v, he, hp⟩ => ?_
 subst he
 exact ChangeSpec.post_blind hp
theorem maxLen_cell {w : World} (h : w.ShapedOpen Tryz.prog) : ∃ m, w.cell? ⟨1, 0, none⟩ = some (.int .i64 m) :=
 cell_of_shapedOpen_int (t := 3) (zero := #[.int .i64 0]) h (of_decide_eq_true (by kernel_rfl)) (by kernel_rfl) rfl (by kernel_rfl) (by kernel_rfl) Tryz.underlying3
end Go.Proofs.YtnbgnhhnpmmloaaGreatDoor
namespace Go.Proofs.YtnbgnhhnpmmloaaGreatDoor
open Go.ChangeShapes Go.WideShapes Go.ChangeAt Go.RowKit
set_option linter.unusedVariables false
set_option linter.unusedSimpArgs false
set_option maxRecDepth 100000
theorem Own.keepB {B : Nat} {w w' : World} {v : Value} {l : List Int} (h : Own B w v l) (hk : ∀ b, v.ownBlock = some b → w'.heap[b]? = w.heap[b]?) : Own B w' v l := by
 refine ⟨h.1, ?_⟩
 rcases h.2 with hn | ⟨g, cap, cur, rfl, hb, hg, rest⟩
 ·exact .inl hn
 ·exact .inr ⟨g, cap, cur, rfl, hb, (hk g rfl).trans hg, rest⟩
set_option maxHeartbeats 3200000 in
theorem lawEnc (e g x t : Int) (p q : Option Addr) (c n d m : Nat) (ss : List Ses) (ns : List Nod) (en : Hid (ss.length = n)) (em : Hid (ns.length = m)) (w : World) (h : RdS w (.slice p n c) ss) (hN : RdN w (.slice q m d) ns) (hn : n ≤ maxLen) (hm : m ≤ maxLen)
  (hb1 : Hid (∀ s ∈ ss, s.2.2.length ≤ maxLen ∧ ∀ e ∈ s.2.2, e.2.length ≤ maxLen ∧ Byt e.2))
  (hb2 : Hid (∀ nd ∈ ns, (nd.path.length ≤ maxLen ∧ nd.value.length ≤ maxLen ∧ nd.holders.length ≤ maxLen ∧ nd.watchers.length ≤ maxLen) ∧ Byt nd.path ∧ (0 ≤ nd.owner ∧ nd.owner < 18446744073709551616) ∧ (∀ i ∈ nd.holders, 0 ≤ i ∧ i < 18446744073709551616) ∧ ∀ i ∈ nd.watchers, 0 ≤ i ∧ i < 18446744073709551616)) (hep : Hid (∀ nd ∈ ns, (0 ≤ nd.epoch ∧ nd.epoch < 18446744073709551616) ∧ 0 ≤ nd.gen ∧ nd.gen < 18446744073709551616)) (ke : 0 ≤ e ∧ e < 18446744073709551616) (kg : 0 ≤ g ∧ g < 18446744073709551616) (kx : 0 ≤ x ∧ x < 18446744073709551616) (hML : ML w) :
  Calls Tryz.prog 4 #[stV e g x t (.slice p n c) (.slice q m d)] w fun r w' => r = .returned (.bool true) ∧ Below w.heap.size w w' := by
 have HR := hide fun (w' : World) (hb : Below w.heap.size w w') => And.intro (h.below hb) (And.intro (hN.below hb) (hML.below hb))
 clear h hN hML
 obtain ⟨e, rfl⟩ : ∃ v : Nat, e = (v : Int) := ⟨e.toNat, by omega⟩
 obtain ⟨g, rfl⟩ : ∃ v : Nat, g = (v : Int) := ⟨g.toNat, by omega⟩
 obtain ⟨x, rfl⟩ : ∃ v : Nat, x = (v : Int) := ⟨x.toNat, by omega⟩
 have he : e < 18446744073709551616 := by omega
 have hg : g < 18446744073709551616 := by omega
 have hx : x < 18446744073709551616 := by omega
 clear ke kg kx
 obtain ⟨N, eN⟩ : ∃ N, Hid (szSt ss ns = N) := ⟨_, (by show _ = _; rfl)⟩
 have he1 : Hid (∀ y ∈ ss, y.2.2.length ≤ maxLen ∧ ∀ e ∈ y.2.2, e.2.length ≤ maxLen) := fun y hy => ⟨(unhide hb1 y hy).1, fun e he => ((unhide hb1 y hy).2 e he).1⟩
 have he2 : Hid (∀ y ∈ ns, y.path.length ≤ maxLen ∧ y.value.length ≤ maxLen ∧ y.holders.length ≤ maxLen ∧ y.watchers.length ≤ maxLen) := fun y hy => (unhide hb2 y hy).1
 obtain ⟨W, hW⟩ : ∃ W, W = (w.alloc (.cells #[.int .u64 e, .int .u64 g, .int .u64 x, .int .i64 t, .slice p n c, .slice q m d] 39)) := ⟨_, rfl⟩
 have bW : Below w.heap.size w W := by rw [hW]; exact (Below.refl _ _).alloc (Nat.le_refl _) _
 have hc6 : St6 W w.heap.size e g x t (.slice p n c) (.slice q m d) := by rw [hW]; simp [St6]
 have HC6 := hide hc6
 go_enter Tryz.func4, Tryz.ntmps4
 go_wp2_with fail
 rw [← hW]
 clear hW hc6
 refine (szState_any e g x t p q c n d m ss ns en em _ (unhide HR _ bW).1 (unhide HR _ bW).2.1 hn hm he1 he2 N eN).mono ?_
 rintro r w1 ⟨rfl, hb1'⟩
 have b1 := Below.step bW hb1'
 have C1 := hide ((unhide HC6).below hb1')
 clear hb1'
 rcases szLeft_cases N 1048576 with ⟨eq, he⟩ | ⟨R, eq, hR, hR2⟩
 ·rw [eq]
  clear eq
  go_wp2
  go_ret
  exact ⟨rfl, b1⟩
 ·have hN : szSt ss ns ≤ 1048576 := by rw [unhide eN]; omega
  obtain ⟨q1, q2, q3, q4⟩ := sz_ses hN
  have HSZ := hide hN
  have hn1 : n ≤ 1048576 := by rw [← unhide en]; exact q1
  have hm1 : m ≤ 1048576 := by rw [← unhide em]; exact q2
  have Q3 := hide q3
  have Q4 := hide q4
  have hR' : ¬ R < 0 := by omega
  rw [eq]
  clear eq hR2 hN q1 q2 q3 q4 hn hm
  have hbs : Hid (∀ s ∈ ss, s.2.2.length ≤ 1048576 ∧ ∀ e ∈ s.2.2, Byt e.2 ∧ e.2.length ≤ 1048576) := fun s hs => ⟨(unhide Q3 s hs).1, fun e he => ⟨((unhide hb1 s hs).2 e he).2, (unhide Q3 s hs).2 e he⟩⟩
  have hby : Hid (∀ nd ∈ ns, Byt nd.path ∧ nd.path.length ≤ 1048576 ∧ nd.value.length ≤ 1048576 ∧ nd.holders.length ≤ 1048576 ∧ nd.watchers.length ≤ 1048576) := fun nd hnd => ⟨(unhide hb2 nd hnd).2.1, unhide Q4 nd hnd⟩
  have hnu : Hid (∀ nd ∈ ns, (∀ i ∈ nd.holders, 0 ≤ i ∧ i < 18446744073709551616) ∧ ∀ i ∈ nd.watchers, 0 ≤ i ∧ i < 18446744073709551616) := fun nd hnd => (unhide hb2 nd hnd).2.2.2
  have hou : Hid (∀ nd ∈ ns, 0 ≤ nd.owner ∧ nd.owner < 18446744073709551616) := fun nd hnd => (unhide hb2 nd hnd).2.2.1
  obtain ⟨RL, ERL⟩ : ∃ L, Hid (encR e g x t ss ns = L) := ⟨_, (by show _ = _; rfl)⟩
  obtain ⟨rn, ERN⟩ : ∃ k, Hid (RL.length = k) := ⟨_, (by show _ = _; rfl)⟩
  have hrn : rn ≤ 200000 := by
   rw [← unhide ERN, ← unhide ERL, encR]
   split
   ·next hok => exact (stB_len (sml_of hok (unhide hnu) (unhide hou) (unhide hep))).1
   ·simp
  obtain ⟨i0, i1, i2, i3, i4, i5⟩ := unhide C1
  go_wp2_with fail
  refine (toState_ac e g x t p q c n d m ss ns en em _ (unhide HR _ b1).1 (unhide HR _ b1).2.1 hn1 hm1 Q3 Q4).mono ?_
  rintro r w2 ⟨p4, d4, p5, d5, rfl, ab2, hb2'⟩
  have b2 := Below.step b1 hb2'
  have C2 := hide ((unhide C1).below hb2')
  have r2 := ab2.self
  have HR2 := hide r2
  clear i0 i1 i2 i3 i4 i5 hb2' ab2 r2
  go_wp2_with fail
  refine (specEnc e g x t he hg hx p4 p5 d4 n d5 m ss ns en em _ (unhide HR2).1.rd (unhide HR2).2 hn1 hm1 hbs hby hnu hou hep RL ERL rn ERN).mono ?_
  rintro r w3 ⟨s3, a3, rfl, o3, hb3⟩
  have b3 := Below.step b2 hb3
  have C3 := hide ((unhide C2).below hb3)
  have V3 := hide o3
  have BV := hide fun b hb => (o3.lt b hb).2
  have zz3 : w.heap.size < w3.heap.size := World.block_lt_of_cell? w3 _ (unhide C3).1
  clear hb3 o3
  obtain ⟨i0, i1, i2, i3, i4, i5⟩ := unhide C3
  go_wp2_with fail
  refine (toState_aw e g x t p q c n d m ss ns en em _ w3.heap.size (Nat.le_refl _) (unhide HR _ b3).1 (unhide HR _ b3).2.1 hn1 hm1 Q3 Q4).mono ?_
  rintro r w4 ⟨p6, d6, p7, d7, rfl, ab4, hb4⟩
  have b4 := Below.step b3 hb4
  have C4 := hide ((unhide C3).below hb4)
  have V4 := hide (Own.below (unhide V3) hb4)
  have HR4 := hide ab4.self
  have z34 := hb4.size
  clear i0 i1 i2 i3 i4 i5 hb4 ab4
  go_wp2_with fail
  obtain ⟨Y, hY⟩ : ∃ Y, Y = (w4.alloc (.cells #[.int .u64 e, .int .u64 g, .int .u64 x, .int .i64 t, .slice p6 n d6, .slice p7 m d7] 27)) := ⟨_, rfl⟩
  have bY : Below w4.heap.size w4 Y := by rw [hY]; exact (Below.refl _ _).alloc (Nat.le_refl _) _
  have cY : St6 Y w4.heap.size e g x t (.slice p6 n d6) (.slice p7 m d7) := by rw [hY]; simp [St6]
  have zY : Y.heap.size = w4.heap.size + 1 := by rw [hY]; simp
  rw [← hY]
  have b5 := Below.step b4 bY
  have C5 := hide ((unhide C4).below bY)
  have V5 := hide (Own.below (unhide V4) bY)
  obtain ⟨A1, A2, l1, l2, l3, l4, l5, l6⟩ := state_lv (unhide HR4).1 (unhide HR4).2
  have hA : A1.length + A2.length ≤ 4194304 := by have := unhide HSZ; omega
  have L5 := hide (And.intro (LvS.below l1 bY) (And.intro (LvN.below l2 bY) (And.intro (l3.below bY) (l4.below bY))))
  have LB := hide l5
  have HR5 := hide (And.intro ((unhide HR4).1.rd.below bY) ((unhide HR4).2.rd.below bY))
  have CY := hide cY
  clear hY bY cY l1 l2 l3 l4 l5 l6
  refine (implEnc e g x t he hg hx p6 p7 d6 n d7 m ss ns en em _ (unhide HR5).1 (unhide HR5).2 hn1 hm1 hbs hby hnu hou hep (unhide HR _ b5).2.2 RL ERL rn ERN).mono ?_
  rintro r w6 ⟨s6, a6, rfl, o6, hb6⟩
  have b6 := Below.step b5 hb6
  have C6 := hide ((unhide C5).below hb6)
  have V6 := hide (Own.below (unhide V5) hb6)
  have G6 := hide o6
  have BG := hide fun b hb => (o6.lt b hb).1
  have HR6 := hide (And.intro ((unhide HR5).1.below hb6) ((unhide HR5).2.below hb6))
  have CY6 := hide ((unhide CY).below hb6)
  obtain ⟨y1, y2, y3, y4⟩ := unhide L5
  have L6 := hide (And.intro (LvS.below y1 hb6) (And.intro (LvN.below y2 hb6) (And.intro (y3.below hb6) (y4.below hb6))))
  have z56 := hb6.size
  clear hb6 o6 y1 y2 y3 y4
  go_wp2_with fail
  refine (eqByteS_n s6 s3 a6 a3 rn RL ERN _ (unhide G6).rd (unhide V6).rd (by omega)).mono ?_
  rintro r w7 ⟨rfl, hb7⟩
  have b7 := Below.step b6 hb7
  have C7 := hide ((unhide C6).below hb7)
  have V7 := hide (Own.below (unhide V6) hb7)
  have G7 := hide (Own.below (unhide G6) hb7)
  have HR7 := hide (And.intro ((unhide HR6).1.below hb7) ((unhide HR6).2.below hb7))
  have CY7 := hide ((unhide CY6).below hb7)
  obtain ⟨y1, y2, y3, y4⟩ := unhide L6
  have L7 := hide (And.intro (LvS.below y1 hb7) (And.intro (LvN.below y2 hb7) (And.intro (y3.below hb7) (y4.below hb7))))
  have z67 := hb7.size
  clear hb7 y1 y2 y3 y4
  go_wp2_with fail
  have hcf1 : ∀ (vs : Array Value) (w : World), (callFunc 16 vs).run Tryz.prog w = .ok (.enter 16 vs) w := fun vs w => by kernel_rfl
  have hcf2 : ∀ (vs : Array Value) (w : World), (callFunc 9 vs).run Tryz.prog w = .ok (.enter 9 vs) w := fun vs w => by kernel_rfl
  have HCF := hide (And.intro hcf1 hcf2)
  clear hcf1 hcf2
  refine wp_region_noPanic ?_
  refine wp_region_held_drew (S := fun w' => St6 w' w.heap.size e g x t (.slice p n c) (.slice q m d) ∧ St6 w' w4.heap.size e g x t (.slice p6 n d6) (.slice p7 m d7)) (by kernel_rfl) (by exact ⟨unhide C7, unhide CY7⟩) (fun hS => ?_)
  refine tk 0 hS (h := ?_); simp only [Act.put, xa, xb, xc]
  refine tk 1 hS (h := ?_); simp only [Act.put, xa, xb, xc]
  refine ry [2] ?_
  refine cn (fun KK hK => ?_) ?_
  ·refine step_call1 (by rfl) 16 _ _ (by rfl) (stV e g x t (.slice p n c) (.slice q m d)) (by rfl) (fun _ => (unhide HCF).1 _ _) (toState_ac e g x t p q c n d m ss ns en em _ ((unhide HR _ b7).1.below (Below.refl _ _).drew) ((unhide HR _ b7).2.1.below (Below.refl _ _).drew) hn1 hm1 Q3 Q4) ?_
   rintro r u7 ⟨p8, d8, p9, d9, rfl, ab7, hb7⟩
   refine ⟨_, rfl, ?_⟩
   have hb7' : Below w7.heap.size w7 u7 := Below.step (Below.refl w7.heap.size w7).drew hb7
   have K7 := hide (And.intro ((unhide C7).below hb7') ((unhide CY7).below hb7'))
   have HS7 := hide (And.intro ((unhide HR7).1.below hb7') ((unhide HR7).2.below hb7'))
   have HS8 := hide ab7.self
   have HB7 := hide hb7'
   refine hK.out _ _ (by exact unhide K7) (fun hS => ?_)
   clear hK KK ab7 hb7 hb7'
   (try simp only [Act.put, xa, xb, xc])
   refine ry [3] ?_
   refine cn (fun KK hK => ?_) ?_
   ·refine step_call2 (by rfl) 9 _ _ _ (by rfl) (stV e g x t (.slice p6 n d6) (.slice p7 m d7)) (stV e g x t (.slice p8 n d8) (.slice p9 m d9)) (by rfl) (by rfl) (fun _ => (unhide HCF).2 _ _) (eqState_n e g x t p6 p7 p8 p9 d6 n d7 m d8 d9 ss ns en em _ (unhide HS7).1.rd (unhide HS7).2 (unhide HS8).1.rd (unhide HS8).2 hn1 hm1 Q3 Q4) ?_
    rintro r w8 ⟨rfl, hb8⟩
    refine ⟨_, rfl, ?_⟩
    have hb8' : Below w7.heap.size w7 w8 := Below.step (unhide HB7) hb8
    refine hK.out _ _ (by exact ⟨(unhide K7).1.below hb8, (unhide K7).2.below hb8⟩) (fun hS => ?_)
    clear hK KK hb8
    (try simp only [Act.put, xa, xb, xc])
    refine tk 4 hS (h := ?_); simp only [Act.put, xa, xb, xc]
    refine wpAnyH_done (by kernel_rfl) ?_ _
    refine NoPanic.normal ?_
    clear hS
    have b8 := Below.step b7 hb8'
    have C8 := hide ((unhide C7).below hb8')
    have V8 := hide (Own.below (unhide V7) hb8')
    have G8 := hide (Own.below (unhide G7) hb8')
    have CY8 := hide ((unhide CY7).below hb8')
    obtain ⟨y1, y2, y3, y4⟩ := unhide L7
    have L8 := hide (And.intro (LvS.below y1 hb8') (And.intro (LvN.below y2 hb8') (And.intro (y3.below hb8') (y4.below hb8'))))
    have z78 := hb8'.size
    clear hb8' y1 y2 y3 y4 HB7 K7 HS7 HS8
    obtain ⟨j0, j1, j2, j3, j4, j5⟩ := unhide CY8
    go_wp2_with fail
    clear j0 j1 j2 j3 j4 j5
    refine (markState_lv e g x t p6 p7 d6 n d7 m ss ns A1 A2 1 _ (unhide L8).1 (unhide L8).2.1 (unhide L8).2.2.1 (unhide L8).2.2.2 (by omega) (by omega)).mono ?_
    rintro r w9 ⟨rfl, mk⟩
    have z3 := b3.size
    have b9 : Below w.heap.size w w9 := b8.trans ((mk.below (fun a ha => (unhide LB a ha).1) (by omega)).mono z3)
    have C9 : Hid (St6 w9 w.heap.size e g x t (.slice p n c) (.slice q m d)) := (unhide C8).heap (mk.blk w.heap.size (by omega) (fun a ha e => by have := (unhide LB a ha).1; omega))
    have V9 : Hid (Own w2.heap.size w9 (.slice s3 rn a3) RL) := Own.keepB (unhide V8) (fun b hb => mk.blk b (by have := unhide BV b hb; omega) (fun a ha e => by have := unhide BV b hb; have := (unhide LB a ha).1; omega))
    have G9 : Hid (Own Y.heap.size w9 (.slice s6 rn a6) RL) := Own.keepB (unhide G8) (fun b hb => mk.blk b ((unhide G8).lt b hb).2 (fun a ha e => by have := unhide BG b hb; have := (unhide LB a ha).2; omega))
    have z89 := mk.size
    obtain ⟨K, eK⟩ : ∃ K : Int, 1 + (A1.length : Int) + (A2.length : Int) = K := ⟨_, rfl⟩
    have hK0 : ¬ K < 0 := by omega
    rw [eK]
    clear mk eK
    go_wp2_with fail
    refine (eqByteS_n s6 s3 a6 a3 rn RL ERN _ (unhide G9).rd (unhide V9).rd (by omega)).mono ?_
    rintro r u1 ⟨rfl, hc1⟩
    have c1 := Below.step b9 hc1
    have C10 := hide ((unhide C9).below hc1)
    have V10 := hide (Own.below (unhide V9) hc1)
    have G10 := hide (Own.below (unhide G9) hc1)
    have z10 := hc1.size
    clear hc1
    go_wp2_with fail
    refine (markByteS_n Y.heap.size s6 a6 rn RL ERN 1 _ (unhide G10) (by omega) (by omega) (by omega)).mono ?_
    rintro r u2 ⟨rfl, om, gm⟩
    have hne : ∀ b, b < Y.heap.size → some b ≠ (Value.slice s6 rn a6).ownBlock := fun b hb e => by have := ((unhide G10).lt b e.symm).1; omega
    have c2 : Below w.heap.size w u2 := below_grown c1 gm (unhide G10) (by omega) c1.size
    have C11 : Hid (St6 u2 w.heap.size e g x t (.slice p n c) (.slice q m d)) := (unhide C10).heap (gm.block w.heap.size (by omega) (hne _ (by omega)))
    have V11 : Hid (Own w2.heap.size u2 (.slice s3 rn a3) RL) := Own.keepB (unhide V10) (fun b hb => gm.block b ((unhide V10).lt b hb).2 (hne _ (by have := unhide BV b hb; omega)))
    have H11 := hide om.rd
    have z11 := gm.size
    obtain ⟨K2, eK2⟩ : ∃ K : Int, 1 + (rn : Int) = K := ⟨_, rfl⟩
    have hK2 : ¬ K2 < 0 := by omega
    have hK3 : (K2 != K2) = false := by simp
    rw [eK2]
    clear gm om hne
    go_wp2_with fail
    refine (heldByteS_any s6 a6 rn 1 _ (unhide H11) (by omega) (by omega) (by omega)).mono ?_
    rintro r u3 ⟨rfl, hc3⟩
    rw [eK2]
    have c3 := Below.step c2 hc3
    have C12 := hide ((unhide C11).below hc3)
    have V12 := hide (Own.below (unhide V11) hc3)
    clear hc3 eK2
    obtain ⟨i0, i1, i2, i3, i4, i5⟩ := unhide C12
    go_wp2_with fail
    clear i0 i1 i2 i3 i4 i5
    refine (toState_ac e g x t p q c n d m ss ns en em _ (unhide HR _ c3).1 (unhide HR _ c3).2.1 hn1 hm1 Q3 Q4).mono ?_
    rintro r u4 ⟨o6, f6, o7, f7, rfl, ab6, hc4⟩
    have c4 := Below.step c3 hc4
    have V13 := hide (Own.below (unhide V12) hc4)
    have HRx := hide ab6.self
    clear hc4 ab6
    go_wp2_with fail
    refine (implEnc e g x t he hg hx o6 o7 f6 n f7 m ss ns en em _ (unhide HRx).1 (unhide HRx).2 hn1 hm1 hbs hby hnu hou hep (unhide HR _ c4).2.2 RL ERL rn ERN).mono ?_
    rintro r u5 ⟨sh, ah, rfl, oh, hc5⟩
    have c5 := Below.step c4 hc5
    have V14 := hide (Own.below (unhide V13) hc5)
    have OH := hide oh
    clear hc5 oh
    go_wp2_with fail
    refine (eqByteS_n sh s3 ah a3 rn RL ERN _ (unhide OH).rd (unhide V14).rd (by omega)).mono ?_
    rintro r u6 ⟨rfl, hc6⟩
    have c6 := Below.step c5 hc6
    clear hc6
    go_wp2
    go_ret
    exact ⟨rfl, c6⟩
   exact AllReadyH.nil
  exact AllReadyH.nil
end Go.Proofs.YtnbgnhhnpmmloaaGreatDoor
