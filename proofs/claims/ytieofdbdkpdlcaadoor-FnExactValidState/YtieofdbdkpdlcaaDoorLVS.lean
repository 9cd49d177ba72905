import Derived.Test.YtieofdbdkpdlcaaDoorVMa
import Derived.Test.YtieofdbdkpdlcaaDoorLSz
import Derived.Test.YtieofdbdkpdlcaaDoorLEq
import Derived.Test.YtieofdbdkpdlcaaDoorLTt
namespace Go.Proofs.YtieofdbdkpdlcaaDoor
open Go.ChangeShapes Go.WideShapes Go.ChangeAt Go.RowKit
set_option linter.unusedVariables false
set_option linter.unusedSimpArgs false
set_option maxRecDepth 100000

theorem sumF_mem {α : Type} (F : α → Nat) {l : List α} {y : α} (h : y ∈ l) : F y ≤ sumF F l := by
  induction l with
  | nil => cases h
  | cons z l ih =>
    have e : sumF F (z :: l) = F z + sumF F l := by simp [sumF]
    rcases List.mem_cons.1 h with rfl | h
    · omega
    · have := ih h; omega
theorem sz_ses {ss : List Ses} {ns : List Nod} (h : szSt ss ns ≤ 1048576) : ss.length ≤ 1048576 ∧ ns.length ≤ 1048576 ∧ (∀ s ∈ ss, s.2.2.length ≤ 1048576 ∧ ∀ e ∈ s.2.2, e.2.length ≤ 1048576) ∧ ∀ nd ∈ ns, nd.path.length ≤ 1048576 ∧ nd.value.length ≤ 1048576 ∧ nd.holders.length ≤ 1048576 ∧ nd.watchers.length ≤ 1048576 := by
  unfold szSt at h
  refine ⟨by omega, by omega, fun s hs => ?_, fun nd hnd => ?_⟩
  · have h1 := sumF_mem szSes hs
    have h0 : szSes s = s.2.2.length + sumF (fun e : Ev => e.2.length) s.2.2 := rfl
    refine ⟨by omega, fun e he => ?_⟩
    have h2 : e.2.length ≤ sumF (fun e : Ev => e.2.length) s.2.2 := sumF_mem (fun e : Ev => e.2.length) he
    omega
  · have h1 := sumF_mem szNod hnd
    have h0 : szNod nd = nd.path.length + nd.value.length + nd.holders.length + nd.watchers.length := rfl
    omega

set_option maxHeartbeats 1600000 in
theorem lawVS (e g x t : Int) (p q : Option Addr) (c n d m : Nat) (ss : List Ses) (ns : List Nod) (en : Hid (ss.length = n)) (em : Hid (ns.length = m)) (w : World) (h : RdS w (.slice p n c) ss) (hN : RdN w (.slice q m d) ns) (hn : n ≤ maxLen) (hm : m ≤ maxLen)
    (hb1 : Hid (∀ s ∈ ss, s.2.2.length ≤ maxLen ∧ ∀ e ∈ s.2.2, e.2.length ≤ maxLen ∧ Byt e.2))
    (hb2 : Hid (∀ nd ∈ ns, (nd.path.length ≤ maxLen ∧ nd.value.length ≤ maxLen ∧ nd.holders.length ≤ maxLen ∧ nd.watchers.length ≤ maxLen) ∧ Byt nd.path ∧ (0 ≤ nd.owner ∧ nd.owner < 18446744073709551616) ∧ (∀ i ∈ nd.holders, 0 ≤ i ∧ i < 18446744073709551616) ∧ ∀ i ∈ nd.watchers, 0 ≤ i ∧ i < 18446744073709551616)) (hML : ML w) :
    Calls Tryd.prog 6 #[stV e g x t (.slice p n c) (.slice q m d)] w fun r w' => r = .returned (.bool true) ∧ Below w.heap.size w w' := by
  have HR := hide fun (w' : World) (hb : Below w.heap.size w w') => And.intro (h.below hb) (And.intro (hN.below hb) (hML.below hb))
  clear h hN hML
  obtain ⟨N, eN⟩ : ∃ N, Hid (szSt ss ns = N) := ⟨_, (by show _ = _; rfl)⟩
  have he1 : Hid (∀ y ∈ ss, y.2.2.length ≤ maxLen ∧ ∀ e ∈ y.2.2, e.2.length ≤ maxLen) := fun y hy => ⟨(unhide hb1 y hy).1, fun e he => ((unhide hb1 y hy).2 e he).1⟩
  have he2 : Hid (∀ y ∈ ns, y.path.length ≤ maxLen ∧ y.value.length ≤ maxLen ∧ y.holders.length ≤ maxLen ∧ y.watchers.length ≤ maxLen) := fun y hy => (unhide hb2 y hy).1
  obtain ⟨W, hW⟩ : ∃ W, W = (w.alloc (.cells #[.int .u64 e, .int .u64 g, .int .u64 x, .int .i64 t, .slice p n c, .slice q m d] 42)) := ⟨_, rfl⟩
  have bW : Below w.heap.size w W := by rw [hW]; exact (Below.refl _ _).alloc (Nat.le_refl _) _
  have hc6 : St6 W w.heap.size e g x t (.slice p n c) (.slice q m d) := by rw [hW]; simp [St6]
  have HC6 := hide hc6
  go_enter Tryd.func6, Tryd.ntmps6
  go_wp2_with fail
  rw [← hW]
  clear hW hc6
  refine (szState_any e g x t p q c n d m ss ns en em _ (unhide HR _ bW).1 (unhide HR _ bW).2.1 hn hm he1 he2 N eN).mono ?_
  rintro r w1 ⟨rfl, hb1'⟩
  have b1 := Below.step bW hb1'
  have C1 := hide ((unhide HC6).below hb1')
  clear hb1'
  rcases szLeft_cases N 1048576 with ⟨eq, he⟩ | ⟨R, eq, hR, hR2⟩
  · rw [eq]
    clear eq
    go_wp2
    go_ret
    exact ⟨rfl, b1⟩
  · have hN : szSt ss ns ≤ 1048576 := by rw [unhide eN]; omega
    obtain ⟨q1, q2, q3, q4⟩ := sz_ses hN
    have hn1 : n ≤ 1048576 := by rw [← unhide en]; exact q1
    have hm1 : m ≤ 1048576 := by rw [← unhide em]; exact q2
    have Q3 := hide q3
    have Q4 := hide q4
    have hR' : ¬ R < 0 := by omega
    rw [eq]
    clear eq hR2 hN q1 q2 q3 q4 hn hm
    obtain ⟨B, eB⟩ : ∃ B, Hid (stOK e g x t ss ns = B) := ⟨_, (by show _ = _; rfl)⟩
    have hbs : Hid (∀ s ∈ ss, s.2.2.length ≤ 1048576 ∧ ∀ e ∈ s.2.2, Byt e.2 ∧ e.2.length ≤ 1048576) := fun s hs => ⟨(unhide Q3 s hs).1, fun e he => ⟨((unhide hb1 s hs).2 e he).2, (unhide Q3 s hs).2 e he⟩⟩
    have hby : Hid (∀ nd ∈ ns, Byt nd.path ∧ nd.path.length ≤ 1048576 ∧ nd.value.length ≤ 1048576 ∧ nd.holders.length ≤ 1048576 ∧ nd.watchers.length ≤ 1048576) := fun nd hnd => ⟨(unhide hb2 nd hnd).2.1, unhide Q4 nd hnd⟩
    have hnu : Hid (∀ nd ∈ ns, (∀ i ∈ nd.holders, 0 ≤ i ∧ i < 18446744073709551616) ∧ ∀ i ∈ nd.watchers, 0 ≤ i ∧ i < 18446744073709551616) := fun nd hnd => (unhide hb2 nd hnd).2.2.2
    have hou : Hid (∀ nd ∈ ns, 0 ≤ nd.owner ∧ nd.owner < 18446744073709551616) := fun nd hnd => (unhide hb2 nd hnd).2.2.1
    obtain ⟨i0, i1, i2, i3, i4, i5⟩ := unhide C1
    go_wp2_with fail
    refine (toState_ab e g x t p q c n d m ss ns en em _ (unhide HR _ b1).1 (unhide HR _ b1).2.1 hn1 hm1 Q3 Q4).mono ?_
    rintro r w2 ⟨p4, d4, p5, d5, rfl, ab2, hb2'⟩
    have b2 := Below.step b1 hb2'
    have C2 := hide ((unhide C1).below hb2')
    have r2 := ab2.self
    have HR2 := hide r2
    clear i0 i1 i2 i3 i4 i5 hb2' ab2 r2
    go_wp2_with fail
    refine (specVS e g x t p4 p5 d4 n d5 m ss ns en em _ (unhide HR2).1.rd (unhide HR2).2 hn1 hm1 hbs hby B eB).mono ?_
    rintro r w3 ⟨rfl, hb3⟩
    have b3 := Below.step b2 hb3
    have C3 := hide ((unhide C2).below hb3)
    clear hb3
    obtain ⟨i0, i1, i2, i3, i4, i5⟩ := unhide C3
    go_wp2_with fail
    refine (toState_ab e g x t p q c n d m ss ns en em _ (unhide HR _ b3).1 (unhide HR _ b3).2.1 hn1 hm1 Q3 Q4).mono ?_
    rintro r w4 ⟨p6, d6, p7, d7, rfl, ab4, hb4⟩
    have b4 := Below.step b3 hb4
    have C4 := hide ((unhide C3).below hb4)
    have HR4 := hide ab4.self
    clear i0 i1 i2 i3 i4 i5 hb4 ab4
    go_wp2_with fail
    obtain ⟨Y, hY⟩ : ∃ Y, Y = (w4.alloc (.cells #[.int .u64 e, .int .u64 g, .int .u64 x, .int .i64 t, .slice p6 n d6, .slice p7 m d7] 48)) := ⟨_, rfl⟩
    have bY : Below w4.heap.size w4 Y := by rw [hY]; exact (Below.refl _ _).alloc (Nat.le_refl _) _
    have cY : St6 Y w4.heap.size e g x t (.slice p6 n d6) (.slice p7 m d7) := by rw [hY]; simp [St6]
    rw [← hY]
    have b5 := Below.step b4 bY
    have C5 := hide ((unhide C4).below bY)
    have HR5 := hide (And.intro ((unhide HR4).1.below bY) ((unhide HR4).2.below bY))
    have CY := hide cY
    clear hY bY cY
    refine (implVS e g x t p6 p7 d6 n d7 m ss ns en em _ (unhide HR5).1 (unhide HR5).2 hn1 hm1 hbs hby hnu hou (unhide HR _ b5).2.2 B eB).mono ?_
    rintro r w6 ⟨rfl, hb6⟩
    have b6 := Below.step b5 hb6
    have C6 := hide ((unhide C5).below hb6)
    have HR6 := hide (And.intro ((unhide HR5).1.below hb6) ((unhide HR5).2.below hb6))
    have CY6 := hide ((unhide CY).below hb6)
    have hne : (B != B) = false := by simp
    clear hb6
    go_wp2_with fail
    clear hne
    have hcf1 : ∀ (vs : Array Value) (w : World), (callFunc 24 vs).run Tryd.prog w = .ok (.enter 24 vs) w := fun vs w => by kernel_rfl
    have hcf2 : ∀ (vs : Array Value) (w : World), (callFunc 26 vs).run Tryd.prog w = .ok (.enter 26 vs) w := fun vs w => by kernel_rfl
    have HCF := hide (And.intro hcf1 hcf2)
    clear hcf1 hcf2
    refine wp_region_noPanic ?_
    refine wp_region_held_drew (S := fun w' => St6 w' w.heap.size e g x t (.slice p n c) (.slice q m d) ∧ St6 w' w4.heap.size e g x t (.slice p6 n d6) (.slice p7 m d7)) (by kernel_rfl) (by exact ⟨unhide C6, unhide CY6⟩) (fun hS => ?_)
    refine wpAnyH_take (i := 0) (oi := _) (v := ?_) (by simp only [List.getElem?_toArray, List.getElem?_cons_succ, List.getElem?_cons_zero]; rfl) (by kernel_rfl) (by kernel_rfl) (by kernel_rfl) (fun _ _ _ h => h) (Or.inl ⟨by rfl, ?_⟩) hS ?_
    rotate_left
    · (intro w' hSw; (try dsimp only at hSw); go_simp; try with_reducible rfl)
    simp only [Act.put, List.setIfInBounds_toArray, List.set_cons_zero, List.set_cons_succ]
    refine wpAnyH_take (i := 1) (oi := _) (v := ?_) (by simp only [List.getElem?_toArray, List.getElem?_cons_succ, List.getElem?_cons_zero]; rfl) (by kernel_rfl) (by kernel_rfl) (by kernel_rfl) (fun _ _ _ h => h) (Or.inl ⟨by rfl, ?_⟩) hS ?_
    rotate_left
    · (intro w' hSw; (try dsimp only at hSw); go_simp; try with_reducible rfl)
    simp only [Act.put, List.setIfInBounds_toArray, List.set_cons_zero, List.set_cons_succ]
    refine wpAnyH_ready (rs := [2]) (by kernel_rfl) (by simp) ?_
    refine AllReadyH.cons (o := _) (by simp only [List.getElem?_toArray, List.getElem?_cons_succ, List.getElem?_cons_zero]; rfl) (fun KK hK => ?_) ?_
    · refine step_call1 (by rfl) 24 _ _ (by rfl) (stV e g x t (.slice p n c) (.slice q m d)) (by rfl) (fun _ => (unhide HCF).1 _ _) (toState_ab e g x t p q c n d m ss ns en em _ ((unhide HR _ b6).1.below (Below.refl _ _).drew) ((unhide HR _ b6).2.1.below (Below.refl _ _).drew) hn1 hm1 Q3 Q4) ?_
      rintro r w7 ⟨p8, d8, p9, d9, rfl, ab7, hb7⟩
      refine ⟨_, rfl, ?_⟩
      have hb7' : Below w6.heap.size w6 w7 := Below.step (Below.refl w6.heap.size w6).drew hb7
      have K7 := hide (And.intro ((unhide C6).below hb7') ((unhide CY6).below hb7'))
      have HR7 := hide (And.intro ((unhide HR6).1.below hb7') ((unhide HR6).2.below hb7'))
      have HR8 := hide ab7.self
      have b7 := Below.step b6 hb7'
      refine hK.out _ _ (by exact unhide K7) (fun hS => ?_)
      clear hK KK ab7 hb7 hb7'
      (try simp only [Act.put, List.setIfInBounds_toArray, List.set_cons_zero, List.set_cons_succ])
      refine wpAnyH_ready (rs := [3]) (by kernel_rfl) (by simp) ?_
      refine AllReadyH.cons (o := _) (by simp only [List.getElem?_toArray, List.getElem?_cons_succ, List.getElem?_cons_zero]; rfl) (fun KK hK => ?_) ?_
      · refine step_call2 (by rfl) 26 _ _ _ (by rfl) (stV e g x t (.slice p6 n d6) (.slice p7 m d7)) (stV e g x t (.slice p8 n d8) (.slice p9 m d9)) (by rfl) (by rfl) (fun _ => (unhide HCF).2 _ _) (eqState_n e g x t p6 p7 p8 p9 d6 n d7 m d8 d9 ss ns en em _ (unhide HR7).1.rd (unhide HR7).2 (unhide HR8).1.rd (unhide HR8).2 hn1 hm1 Q3 Q4) ?_
        rintro r w8 ⟨rfl, hb8⟩
        refine ⟨_, rfl, ?_⟩
        have b8 := Below.step b7 hb8
        refine hK.out _ _ (by exact ⟨(unhide K7).1.below hb8, (unhide K7).2.below hb8⟩) (fun hS => ?_)
        clear hK KK hb8
        (try simp only [Act.put, List.setIfInBounds_toArray, List.set_cons_zero, List.set_cons_succ])
        refine wpAnyH_take (i := 4) (oi := _) (v := ?_) (by simp only [List.getElem?_toArray, List.getElem?_cons_succ, List.getElem?_cons_zero]; rfl) (by kernel_rfl) (by kernel_rfl) (by kernel_rfl) (fun _ _ _ h => h) (Or.inl ⟨by rfl, ?_⟩) hS ?_
        rotate_left
        · (intro w' hSw; (try dsimp only at hSw); go_simp; try with_reducible rfl)
        simp only [Act.put, List.setIfInBounds_toArray, List.set_cons_zero, List.set_cons_succ]
        refine wpAnyH_done (by kernel_rfl) ?_ _
        refine NoPanic.normal ?_
        clear hS
        go_wp2
        go_ret
        exact ⟨rfl, b8⟩
      exact AllReadyH.nil
    exact AllReadyH.nil
end Go.Proofs.YtieofdbdkpdlcaaDoor
