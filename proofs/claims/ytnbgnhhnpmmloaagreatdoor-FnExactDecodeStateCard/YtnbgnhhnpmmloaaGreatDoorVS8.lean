import Derived.Test.YtnbgnhhnpmmloaaGreatDoorK6
namespace Go.Proofs.YtnbgnhhnpmmloaaGreatDoor
open Go.ChangeShapes Go.WideShapes Go.ChangeAt Go.RowKit
set_option linter.unusedVariables false
set_option linter.unusedSimpArgs false
set_option maxRecDepth 100000
def leB (l m : List Int) : Bool := Op.bytesLess (bstr l).toList (bstr m).toList || (bstr l).toList == (bstr m).toList
def nod0 : Nod := ⟨[], [], 0, 0, [], 0, 0, []⟩
def nodOK (e g : Int) (ss : List Ses) (ns : List Nod) (k : Nat) : Bool :=
 let nd := ns.getD k nod0
 (vp nd.path && (k == 0 || !leB nd.path (ns.getD (k - 1) nod0).path)) && (canPar ns (parL nd.path) && (decide (nd.value.length ≤ 40) && ((nd.owner == 0 || live ss nd.owner) && (idsOK ss nd.holders && (idsOK ss nd.watchers && lockOK e g nd.mode nd.holders.length nd.epoch nd.gen)))))
theorem parL_byt {l : List Int} (h : Byt l) : Byt (parL l) := by
 unfold parL
 split
 ·intro x hx; simp at hx; omega
 ·exact fun x hx => h x (List.mem_of_mem_take hx)
theorem RdU.slc {w : World} {v : Value} {l : List Int} (h : RdU w v l) : ∃ p c n, v = .slice p n c ∧ Hid (l.length = n) := by
 obtain ⟨p, c, rfl, -⟩ := h
 exact ⟨p, c, _, rfl, (by show _ = _; rfl)⟩
set_option maxHeartbeats 1600000 in
theorem l3nodeOK_any (e g x t : Int) (p q : Option Addr) (c n d m k : Nat) (ss : List Ses) (ns : List Nod) (en : Hid (ss.length = n)) (em : Hid (ns.length = m)) (w : World) (h : RdS w (.slice p n c) ss) (hN : RdN w (.slice q m d) ns) (hn : n ≤ 1048576) (hm : m ≤ 1048576) (hk : k < m)
  (hby : Hid (∀ nd ∈ ns, Byt nd.path ∧ nd.path.length ≤ 1048576 ∧ nd.value.length ≤ 1048576 ∧ nd.holders.length ≤ 1048576 ∧ nd.watchers.length ≤ 1048576)) (B : Bool) (eB : Hid (nodOK e g ss ns k = B)) :
  Calls Tryz.prog 72 #[stV e g x t (.slice p n c) (.slice q m d), .int .i64 k] w fun r w' => r = .returned (.bool B) ∧ Below w.heap.size w w' := by
 have HR := hide fun (w' : World) (hb : Below w.heap.size w w') => And.intro (h.below hb) (hN.below hb)
 have hkl : k < ns.length := by rw [uh em]; exact hk
 obtain ⟨nd, hy⟩ : ∃ y, ns[k]? = some y := ⟨_, List.getElem?_eq_getElem hkl⟩
 have hyD : ns.getD k nod0 = nd := by rw [List.getD_eq_getElem?_getD, hy]; rfl
 obtain ⟨b, o, rfl, hA⟩ := hN.at (by omega)
 obtain ⟨P, V, H, U, hnd⟩ := hA k nd hy
 obtain ⟨hB1, hB2, hB3, hB4, hB5⟩ := uh hby _ (List.mem_of_getElem? hy)
 obtain ⟨pp, pc, pn, rfl, ePn⟩ := hnd.r0.slc
 obtain ⟨vp', vc, vn, rfl, eVn⟩ := hnd.r1.slc
 obtain ⟨hp, hc, hh, rfl, eHn⟩ := hnd.r4.slc
 obtain ⟨up, uc, un, rfl, eUn⟩ := hnd.r7.slc
 have hpn : pn ≤ 1048576 := by rw [← uh ePn]; exact hB2
 have hvn : vn ≤ 1048576 := by rw [← uh eVn]; exact hB3
 have hhn : hh ≤ 1048576 := by rw [← uh eHn]; exact hB4
 have hun : un ≤ 1048576 := by rw [← uh eUn]; exact hB5
 have hk' : (k : Int) < (m : Int) := by omega
 have hk0' : (0 : Int) ≤ (k : Int) := by omega
 have b1 : Below w.heap.size w (w.alloc (.cells #[.int .u64 e, .int .u64 g, .int .u64 x, .int .i64 t, .slice p n c, .slice (some ⟨b, o, none⟩) m d] 27)) := (Below.refl _ _).alloc (Nat.le_refl _) _
 have hnd1 := hnd.below b1
 obtain ⟨c0, c1, c2, c3, c4, c5, c6, c7, -, -, -, -, -⟩ := hnd1
 have HYD := hide hyD
 have HND := hide hnd
 have HBP := hide hB1
 have hcf : ∀ (vs : Array Value) (w : World), (callFunc 112 vs).run Tryz.prog w = .ok (.enter 112 vs) w := fun vs w => by kernel_rfl
 have HCF := hide hcf
 clear hcf
 have HA := hide hA
 clear hnd hA hyD hB1 hB2 hB3 hB4 hB5 hN h
 go_enter Tryz.func72, Tryz.ntmps72
 go_wp2_with fail
 obtain ⟨X, hX⟩ : ∃ X, X = ((w.alloc (.cells #[.int .u64 e, .int .u64 g, .int .u64 x, .int .i64 t, .slice p n c, .slice (some ⟨b, o, none⟩) m d] 27)).alloc (.cells #[.slice pp pn pc, .slice vp' vn vc, .int .u64 nd.owner, .int .i64 nd.mode, .slice hp hh hc, .int .u64 nd.epoch, .int .u64 nd.gen, .slice up un uc] 66)) := ⟨_, rfl⟩
 have bX : Below w.heap.size w X := by rw [hX]; exact b1.alloc (by simp) _
 have iX : St6 X w.heap.size e g x t (.slice p n c) (.slice (some ⟨b, o, none⟩) m d) := by rw [hX]; simp [St6]
 have nX : NodeAt X (w.heap.size + 1) 0 nd (.slice pp pn pc) (.slice vp' vn vc) (.slice hp hh hc) (.slice up un uc) :=
  ⟨by rw [hX]; simp, by rw [hX]; simp, by rw [hX]; simp, by rw [hX]; simp, by rw [hX]; simp, by rw [hX]; simp, by rw [hX]; simp, by rw [hX]; simp, (uh HND).r0.below bX, (uh HND).r1.below bX, (uh HND).r4.below bX, (uh HND).r7.below bX, (uh HND).k0⟩
 rw [← hX]
 have BX := hide bX
 have IX := hide iX
 have NX := hide nX
 clear hX b1 c0 c1 c2 c3 c4 c5 c6 c7 bX iX nX
 obtain ⟨V1, eV⟩ : ∃ V1, vp nd.path = V1 := ⟨_, rfl⟩
 have EV := hide eV
 clear eV
 obtain ⟨C, eC⟩ : ∃ C, (!(V1 && (k == 0 || !leB nd.path (ns.getD (k - 1) nod0).path))) = C := ⟨_, rfl⟩
 have hB : B = (!C && (canPar ns (parL nd.path) && (decide (nd.value.length ≤ 40) && ((nd.owner == 0 || live ss nd.owner) && (idsOK ss nd.holders && (idsOK ss nd.watchers && lockOK e g nd.mode nd.holders.length nd.epoch nd.gen)))))) := by
  rw [← uh eB, nodOK, uh HYD, ← eC, Bool.not_not, show vp nd.path = V1 from uh EV]
 go_cut [32] (fun rv wc => rv = .bool C ∧ Below w.heap.size w wc ∧ St6 wc w.heap.size e g x t (.slice p n c) (.slice (some ⟨b, o, none⟩) m d) ∧ NodeAt wc (w.heap.size + 1) 0 nd (.slice pp pn pc) (.slice vp' vn vc) (.slice hp hh hc) (.slice up un uc))
 case first =>
  cases V1 with
  | false =>
   have eC' : C = true := by rw [← eC]; rfl
   subst eC'
   clear eC
   refine wp_region_noPanic ?_
   refine wp_region_held_drew (S := fun w' => w'.cell? ⟨w.heap.size + 1, 0, none⟩ = some (.slice pp pn pc) ∧ w'.cell? ⟨w.heap.size, 5, none⟩ = some (.slice (some ⟨b, o, none⟩) m d) ∧ Rd w' (.slice pp pn pc) nd.path) (by kernel_rfl) (by exact ⟨(uh NX).c0, (uh IX).2.2.2.2.2, (uh NX).r0⟩) (fun hS => ?_)
   refine tk 0 hS (h := ?_); simp only [Act.put, xa, xb, xc]
   refine tk 1 hS (h := ?_); simp only [Act.put, xa, xb, xc]
   refine ry [2] ?_
   refine cn (fun KK hK => ?_) ?_
   ·refine step_call1 (by rfl) 112 _ _ (by rfl) (.slice pp pn pc) (by rfl) (fun _ => uh HCF _ _) (specVP pp pc pn nd.path ePn _ (by exact (uh NX).r0) HBP hpn false EV) ?_
    rintro r w2 ⟨rfl, hb2⟩
    refine ⟨_, rfl, ?_⟩
    have hb' : Below X.heap.size X w2 := Below.step (Below.refl X.heap.size X).drew hb2
    refine hK.out _ _ (by exact ⟨cell_below (uh NX).c0 hb', cell_below (uh IX).2.2.2.2.2 hb', (uh NX).r0.below hb'⟩) (fun hS => ?_)
    clear hK KK
    (try simp only [Act.put, xa, xb, xc])
    refine tk 3 hS (h := ?_); simp only [Act.put, xa, xb, xc]
    refine tk 4 hS (h := ?_); simp only [Act.put, xa, xb, xc]
    refine sk 5 hS (h := ?_); simp only [Act.put, xa, xb, xc]
    refine sk 6 hS (h := ?_); simp only [Act.put, xa, xb, xc]
    refine sk 7 hS (h := ?_); simp only [Act.put, xa, xb, xc]
    refine sk 8 hS (h := ?_); simp only [Act.put, xa, xb, xc]
    refine sk 9 hS (h := ?_); simp only [Act.put, xa, xb, xc]
    refine sk 10 hS (h := ?_); simp only [Act.put, xa, xb, xc]
    refine sk 11 hS (h := ?_); simp only [Act.put, xa, xb, xc]
    refine sk 12 hS (h := ?_); simp only [Act.put, xa, xb, xc]
    refine sk 13 hS (h := ?_); simp only [Act.put, xa, xb, xc]
    refine sk 14 hS (h := ?_); simp only [Act.put, xa, xb, xc]
    refine sk 15 hS (h := ?_); simp only [Act.put, xa, xb, xc]
    refine sk 16 hS (h := ?_); simp only [Act.put, xa, xb, xc]
    refine sk 17 hS (h := ?_); simp only [Act.put, xa, xb, xc]
    refine sk 18 hS (h := ?_); simp only [Act.put, xa, xb, xc]
    refine sk 19 hS (h := ?_); simp only [Act.put, xa, xb, xc]
    refine sk 20 hS (h := ?_); simp only [Act.put, xa, xb, xc]
    refine tk 21 hS (h := ?_); simp only [Act.put, xa, xb, xc]
    refine wpAnyH_done (by kernel_rfl) ?_ _
    refine NoPanic.normal ?_
    clear hS
    go_wp2_with fail
    go_meet
    exact ⟨rfl, Below.step (uh BX) hb', (uh IX).below hb', (uh NX).below hb'⟩
   exact AllReadyH.nil
  | true =>
   by_cases hk0 : k = 0
   ·have eC' : C = false := by rw [← eC, hk0]; rfl
    subst eC'
    have hp' : ¬ 0 < k := by omega
    have hp'' : ¬ (0 : Int) < (k : Int) := by omega
    clear eC hk0
    refine wp_region_noPanic ?_
    refine wp_region_held_drew (S := fun w' => w'.cell? ⟨w.heap.size + 1, 0, none⟩ = some (.slice pp pn pc) ∧ w'.cell? ⟨w.heap.size, 5, none⟩ = some (.slice (some ⟨b, o, none⟩) m d) ∧ Rd w' (.slice pp pn pc) nd.path) (by kernel_rfl) (by exact ⟨(uh NX).c0, (uh IX).2.2.2.2.2, (uh NX).r0⟩) (fun hS => ?_)
    refine tk 0 hS (h := ?_); simp only [Act.put, xa, xb, xc]
    refine tk 1 hS (h := ?_); simp only [Act.put, xa, xb, xc]
    refine ry [2] ?_
    refine cn (fun KK hK => ?_) ?_
    ·refine step_call1 (by rfl) 112 _ _ (by rfl) (.slice pp pn pc) (by rfl) (fun _ => uh HCF _ _) (specVP pp pc pn nd.path ePn _ (by exact (uh NX).r0) HBP hpn true EV) ?_
     rintro r w2 ⟨rfl, hb2⟩
     refine ⟨_, rfl, ?_⟩
     have hb' : Below X.heap.size X w2 := Below.step (Below.refl X.heap.size X).drew hb2
     refine hK.out _ _ (by exact ⟨cell_below (uh NX).c0 hb', cell_below (uh IX).2.2.2.2.2 hb', (uh NX).r0.below hb'⟩) (fun hS => ?_)
     clear hK KK
     (try simp only [Act.put, xa, xb, xc])
     refine tk 3 hS (h := ?_); simp only [Act.put, xa, xb, xc]
     refine tk 4 hS (h := ?_); simp only [Act.put, xa, xb, xc]
     refine tk 5 hS (h := ?_); simp only [Act.put, xa, xb, xc]
     refine tk 6 hS (h := ?_); simp only [Act.put, xa, xb, xc]
     refine tk 7 hS (h := ?_); simp only [Act.put, xa, xb, xc]
     refine sk 8 hS (h := ?_); simp only [Act.put, xa, xb, xc]
     refine sk 9 hS (h := ?_); simp only [Act.put, xa, xb, xc]
     refine sk 10 hS (h := ?_); simp only [Act.put, xa, xb, xc]
     refine sk 11 hS (h := ?_); simp only [Act.put, xa, xb, xc]
     refine sk 12 hS (h := ?_); simp only [Act.put, xa, xb, xc]
     refine sk 13 hS (h := ?_); simp only [Act.put, xa, xb, xc]
     refine sk 14 hS (h := ?_); simp only [Act.put, xa, xb, xc]
     refine sk 15 hS (h := ?_); simp only [Act.put, xa, xb, xc]
     refine sk 16 hS (h := ?_); simp only [Act.put, xa, xb, xc]
     refine sk 17 hS (h := ?_); simp only [Act.put, xa, xb, xc]
     refine sk 18 hS (h := ?_); simp only [Act.put, xa, xb, xc]
     refine sk 19 hS (h := ?_); simp only [Act.put, xa, xb, xc]
     refine tk 20 hS (h := ?_); simp only [Act.put, xa, xb, xc]
     refine tk 21 hS (h := ?_); simp only [Act.put, xa, xb, xc]
     refine wpAnyH_done (by kernel_rfl) ?_ _
     refine NoPanic.normal ?_
     clear hS
     go_wp2_with fail
     go_meet
     exact ⟨rfl, Below.step (uh BX) hb', (uh IX).below hb', (uh NX).below hb'⟩
    exact AllReadyH.nil
   ·obtain ⟨j, ej⟩ : ∃ j : Nat, (k : Int) - 1 = (j : Int) := ⟨k - 1, by omega⟩
    have ej0 : k - 1 = j := by omega
    have hjl : j < ns.length := by omega
    obtain ⟨zd, hz⟩ : ∃ y, ns[j]? = some y := ⟨_, List.getElem?_eq_getElem hjl⟩
    have hzD : ns.getD j nod0 = zd := by rw [List.getD_eq_getElem?_getD, hz]; rfl
    obtain ⟨Z, Z1, Z2, Z3, hzn⟩ := uh HA j zd hz
    obtain ⟨zp, zc, zn, rfl, eZn⟩ := hzn.r0.slc
    have KZ := hide (cell_below hzn.c0 (uh BX))
    have RZ := hide (hzn.r0.below (uh BX))
    have hpk : 0 < k := by omega
    have hpk' : (0 : Int) < (k : Int) := by omega
    have hjm : (j : Int) < (m : Int) := by omega
    have hj0 : (0 : Int) ≤ (j : Int) := by omega
    have wj : IntKind.i64.wrap (j : Int) = (j : Int) := IntWalk.i64_in _ (by omega)
    rw [ej0, hzD, show (k == 0) = false by simp [hk0], Bool.true_and, Bool.false_or, Bool.not_not] at eC
    have HLE : Hid ((Op.bytesLess (bstr nd.path).toList (bstr zd.path).toList || (bstr nd.path).toList == (bstr zd.path).toList) = C) := eC
    clear hz hzD hjl hzn ej0 hk0 eC
    refine wp_region_noPanic ?_
    refine wp_region_held_drew (S := fun w' => w'.cell? ⟨w.heap.size + 1, 0, none⟩ = some (.slice pp pn pc) ∧ w'.cell? ⟨w.heap.size, 5, none⟩ = some (.slice (some ⟨b, o, none⟩) m d) ∧ Rd w' (.slice pp pn pc) nd.path ∧ w'.cell? ⟨b, o + j * 8, none⟩ = some (.slice zp zn zc) ∧ Rd w' (.slice zp zn zc) zd.path) (by kernel_rfl) (by exact ⟨(uh NX).c0, (uh IX).2.2.2.2.2, (uh NX).r0, uh KZ, uh RZ⟩) (fun hS => ?_)
    refine tk 0 hS (h := ?_); simp only [Act.put, xa, xb, xc]
    refine tk 1 hS (h := ?_); simp only [Act.put, xa, xb, xc]
    refine ry [2] ?_
    refine cn (fun KK hK => ?_) ?_
    ·refine step_call1 (by rfl) 112 _ _ (by rfl) (.slice pp pn pc) (by rfl) (fun _ => uh HCF _ _) (specVP pp pc pn nd.path ePn _ (by exact (uh NX).r0) HBP hpn true EV) ?_
     rintro r w2 ⟨rfl, hb2⟩
     refine ⟨_, rfl, ?_⟩
     have hb' : Below X.heap.size X w2 := Below.step (Below.refl X.heap.size X).drew hb2
     refine hK.out _ _ (by exact ⟨cell_below (uh NX).c0 hb', cell_below (uh IX).2.2.2.2.2 hb', (uh NX).r0.below hb', cell_below (uh KZ) hb', (uh RZ).below hb'⟩) (fun hS => ?_)
     clear hK KK
     (try simp only [Act.put, xa, xb, xc])
     refine tk 3 hS (h := ?_); simp only [Act.put, xa, xb, xc]
     refine tk 4 hS (h := ?_); simp only [Act.put, xa, xb, xc]
     refine tk 5 hS (h := ?_); simp only [Act.put, xa, xb, xc]
     refine tk 6 hS (h := ?_); simp only [Act.put, xa, xb, xc]
     refine tk 7 hS (h := ?_); simp only [Act.put, xa, xb, xc]
     refine tk 8 hS (h := ?_); simp only [Act.put, xa, xb, xc]
     refine tk 9 hS (h := ?_); simp only [Act.put, xa, xb, xc]
     refine wpAnyH_take (i := 10) (oi := _) (v := ?_) (by simp only [List.getElem?_toArray, List.getElem?_cons_succ, List.getElem?_cons_zero]; rfl) (by kernel_rfl) (by kernel_rfl) (by kernel_rfl) (fun _ _ _ h => h) (Or.inl ⟨by rfl, ?_⟩) hS ?_
     rotate_left
     ·(intro w' hSw; (try dsimp only at hSw); have hcv := run_conv (uh ePn) hSw.2.2.1; go_simp; try with_reducible rfl)
     simp only [Act.put, xa, xb, xc]
     refine tk 11 hS (h := ?_); simp only [Act.put, xa, xb, xc]
     refine tk 12 hS (h := ?_); simp only [Act.put, xa, xb, xc]
     refine tk 13 hS (h := ?_); simp only [Act.put, xa, xb, xc]
     refine tk 14 hS (h := ?_); simp only [Act.put, xa, xb, xc]
     refine tk 15 hS (h := ?_); simp only [Act.put, xa, xb, xc]
     refine tk 16 hS (h := ?_); simp only [Act.put, xa, xb, xc]
     refine tk 17 hS (h := ?_); simp only [Act.put, xa, xb, xc]
     refine wpAnyH_take (i := 18) (oi := _) (v := ?_) (by simp only [List.getElem?_toArray, List.getElem?_cons_succ, List.getElem?_cons_zero]; rfl) (by kernel_rfl) (by kernel_rfl) (by kernel_rfl) (fun _ _ _ h => h) (Or.inl ⟨by rfl, ?_⟩) hS ?_
     rotate_left
     ·(intro w' hSw; (try dsimp only at hSw); have hcv := run_conv (uh eZn) hSw.2.2.2.2; go_simp; try with_reducible rfl)
     simp only [Act.put, xa, xb, xc]
     refine wpAnyH_take (i := 19) (oi := _) (v := ?_) (by simp only [List.getElem?_toArray, List.getElem?_cons_succ, List.getElem?_cons_zero]; rfl) (by kernel_rfl) (by kernel_rfl) (by kernel_rfl) (fun _ _ _ h => h) (Or.inl ⟨by rfl, ?_⟩) hS ?_
     rotate_left
     ·(intro w' hSw; (try dsimp only at hSw); have hle := uh HLE; go_simp; try with_reducible rfl)
     simp only [Act.put, xa, xb, xc]
     refine tk 20 hS (h := ?_); simp only [Act.put, xa, xb, xc]
     refine tk 21 hS (h := ?_); simp only [Act.put, xa, xb, xc]
     refine wpAnyH_done (by kernel_rfl) ?_ _
     refine NoPanic.normal ?_
     clear hS
     go_wp2_with fail
     go_meet
     exact ⟨rfl, Below.step (uh BX) hb', (uh IX).below hb', (uh NX).below hb'⟩
    exact AllReadyH.nil
 obtain ⟨rfl, hbc, ⟨i0, i1, i2, i3, i4, i5⟩, hnc⟩ := hcut
 have HNC := hide hnc
 obtain ⟨c0, c1, c2, c3, c4, c5, c6, c7, -, -, -, -, -⟩ := hnc
 clear EV HA HND NX IX BX HCF
 cases C with
 | true =>
  have eF : B = false := by rw [hB]; rfl
  subst eF
  clear hB eC
  go_wp2
  go_ret
  exact ⟨rfl, hbc⟩
 | false =>
  rw [Bool.not_false, Bool.true_and] at hB
  have HB := hide hB
  clear hB eC
  go_wp2_with fail
  obtain ⟨pa, pb, pd, epp, hpc, hpm⟩ := (uh HNC).k0
  simp only [Value.slice.injEq] at epp
  obtain ⟨rfl, rfl, rfl⟩ := epp
  have I6 : Hid (St6 wc w.heap.size e g x t (.slice p n c) (.slice (some ⟨b, o, none⟩) m d)) := ⟨i0, i1, i2, i3, i4, i5⟩
  have hcp : ∀ (vs : Array Value) (w : World), (callFunc 114 vs).run Tryz.prog w = .ok (.enter 114 vs) w := fun vs w => by kernel_rfl
  have HCP := hide hcp
  have hcc : ∀ (vs : Array Value) (w : World), (callFunc 113 vs).run Tryz.prog w = .ok (.enter 113 vs) w := fun vs w => by kernel_rfl
  have HCC := hide hcc
  have HBN : Hid (Byt (parL nd.path) ∧ ∀ nd ∈ ns, Byt nd.path) := ⟨parL_byt (uh HBP), fun nd h => (uh hby nd h).1⟩
  clear i0 i1 i2 i3 i4 i5 c0 c1 c2 c3 c4 c5 c6 c7 hcp hcc
  obtain ⟨C2, eC2⟩ : ∃ C2, canPar ns (parL nd.path) = C2 := ⟨_, rfl⟩
  have EC2 := hide eC2
  obtain ⟨C3, eC3⟩ : ∃ C3, (!(C2 && decide (nd.value.length ≤ 40))) = C3 := ⟨_, rfl⟩
  have hB2 : B = (!C3 && ((nd.owner == 0 || live ss nd.owner) && (idsOK ss nd.holders && (idsOK ss nd.watchers && lockOK e g nd.mode nd.holders.length nd.epoch nd.gen)))) := by
   rw [uh HB, eC2, ← eC3, Bool.not_not, Bool.and_assoc]
  rw [uh eVn] at eC3
  clear eC2 HB
  go_cut [44] (fun rv w' => rv = .bool C3 ∧ Below w.heap.size w w' ∧ St6 w' w.heap.size e g x t (.slice p n c) (.slice (some ⟨b, o, none⟩) m d) ∧ NodeAt w' (w.heap.size + 1) 0 nd (.slice pp pn pc) (.slice vp' vn vc) (.slice hp hh hc) (.slice up un uc))
  case first =>
   clear hB2
   cases C2 with
   | false =>
    have eC' : C3 = true := by rw [← eC3]; rfl
    subst eC'
    clear eC3
    refine wp_region_noPanic ?_
    refine wp_region_held_drew (S := fun w' => St6 w' w.heap.size e g x t (.slice p n c) (.slice (some ⟨b, o, none⟩) m d) ∧ w'.cell? ⟨w.heap.size + 1, 0, none⟩ = some (.slice pp pn pc) ∧ w'.cell? ⟨w.heap.size + 1, 1, none⟩ = some (.slice vp' vn vc)) (by kernel_rfl) (by exact ⟨uh I6, (uh HNC).c0, (uh HNC).c1⟩) (fun hS => ?_)
    refine tk 0 hS (h := ?_); simp only [Act.put, xa, xb, xc]
    refine tk 1 hS (h := ?_); simp only [Act.put, xa, xb, xc]
    refine tk 2 hS (h := ?_); simp only [Act.put, xa, xb, xc]
    refine ry [3] ?_
    refine cn (fun KK hK => ?_) ?_
    ·refine step_call1 (by rfl) 114 _ _ (by rfl) (.slice pp pn pc) (by rfl) (fun _ => uh HCP _ _) (l3parent_any pp pc pn nd.path ePn _ (by exact (uh HNC).r0) hpn hpc hpm) ?_
     rintro r w2 ⟨q', m', d', rfl, em', hm', hr', hb2⟩
     refine ⟨_, rfl, ?_⟩
     have hb' : Below wc.heap.size wc w2 := Below.step (Below.refl wc.heap.size wc).drew hb2
     refine hK.out _ _ (by exact ⟨(uh I6).below hb', cell_below (uh HNC).c0 hb', cell_below (uh HNC).c1 hb'⟩) (fun hS => ?_)
     clear hK KK
     (try simp only [Act.put, xa, xb, xc])
     refine ry [4] ?_
     refine cn (fun KK hK => ?_) ?_
     ·refine step_call2 (by rfl) 113 _ _ _ (by rfl) (stV e g x t (.slice p n c) (.slice (some ⟨b, o, none⟩) m d)) (.slice q' m' d') (by rfl) (by rfl) (fun _ => uh HCC _ _) (l3canParent_any e g x t _ q' d m d' m' _ ns (parL nd.path) em em' _ (uh HR _ (Below.step hbc hb')).2 hr' hm (by omega) HBN false EC2) ?_
      rintro r w3 ⟨rfl, hb3⟩
      refine ⟨_, rfl, ?_⟩
      have hb4 : Below wc.heap.size wc w3 := Below.step hb' hb3
      refine hK.out _ _ (by exact ⟨(uh I6).below hb4, cell_below (uh HNC).c0 hb4, cell_below (uh HNC).c1 hb4⟩) (fun hS => ?_)
      clear hK KK
      (try simp only [Act.put, xa, xb, xc])
      refine tk 5 hS (h := ?_); simp only [Act.put, xa, xb, xc]
      refine tk 6 hS (h := ?_); simp only [Act.put, xa, xb, xc]
      refine sk 7 hS (h := ?_); simp only [Act.put, xa, xb, xc]
      refine sk 8 hS (h := ?_); simp only [Act.put, xa, xb, xc]
      refine sk 9 hS (h := ?_); simp only [Act.put, xa, xb, xc]
      refine sk 10 hS (h := ?_); simp only [Act.put, xa, xb, xc]
      refine tk 11 hS (h := ?_); simp only [Act.put, xa, xb, xc]
      refine wpAnyH_done (by kernel_rfl) ?_ _
      refine NoPanic.normal ?_
      clear hS
      go_wp2_with fail
      go_meet
      exact ⟨rfl, Below.step hbc hb4, (uh I6).below hb4, (uh HNC).below hb4⟩
     exact AllReadyH.nil
    exact AllReadyH.nil
   | true =>
    by_cases h40 : vn ≤ 40
    ·have eC' : C3 = false := by rw [← eC3]; simp [h40]
     subst eC'
     have h40' : ¬ (40 : Int) < (vn : Int) := by omega
     clear eC3
     refine wp_region_noPanic ?_
     refine wp_region_held_drew (S := fun w' => St6 w' w.heap.size e g x t (.slice p n c) (.slice (some ⟨b, o, none⟩) m d) ∧ w'.cell? ⟨w.heap.size + 1, 0, none⟩ = some (.slice pp pn pc) ∧ w'.cell? ⟨w.heap.size + 1, 1, none⟩ = some (.slice vp' vn vc)) (by kernel_rfl) (by exact ⟨uh I6, (uh HNC).c0, (uh HNC).c1⟩) (fun hS => ?_)
     refine tk 0 hS (h := ?_); simp only [Act.put, xa, xb, xc]
     refine tk 1 hS (h := ?_); simp only [Act.put, xa, xb, xc]
     refine tk 2 hS (h := ?_); simp only [Act.put, xa, xb, xc]
     refine ry [3] ?_
     refine cn (fun KK hK => ?_) ?_
     ·refine step_call1 (by rfl) 114 _ _ (by rfl) (.slice pp pn pc) (by rfl) (fun _ => uh HCP _ _) (l3parent_any pp pc pn nd.path ePn _ (by exact (uh HNC).r0) hpn hpc hpm) ?_
      rintro r w2 ⟨q', m', d', rfl, em', hm', hr', hb2⟩
      refine ⟨_, rfl, ?_⟩
      have hb' : Below wc.heap.size wc w2 := Below.step (Below.refl wc.heap.size wc).drew hb2
      refine hK.out _ _ (by exact ⟨(uh I6).below hb', cell_below (uh HNC).c0 hb', cell_below (uh HNC).c1 hb'⟩) (fun hS => ?_)
      clear hK KK
      (try simp only [Act.put, xa, xb, xc])
      refine ry [4] ?_
      refine cn (fun KK hK => ?_) ?_
      ·refine step_call2 (by rfl) 113 _ _ _ (by rfl) (stV e g x t (.slice p n c) (.slice (some ⟨b, o, none⟩) m d)) (.slice q' m' d') (by rfl) (by rfl) (fun _ => uh HCC _ _) (l3canParent_any e g x t _ q' d m d' m' _ ns (parL nd.path) em em' _ (uh HR _ (Below.step hbc hb')).2 hr' hm (by omega) HBN true EC2) ?_
       rintro r w3 ⟨rfl, hb3⟩
       refine ⟨_, rfl, ?_⟩
       have hb4 : Below wc.heap.size wc w3 := Below.step hb' hb3
       refine hK.out _ _ (by exact ⟨(uh I6).below hb4, cell_below (uh HNC).c0 hb4, cell_below (uh HNC).c1 hb4⟩) (fun hS => ?_)
       clear hK KK
       (try simp only [Act.put, xa, xb, xc])
       refine tk 5 hS (h := ?_); simp only [Act.put, xa, xb, xc]
       refine tk 6 hS (h := ?_); simp only [Act.put, xa, xb, xc]
       refine tk 7 hS (h := ?_); simp only [Act.put, xa, xb, xc]
       refine tk 8 hS (h := ?_); simp only [Act.put, xa, xb, xc]
       refine tk 9 hS (h := ?_); simp only [Act.put, xa, xb, xc]
       refine tk 10 hS (h := ?_); simp only [Act.put, xa, xb, xc]
       refine tk 11 hS (h := ?_); simp only [Act.put, xa, xb, xc]
       refine wpAnyH_done (by kernel_rfl) ?_ _
       refine NoPanic.normal ?_
       clear hS
       go_wp2_with fail
       go_meet
       exact ⟨rfl, Below.step hbc hb4, (uh I6).below hb4, (uh HNC).below hb4⟩
      exact AllReadyH.nil
     exact AllReadyH.nil
    ·have eC' : C3 = true := by rw [← eC3]; simp [h40]
     subst eC'
     have h40' : (40 : Int) < (vn : Int) := by omega
     clear eC3
     refine wp_region_noPanic ?_
     refine wp_region_held_drew (S := fun w' => St6 w' w.heap.size e g x t (.slice p n c) (.slice (some ⟨b, o, none⟩) m d) ∧ w'.cell? ⟨w.heap.size + 1, 0, none⟩ = some (.slice pp pn pc) ∧ w'.cell? ⟨w.heap.size + 1, 1, none⟩ = some (.slice vp' vn vc)) (by kernel_rfl) (by exact ⟨uh I6, (uh HNC).c0, (uh HNC).c1⟩) (fun hS => ?_)
     refine tk 0 hS (h := ?_); simp only [Act.put, xa, xb, xc]
     refine tk 1 hS (h := ?_); simp only [Act.put, xa, xb, xc]
     refine tk 2 hS (h := ?_); simp only [Act.put, xa, xb, xc]
     refine ry [3] ?_
     refine cn (fun KK hK => ?_) ?_
     ·refine step_call1 (by rfl) 114 _ _ (by rfl) (.slice pp pn pc) (by rfl) (fun _ => uh HCP _ _) (l3parent_any pp pc pn nd.path ePn _ (by exact (uh HNC).r0) hpn hpc hpm) ?_
      rintro r w2 ⟨q', m', d', rfl, em', hm', hr', hb2⟩
      refine ⟨_, rfl, ?_⟩
      have hb' : Below wc.heap.size wc w2 := Below.step (Below.refl wc.heap.size wc).drew hb2
      refine hK.out _ _ (by exact ⟨(uh I6).below hb', cell_below (uh HNC).c0 hb', cell_below (uh HNC).c1 hb'⟩) (fun hS => ?_)
      clear hK KK
      (try simp only [Act.put, xa, xb, xc])
      refine ry [4] ?_
      refine cn (fun KK hK => ?_) ?_
      ·refine step_call2 (by rfl) 113 _ _ _ (by rfl) (stV e g x t (.slice p n c) (.slice (some ⟨b, o, none⟩) m d)) (.slice q' m' d') (by rfl) (by rfl) (fun _ => uh HCC _ _) (l3canParent_any e g x t _ q' d m d' m' _ ns (parL nd.path) em em' _ (uh HR _ (Below.step hbc hb')).2 hr' hm (by omega) HBN true EC2) ?_
       rintro r w3 ⟨rfl, hb3⟩
       refine ⟨_, rfl, ?_⟩
       have hb4 : Below wc.heap.size wc w3 := Below.step hb' hb3
       refine hK.out _ _ (by exact ⟨(uh I6).below hb4, cell_below (uh HNC).c0 hb4, cell_below (uh HNC).c1 hb4⟩) (fun hS => ?_)
       clear hK KK
       (try simp only [Act.put, xa, xb, xc])
       refine tk 5 hS (h := ?_); simp only [Act.put, xa, xb, xc]
       refine tk 6 hS (h := ?_); simp only [Act.put, xa, xb, xc]
       refine tk 7 hS (h := ?_); simp only [Act.put, xa, xb, xc]
       refine tk 8 hS (h := ?_); simp only [Act.put, xa, xb, xc]
       refine tk 9 hS (h := ?_); simp only [Act.put, xa, xb, xc]
       refine tk 10 hS (h := ?_); simp only [Act.put, xa, xb, xc]
       refine tk 11 hS (h := ?_); simp only [Act.put, xa, xb, xc]
       refine wpAnyH_done (by kernel_rfl) ?_ _
       refine NoPanic.normal ?_
       clear hS
       go_wp2_with fail
       go_meet
       exact ⟨rfl, Below.step hbc hb4, (uh I6).below hb4, (uh HNC).below hb4⟩
      exact AllReadyH.nil
     exact AllReadyH.nil
  obtain ⟨rfl, hbd, ⟨i0, i1, i2, i3, i4, i5⟩, hnd2⟩ := hcut
  have HN2 := hide hnd2
  obtain ⟨c0, c1, c2, c3, c4, c5, c6, c7, -, -, -, -, -⟩ := hnd2
  clear I6 HNC HCP HCC HBN EC2 eC3
  cases C3 with
  | true =>
   have eF : B = false := by rw [hB2]; rfl
   subst eF
   clear hB2
   go_wp2
   go_ret
   exact ⟨rfl, hbd⟩
  | false =>
   rw [Bool.not_false, Bool.true_and] at hB2
   obtain ⟨ow, eo⟩ : ∃ ow, nd.owner = ow := ⟨_, rfl⟩
   rw [eo] at hB2 c2
   clear eo
   by_cases ho : ow = 0
   ·subst ho
    have HB3 : Hid (B = (idsOK ss nd.holders && (idsOK ss nd.watchers && lockOK e g nd.mode nd.holders.length nd.epoch nd.gen))) := hB2
    clear hB2
    obtain ⟨T1, eT1⟩ : ∃ T, idsOK ss nd.holders = T := ⟨_, rfl⟩
    obtain ⟨T2, eT2⟩ : ∃ T, idsOK ss nd.watchers = T := ⟨_, rfl⟩
    obtain ⟨T3, eT3⟩ : ∃ T, lockOK e g nd.mode hh nd.epoch nd.gen = T := ⟨_, rfl⟩
    have ET1 := hide eT1
    have ET2 := hide eT2
    have ET3 := hide eT3
    have HB4 : Hid (B = (T1 && (T2 && T3))) := by show _ = _; rw [uh HB3, eT1, eT2, uh eHn, eT3]
    clear eT1 eT2 eT3 HB3
    go_wp2_with fail
    refine (l3idsOK_any e g x t p hp c n hc hh _ ss nd.holders en eHn _ (uh HR _ hbd).1 (uh HN2).r4 hn hhn T1 ET1).mono ?_
    rintro r wa ⟨rfl, hba⟩
    have Ba := Below.step hbd hba
    have HNa := hide ((uh HN2).below hba)
    cases T1 with
    | false =>
     have eF : B = false := by rw [uh HB4]; rfl
     subst eF
     clear HB4
     go_wp2
     go_ret
     exact ⟨rfl, Ba⟩
    | true =>
     have a0 := cell_below i0 hba
     have a1 := cell_below i1 hba
     have a2 := cell_below i2 hba
     have a3 := cell_below i3 hba
     have a4 := cell_below i4 hba
     have a5 := cell_below i5 hba
     have d0 := cell_below c0 hba
     have d1 := cell_below c1 hba
     have d2 := cell_below c2 hba
     have d3 := cell_below c3 hba
     have d4 := cell_below c4 hba
     have d5 := cell_below c5 hba
     have d6 := cell_below c6 hba
     have d7 := cell_below c7 hba
     clear i0 i1 i2 i3 i4 i5 c0 c1 c2 c3 c4 c5 c6 c7 hba
     go_wp2_with fail
     refine (l3idsOK_any e g x t p up c n uc un _ ss nd.watchers en eUn _ (uh HR _ Ba).1 (uh HNa).r7 hn hun T2 ET2).mono ?_
     rintro r wb ⟨rfl, hbb⟩
     have Bb := Below.step Ba hbb
     cases T2 with
     | false =>
      have eF : B = false := by rw [uh HB4]; rfl
      subst eF
      clear HB4
      go_wp2
      go_ret
      exact ⟨rfl, Bb⟩
     | true =>
      have eT : B = T3 := by rw [uh HB4]; rfl
      subst eT
      have f0 := cell_below a0 hbb
      have f1 := cell_below a1 hbb
      have f2 := cell_below a2 hbb
      have f3 := cell_below a3 hbb
      have f4 := cell_below a4 hbb
      have f5 := cell_below a5 hbb
      have g0 := cell_below d0 hbb
      have g1 := cell_below d1 hbb
      have g2 := cell_below d2 hbb
      have g3 := cell_below d3 hbb
      have g4 := cell_below d4 hbb
      have g5 := cell_below d5 hbb
      have g6 := cell_below d6 hbb
      have g7 := cell_below d7 hbb
      clear a0 a1 a2 a3 a4 a5 d0 d1 d2 d3 d4 d5 d6 d7 hbb HB4
      go_wp2_with fail
      refine (l3lockOK_any e g x t _ nd.mode nd.epoch nd.gen _ _ _ _ _ hp hc hh _ hhn B ET3).mono ?_
      rintro r wd ⟨rfl, hbd'⟩
      have Bd := Below.step Bb hbd'
      clear hbd' f0 f1 f2 f3 f4 f5 g0 g1 g2 g3 g4 g5 g6 g7
      go_wp2
      go_ret
      exact ⟨rfl, Bd⟩
   ·have hod : (ow == 0) = false := by simp [ho]
    have hod' : (ow != 0) = true := by simp [ho]
    rw [hod, Bool.false_or] at hB2
    obtain ⟨L, eL⟩ : ∃ L, live ss ow = L := ⟨_, rfl⟩
    have EL : Hid ((ss.any fun s => s.1 == ow) = L) := eL
    rw [eL] at hB2
    have HB3 := hide hB2
    clear hB2 eL
    go_wp2_with fail
    refine (l3live_any e g x t p c n _ ss en _ (uh HR _ hbd).1 hn ow L EL).mono ?_
    rintro r w2 ⟨rfl, hb2⟩
    have b2 := Below.step hbd hb2
    cases L with
    | false =>
     have eF : B = false := by rw [uh HB3]; rfl
     subst eF
     clear HB3
     go_wp2
     go_ret
     exact ⟨rfl, b2⟩
    | true =>
     have HB3 : Hid (B = (idsOK ss nd.holders && (idsOK ss nd.watchers && lockOK e g nd.mode nd.holders.length nd.epoch nd.gen))) := uh HB3
     have HN3 := hide ((uh HN2).below hb2)
     replace i0 := cell_below i0 hb2
     replace i1 := cell_below i1 hb2
     replace i2 := cell_below i2 hb2
     replace i3 := cell_below i3 hb2
     replace i4 := cell_below i4 hb2
     replace i5 := cell_below i5 hb2
     replace c0 := cell_below c0 hb2
     replace c1 := cell_below c1 hb2
     replace c2 := cell_below c2 hb2
     replace c3 := cell_below c3 hb2
     replace c4 := cell_below c4 hb2
     replace c5 := cell_below c5 hb2
     replace c6 := cell_below c6 hb2
     replace c7 := cell_below c7 hb2
     clear hb2
     obtain ⟨T1, eT1⟩ : ∃ T, idsOK ss nd.holders = T := ⟨_, rfl⟩
     obtain ⟨T2, eT2⟩ : ∃ T, idsOK ss nd.watchers = T := ⟨_, rfl⟩
     obtain ⟨T3, eT3⟩ : ∃ T, lockOK e g nd.mode hh nd.epoch nd.gen = T := ⟨_, rfl⟩
     have ET1 := hide eT1
     have ET2 := hide eT2
     have ET3 := hide eT3
     have HB4 : Hid (B = (T1 && (T2 && T3))) := by show _ = _; rw [uh HB3, eT1, eT2, uh eHn, eT3]
     clear eT1 eT2 eT3 HB3
     go_wp2_with fail
     refine (l3idsOK_any e g x t p hp c n hc hh _ ss nd.holders en eHn _ (uh HR _ b2).1 (uh HN3).r4 hn hhn T1 ET1).mono ?_
     rintro r wa ⟨rfl, hba⟩
     have Ba := Below.step b2 hba
     have HNa := hide ((uh HN3).below hba)
     cases T1 with
     | false =>
      have eF : B = false := by rw [uh HB4]; rfl
      subst eF
      clear HB4
      go_wp2
      go_ret
      exact ⟨rfl, Ba⟩
     | true =>
      have a0 := cell_below i0 hba
      have a1 := cell_below i1 hba
      have a2 := cell_below i2 hba
      have a3 := cell_below i3 hba
      have a4 := cell_below i4 hba
      have a5 := cell_below i5 hba
      have d0 := cell_below c0 hba
      have d1 := cell_below c1 hba
      have d2 := cell_below c2 hba
      have d3 := cell_below c3 hba
      have d4 := cell_below c4 hba
      have d5 := cell_below c5 hba
      have d6 := cell_below c6 hba
      have d7 := cell_below c7 hba
      clear i0 i1 i2 i3 i4 i5 c0 c1 c2 c3 c4 c5 c6 c7 hba
      go_wp2_with fail
      refine (l3idsOK_any e g x t p up c n uc un _ ss nd.watchers en eUn _ (uh HR _ Ba).1 (uh HNa).r7 hn hun T2 ET2).mono ?_
      rintro r wb ⟨rfl, hbb⟩
      have Bb := Below.step Ba hbb
      cases T2 with
      | false =>
       have eF : B = false := by rw [uh HB4]; rfl
       subst eF
       clear HB4
       go_wp2
       go_ret
       exact ⟨rfl, Bb⟩
      | true =>
       have eT : B = T3 := by rw [uh HB4]; rfl
       subst eT
       have f0 := cell_below a0 hbb
       have f1 := cell_below a1 hbb
       have f2 := cell_below a2 hbb
       have f3 := cell_below a3 hbb
       have f4 := cell_below a4 hbb
       have f5 := cell_below a5 hbb
       have g0 := cell_below d0 hbb
       have g1 := cell_below d1 hbb
       have g2 := cell_below d2 hbb
       have g3 := cell_below d3 hbb
       have g4 := cell_below d4 hbb
       have g5 := cell_below d5 hbb
       have g6 := cell_below d6 hbb
       have g7 := cell_below d7 hbb
       clear a0 a1 a2 a3 a4 a5 d0 d1 d2 d3 d4 d5 d6 d7 hbb HB4
       go_wp2_with fail
       refine (l3lockOK_any e g x t _ nd.mode nd.epoch nd.gen _ _ _ _ _ hp hc hh _ hhn B ET3).mono ?_
       rintro r wd ⟨rfl, hbd'⟩
       have Bd := Below.step Bb hbd'
       clear hbd' f0 f1 f2 f3 f4 f5 g0 g1 g2 g3 g4 g5 g6 g7
       go_wp2
       go_ret
       exact ⟨rfl, Bd⟩
end Go.Proofs.YtnbgnhhnpmmloaaGreatDoor

