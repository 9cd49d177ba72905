import Derived.Test.YtnbgnhhnpmmloaaGreatDoorK39
import Derived.Test.YtnbgnhhnpmmloaaGreatDoorXCe
namespace Go.Proofs.YtnbgnhhnpmmloaaGreatDoor
open Go.ChangeShapes Go.WideShapes Go.ChangeAt Go.RowKit
set_option linter.unusedVariables false
set_option linter.unusedSimpArgs false
set_option maxRecDepth 100000
def seB (s : Ses) : List Int := vi s.1.toNat
set_option maxHeartbeats 800000 in
theorem sesBytes_any (v : Nat) (d : Int) (p : Option Addr) (n c : Nat) (w : World) (h64 : v < 18446744073709551616) :
  Calls Tryz.prog 57 #[.agg #[.int .u64 v, .int .i64 d, .slice p n c]] w fun e w' => ∃ p' c', e = .returned (.slice p' (vi v).length c') ∧ Own w.heap.size w' (.slice p' (vi v).length c') (vi v) ∧ Below w.heap.size w w' := by
 go_enter Tryz.func57, Tryz.ntmps57
 go_wp2_with fail
 have hb : Below w.heap.size w (w.alloc (.cells #[.int .u64 v, .int .i64 d, .slice p n c] 59)) := (Below.refl _ _).alloc (Nat.le_refl _) _
 refine (varint_any v _ h64).mono ?_
 rintro r w1 ⟨p1, c1, rfl, o1, b1⟩
 have b2 := Below.step hb b1
 have o2 := Own.mono (B' := w.heap.size) o1 (by simp)
 clear o1 b1
 go_wp2
 go_ret
 exact ⟨p1, c1, rfl, o2, b2⟩
set_option maxHeartbeats 3200000 in
theorem listS_any (p : Option Addr) (c n : Nat) (l : List Ses) (en : Hid (l.length = n)) (w : World) (h : RdSc w (.slice p n c) l) (hn : n ≤ 900) (hu : Hid (∀ s ∈ l, 0 ≤ s.1 ∧ s.1 < 18446744073709551616)) (N : Nat) (eN : Hid ((liB seB l).length = N)) (hN : N ≤ 4194304) :
  Calls Tryz.prog 56 #[.slice p n c, .func (.func 57) #[] #[]] w fun e w' => ∃ p' c', e = .returned (.slice p' N c') ∧ Own w.heap.size w' (.slice p' N c') (liB seB l) ∧ Below w.heap.size w w' := by
 obtain ⟨ib, hib, hz0, hz1, hz2⟩ := info_parts Tryz.infoSl
 have HR := hide fun (w' : World) (hb : Below w.heap.size w w') => h.below hb
 clear h
 have wn : IntKind.u64.wrap (n : Int) = (n : Int) := by rw [IntKind.wrap_u64]; omega
 go_enter Tryz.func56, Tryz.ntmps56
 go_wp2_with fail
 refine (varint_any n w (by omega)).mono ?_
 rintro r w1 ⟨p1, c1, rfl, o1, b1⟩
 obtain ⟨Ls0, hP⟩ := PartsO.one o1 b1.size
 obtain ⟨v0, hv0⟩ : ∃ V, V = w1.alloc (.cells #[.slice p1 (vi n).length c1] 22) := ⟨_, rfl⟩
 have hb0 : Below w.heap.size w v0 := by rw [hv0]; exact b1.alloc b1.size _
 rw [← hv0] at hP
 have HP := hide hP
 clear hP o1
 generalize (vi n).length = M at *
 go_wp2
 rw [← hv0]
 clear hv0 b1
 go_loopw [5, 15] (fun pv iv wr => ∃ (k : Nat) (p2 : Option Addr) (c2 : Nat) (Ls : List (List Lf)), k ≤ n ∧ pv = .slice p2 (k + 1) c2 ∧ iv = .int .i64 k ∧ Hid (PartsO w.heap.size wr (.slice p2 (k + 1) c2) (vi n :: (l.take k).map seB) Ls) ∧ Below w.heap.size w wr) (fun _ iv _ => n - (intOf iv).toNat)
 case atStart => exact ⟨0, _, _, _, Nat.zero_le _, rfl, rfl, unhide HP, hb0⟩
 case round =>
  obtain ⟨k, p2, c2, Ls, hk, rfl, rfl, ho, hbr⟩ := hrel
  by_cases hlt : k < n
  ·have hlt' : (k : Int) < (n : Int) := by omega
   have hkl : k < l.length := by rw [unhide en]; exact hlt
   obtain ⟨⟨i, dl, qu⟩, hy⟩ : ∃ y, l[k]? = some y := ⟨_, List.getElem?_eq_getElem hkl⟩
   have hi := unhide hu _ (List.mem_of_getElem? hy)
   dsimp only at hi
   obtain ⟨v, rfl⟩ : ∃ v : Nat, i = (v : Int) := ⟨i.toNat, by omega⟩
   obtain ⟨b, o, rfl, hc0, hc1, pq, nq, cq, hc2⟩ : ∃ b o, p = some ⟨b, o, none⟩ ∧ wr.cell? ⟨b, o + k * 3, none⟩ = some (.int .u64 v) ∧ wr.cell? ⟨b, o + k * 3 + 1, none⟩ = some (.int .i64 dl) ∧ ∃ pq nq cq, wr.cell? ⟨b, o + k * 3 + 2, none⟩ = some (.slice pq nq cq) := by
    obtain ⟨p', c', ev, hd⟩ := unhide HR _ hbr
    simp only [Value.slice.injEq] at ev
    obtain ⟨rfl, -, -⟩ := ev
    rcases hd with h0 | ⟨b, o, h1, h2⟩
    ·rw [h0] at hkl; simp at hkl
    ·obtain ⟨d1, d2, u, d3, d4⟩ := h2 k _ hy
     obtain ⟨pq, cq, rfl, -⟩ := d4
     exact ⟨b, o, h1, d1, d2, pq, _, cq, d3⟩
   have HY := hide hy
   clear hkl hy
   have wk : IntKind.i64.wrap ((k : Int) + 1) = ((k + 1 : Nat) : Int) := by rw [IntWalk.i64_in _ (by omega)]; omega
   go_wp2_with fail
   obtain ⟨X, hX⟩ : ∃ X, X = wr.alloc (.cells #[.int .u64 v, .int .i64 dl, .slice pq nq cq] 59) := ⟨_, rfl⟩
   have hbX : Below wr.heap.size wr X := by rw [hX]; exact (Below.refl _ _).alloc (Nat.le_refl _) _
   have ho2 := hide ((unhide ho).below elBy.keep hbX)
   have hbr2 := Below.step hbr hbX
   rw [← hX]
   clear hX ho hbr hbX
   refine (sesBytes_any v dl pq nq cq X (by omega)).mono ?_
   rintro r w3 ⟨p3, c3, rfl, o3, hb3⟩
   have b3 := Below.step hbr2 hb3
   have hA : Below w3.heap.size w3 (w3.alloc (.cells #[.slice p3 (vi v).length c3] 22)) := (Below.refl _ _).alloc (Nat.le_refl _) _
   have OZ := (unhide ho2).below elBy.keep (Below.step hb3 hA)
   have hlV := (unhide ho2).lt
   obtain ⟨lb, q1, q2, -, q4⟩ := row_lv (kd := .u8) (Own.below o3 hA)
   have elz : elBy (w3.alloc (.cells #[.slice p3 (vi v).length c3] 22)) (vi v) [.slice p3 (vi v).length c3] lb := ⟨p3, c3, rfl, (Own.below o3 hA).rd, q1⟩
   obtain ⟨cs, g1, g2, g3, g4, g5, g6, g7⟩ := id OZ
   have lenX : (vi n :: (l.take k).map seB).length = k + 1 := by rw [List.length_cons, List.length_map, List.length_take, unhide en]; omega
   rw [lenX] at g4
   have z3 := hb3.size
   have zr := hbr2.size
   have EL := hide elz
   have Q2 := hide q2
   have GG := hide (And.intro g1 (And.intro g2 (And.intro g3 (And.intro g5 (And.intro g6 g7)))))
   have HLV := hide hlV
   have LX := hide lenX
   clear hc0 hc1 hc2 o3 OZ q1 q2 q4 elz g1 g2 g3 g5 g6 g7 hlV lenX ho2
   obtain ⟨M3, eM3⟩ : ∃ M, (vi v).length = M := ⟨_, rfl⟩
   rw [eM3] at g4 EL Q2 GG hA ⊢
   have EM3 := hide eM3
   clear eM3
   have hcZ : ∀ j u, [Value.slice p3 M3 c3][j]? = some u → (w3.alloc (.cells #[.slice p3 M3 c3] 22)).cell? ⟨w3.heap.size, j, none⟩ = some u := fun j u hu => by
    have := (CellsAre.alloc w3 #[.slice p3 M3 c3] 22).1 j u (by simpa using hu)
    exact this
   go_wp2_with (at_builtin; refine wpList_append_fr rfl _ _ 126 rfl w.heap.size 22 ib _ 1 24 Tryz.underlying126 hib hz0 hz1 hz2 rfl (by decide) (.slice p2 (k + 1) c2) (k + 1) _ rfl g4 w3.heap.size 1 1 [.slice p3 M3 c3] rfl rfl hcZ (fun u hu => by simp at hu; subst hu; rfl) (by unfold maxLen; omega) (by omega) (by simp; omega) ?_)
   intro v' w9 hrow hg hfr
   obtain ⟨p9, c9, rfl⟩ : ∃ p9 c9, v' = .slice p9 (k + 1 + 1) c9 := by
    rcases hrow.2 with ⟨rfl, h0⟩ | ⟨g, cap, cur, rfl, -⟩
    ·omega
    ·exact ⟨_, _, rfl⟩
   obtain ⟨g1, g2, g3, g5, g6, g7⟩ := unhide GG
   have hlV := unhide HLV
   have hrow' : w9.ownsRow w.heap.size 22 1 (.slice p9 (k + 1 + 1) c9) ((vi n :: (l.take k).map seB).length + 1) (cs.flatten ++ [.slice p3 M3 c3]) := by rw [unhide LX]; exact hrow
   have sn := OwnT.snoc g1 g2 g3 g5 g6 g7 elBy.keep (unhide EL) rfl (unhide Q2) (by omega) (fun a ha => (hlV.2 a ha).2) (fun b hb => (hlV.1 b hb).2) hrow' hg (fun g hg' => by
    have := hfr g hg'
    simpa using this)
   have eL : (vi n :: (l.take k).map seB) ++ [vi v] = vi n :: (l.take (k + 1)).map seB := by
    rw [List.take_add_one, unhide HY, List.map_append]
    simp [seB]
   rw [eL] at sn
   have hb9 : Below w.heap.size w w9 := (b3.alloc b3.size _).grown hg (by simp; omega) (fun b hb => (hlV.1 b hb).1)
   have SN := hide sn
   clear sn eL hrow hrow' hg hfr g1 g2 g3 g4 g5 g6 g7 hlV hcZ GG EL Q2
   go_wp2
   go_roundw
   case rel => exact ⟨k + 1, _, _, _, by omega, rfl, by go_num, unhide SN, hb9⟩
   case measure => simp [intOf]; omega
  ·have hlt' : ¬ (k : Int) < (n : Int) := by omega
   have ekn : n = k := by omega
   subst ekn
   have hO := unhide ho
   rw [List.take_of_length_le (by rw [unhide en]; exact Nat.le_refl _)] at hO
   have lenX : (vi n :: l.map seB).length = n + 1 := by rw [List.length_cons, List.length_map, unhide en]
   obtain ⟨G, vs, rfl, hPa⟩ := hO.parts lenX (by omega)
   have HPA := hide hPa
   have EE : Hid (liB seB l = cat (vi n :: l.map seB)) := by show _ = _; rw [liB, unhide en]
   have LX := hide lenX.symm
   clear hO hPa lenX ho hk hlt
   go_wp2_with fail
   refine (joinedC_any G c2 vs (vi n :: l.map seB) (liB seB l) N (n + 1) LX EE eN _ (unhide HPA) hN (by omega)).mono ?_
   rintro r w5 ⟨p5, c5, rfl, o5, hb5⟩
   have b5 := Below.step hbr hb5
   have O5 := hide (Own.mono (B' := w.heap.size) o5 hbr.size)
   clear o5 hb5
   go_wp2
   go_ret
   exact ⟨p5, c5, rfl, unhide O5, b5⟩
def stB (e g x : Nat) (ss : List Ses) (ns : List Nod) : List Int := cat [vi e, vi g, vi x, liB seB ss, liB noB ns]
theorem liB_map {α : Type} (f : α → List Int) (h : α → α) (hf : ∀ x, f (h x) = f x) (l : List α) : liB f (l.map h) = liB f l := by
 rw [liB, liB, List.length_map, List.map_map]
 congr 2
 exact List.map_congr_left fun x _ => hf x
theorem stB_dur (e g x : Nat) (ss : List Ses) (ns : List Nod) : stB e g x (ss.map sesF) (ns.map nodF) = stB e g x ss ns := by
 rw [stB, stB, liB_map seB sesF (fun _ => rfl), liB_map noB nodF (fun _ => rfl)]
theorem len_sub : ∀ (l m : List Int), l.Nodup → (∀ x ∈ l, x ∈ m) → l.length ≤ m.length
 | [], m, _, _ => Nat.zero_le _
 | x :: l, m, hd, hs => by
  rw [List.nodup_cons] at hd
  have hx := hs x (by simp)
  have h := len_sub l (m.erase x) hd.2 fun y hy => (List.mem_erase_of_ne (fun e => hd.1 (by rw [← e]; exact hy))).2 (hs y (by simp [hy]))
  rw [List.length_erase_of_mem hx] at h
  have := List.length_pos_of_mem hx
  rw [List.length_cons]
  omega
theorem cutG_len {α : Type} [DecidableEq α] (c : α) (s : List α) : ((cutG c s).map fun n => n.length + 1).sum = s.length + 1 := by
 induction s with
 | nil => rfl
 | cons x l ih =>
  rw [cutG]
  split
  ·rw [List.map_cons, List.sum_cons, ih, List.length_cons, List.length_nil]
   omega
  ·cases h : cutG c l with
   | nil => have := cutG_pos c l; rw [h] at this; simp at this
   | cons n ns =>
    rw [h] at ih
    simp only [List.map_cons, List.sum_cons, List.length_cons] at ih ⊢
    omega
theorem sum_le (C : Nat) : ∀ l : List Nat, (∀ x ∈ l, x ≤ C) → l.sum ≤ C * l.length
 | [], _ => Nat.zero_le _
 | x :: l, h => by
  have h1 := sum_le C l fun y hy => h y (by simp [hy])
  have h2 := h x (by simp)
  rw [List.sum_cons, List.length_cons, Nat.mul_succ]
  omega
theorem vp_len {p : List Int} (h : vp p = true) : p.length ≤ 136 := by
 cases p with
 | nil => simp
 | cons c t =>
  rw [vp, st, Bool.and_eq_true, Bool.and_eq_true, decide_eq_true_eq, List.all_eq_true] at h
  obtain ⟨-, h1, h2⟩ := h
  have h3 := sum_le 17 ((cutG 47 t).map fun n => n.length + 1) (fun x hx => by
   obtain ⟨n, hn, rfl⟩ := List.mem_map.1 hx
   have := h2 n hn
   simp only [nmOK, Bool.and_eq_true, decide_eq_true_eq] at this
   omega)
  rw [cutG_len, List.length_map] at h3
  rw [List.length_cons]
  omega
theorem cat_len {α : Type} (f : α → List Int) (C : Nat) : ∀ l : List α, (∀ x ∈ l, (f x).length ≤ C) → (cat (l.map f)).length ≤ C * l.length
 | [], _ => Nat.zero_le _
 | x :: l, h => by
  have h1 := cat_len f C l fun y hy => h y (by simp [hy])
  have h2 := h x (by simp)
  rw [List.map_cons, cat, List.flatten_cons, List.length_append, List.length_cons, Nat.mul_succ]
  rw [cat] at h1
  omega
theorem liB_is {α : Type} (f : α → List Int) (l : List α) : liB f l = vi l.length ++ cat (l.map f) := by rw [liB, cat, List.flatten_cons, cat]
structure Sml (ss : List Ses) (ns : List Nod) : Prop where
 n1 : ss.length ≤ 50
 n2 : ns.length ≤ 200
 s : ∀ s ∈ ss, 0 ≤ s.1 ∧ s.1 < 18446744073709551616
 d : ∀ nd ∈ ns, (nd.path.length ≤ 136 ∧ nd.value.length ≤ 40 ∧ nd.holders.length ≤ 50) ∧ (0 ≤ nd.mode ∧ nd.mode ≤ 2) ∧ (0 ≤ nd.owner ∧ nd.owner < 18446744073709551616) ∧ (0 ≤ nd.epoch ∧ nd.epoch < 18446744073709551616) ∧ (0 ≤ nd.gen ∧ nd.gen < 18446744073709551616) ∧ ∀ i ∈ nd.holders, 0 ≤ i ∧ i < 18446744073709551616
theorem Sml.dur {ss : List Ses} {ns : List Nod} (h : Sml ss ns) : Sml (ss.map sesF) (ns.map nodF) := by
 refine ⟨by rw [List.length_map]; exact h.n1, by rw [List.length_map]; exact h.n2, fun s hs => ?_, fun nd hnd => ?_⟩
 ·obtain ⟨s0, h0, rfl⟩ := List.mem_map.1 hs
  exact h.s s0 h0
 ·obtain ⟨n0, h0, rfl⟩ := List.mem_map.1 hnd
  exact h.d n0 h0
theorem sml_of {e g x t : Int} {ss : List Ses} {ns : List Nod} (h : stOK e g x t ss ns = true)
  (hnu : ∀ nd ∈ ns, (∀ i ∈ nd.holders, 0 ≤ i ∧ i < 18446744073709551616) ∧ ∀ i ∈ nd.watchers, 0 ≤ i ∧ i < 18446744073709551616) (hou : ∀ nd ∈ ns, 0 ≤ nd.owner ∧ nd.owner < 18446744073709551616)
  (hep : ∀ nd ∈ ns, (0 ≤ nd.epoch ∧ nd.epoch < 18446744073709551616) ∧ 0 ≤ nd.gen ∧ nd.gen < 18446744073709551616) : Sml ss ns := by
 obtain ⟨h1, h2, h3, h4, h5⟩ := (stOK_iff e g x t ss ns).1 h
 simp only [limOK, decide_eq_true_eq] at h1
 refine ⟨by omega, by omega, ses_u64 h2 (by omega), fun nd hnd => ?_⟩
 have hv := h3
 rw [nodAll, Bool.and_eq_true] at hv
 have hv1 : ∀ y ∈ ns, nodV e g y = true := (all_idx ns nod0 (nodV e g)).1 fun i hi => List.all_eq_true.1 hv.1 i (List.mem_range.2 hi)
 have hv2 := hv1 nd hnd
 simp only [nodV, Bool.and_eq_true, decide_eq_true_eq] at hv2
 obtain ⟨g1, g2, g3, g4, g5⟩ := hv2
 refine ⟨⟨vp_len g1, g2, ?_⟩, ?_, hou nd hnd, (hep nd hnd).1, (hep nd hnd).2, (hnu nd hnd).1⟩
 ·have ha := ascI_asc g4
  have hnd' : nd.holders.Nodup := ha.imp (fun {a b} hab => by omega)
  have := len_sub nd.holders (ss.map (·.1)) hnd' fun i hi => by
   have := h5 nd hnd i (by unfold Named; simp [hi])
   obtain ⟨z, hz, rfl⟩ := (live_iff ss i).1 this
   exact List.mem_map.2 ⟨z, hz, rfl⟩
  rw [List.length_map] at this
  omega
 ·unfold lockOK at g3
  split at g3
  ·omega
  ·simp only [Bool.and_eq_true] at g3
   have := g3.2.2
   split at this
   ·omega
   ·simp only [Bool.and_eq_true, beq_iff_eq] at this
    omega
theorem noB_len {ss : List Ses} {ns : List Nod} (h : Sml ss ns) : ∀ nd ∈ ns, (noB nd).length ≤ 800 ∧ (liB viI nd.holders).length ≤ 510 := by
 intro nd hnd
 obtain ⟨⟨h1, h2, h3⟩, -⟩ := h.d nd hnd
 have a1 := tx_len nd.path
 have a2 := tx_len nd.value
 have a3 := vi_len nd.owner.toNat
 have a4 := vi_len nd.epoch.toNat
 have a5 := vi_len nd.gen.toNat
 have a6 : (liB viI nd.holders).length ≤ 510 := by
  have b1 := vi_len nd.holders.length
  have b2 := cat_len viI 10 nd.holders fun x _ => (vi_len _).2
  rw [liB_is, List.length_append]
  omega
 refine ⟨?_, a6⟩
 simp only [noB, noL, cat, List.flatten_cons, List.flatten_nil, List.length_append, List.length_cons, List.length_nil]
 omega
theorem stB_len {e g x : Nat} {ss : List Ses} {ns : List Nod} (h : Sml ss ns) : (stB e g x ss ns).length ≤ 200000 ∧ (liB seB ss).length ≤ 600 ∧ (liB noB ns).length ≤ 170000 := by
 have a1 := vi_len e
 have a2 := vi_len g
 have a3 := vi_len x
 have b1 := vi_len ss.length
 have b2 := cat_len seB 10 ss fun x _ => (vi_len _).2
 have b3 := vi_len ns.length
 have b4 := cat_len noB 800 ns fun x hx => (noB_len h x hx).1
 have := h.n1
 have := h.n2
 have c1 : (liB seB ss).length ≤ 600 := by rw [liB_is, List.length_append]; omega
 have c2 : (liB noB ns).length ≤ 170000 := by rw [liB_is, List.length_append]; omega
 refine ⟨?_, c1, c2⟩
 simp only [stB, cat, List.flatten_cons, List.flatten_nil, List.length_append, List.length_nil]
 omega
def encR (e g x t : Int) (ss : List Ses) (ns : List Nod) : List Int := if stOK e g x t ss ns = true then stB e.toNat g.toNat x.toNat ss ns else []
theorem Own.nil (B : Nat) (w : World) : Own B w (.slice none 0 0) [] := ⟨rfl, .inl ⟨rfl, rfl⟩⟩
set_option maxHeartbeats 3200000 in
theorem listN_any (p : Option Addr) (c n : Nat) (l : List Nod) (en : Hid (l.length = n)) (w : World) (h : RdN w (.slice p n c) l) (hn : n ≤ 900) (ss : List Ses) (hu : Hid (Sml ss l)) (N : Nat) (eN : Hid ((liB noB l).length = N)) (hN : N ≤ 4194304) :
  Calls Tryz.prog 58 #[.slice p n c, .func (.func 59) #[] #[]] w fun e w' => ∃ p' c', e = .returned (.slice p' N c') ∧ Own w.heap.size w' (.slice p' N c') (liB noB l) ∧ Below w.heap.size w w' := by
 obtain ⟨ib, hib, hz0, hz1, hz2⟩ := info_parts Tryz.infoSl
 have HR := hide fun (w' : World) (hb : Below w.heap.size w w') => h.below hb
 clear h
 have wn : IntKind.u64.wrap (n : Int) = (n : Int) := by rw [IntKind.wrap_u64]; omega
 go_enter Tryz.func58, Tryz.ntmps58
 go_wp2_with fail
 refine (varint_any n w (by omega)).mono ?_
 rintro r w1 ⟨p1, c1, rfl, o1, b1⟩
 obtain ⟨Ls0, hP⟩ := PartsO.one o1 b1.size
 obtain ⟨v0, hv0⟩ : ∃ V, V = w1.alloc (.cells #[.slice p1 (vi n).length c1] 22) := ⟨_, rfl⟩
 have hb0 : Below w.heap.size w v0 := by rw [hv0]; exact b1.alloc b1.size _
 rw [← hv0] at hP
 have HP := hide hP
 clear hP o1
 generalize (vi n).length = M at *
 go_wp2
 rw [← hv0]
 clear hv0 b1
 go_loopw [5, 15] (fun pv iv wr => ∃ (k : Nat) (p2 : Option Addr) (c2 : Nat) (Ls : List (List Lf)), k ≤ n ∧ pv = .slice p2 (k + 1) c2 ∧ iv = .int .i64 k ∧ Hid (PartsO w.heap.size wr (.slice p2 (k + 1) c2) (vi n :: (l.take k).map noB) Ls) ∧ Below w.heap.size w wr) (fun _ iv _ => n - (intOf iv).toNat)
 case atStart => exact ⟨0, _, _, _, Nat.zero_le _, rfl, rfl, unhide HP, hb0⟩
 case round =>
  obtain ⟨k, p2, c2, Ls, hk, rfl, rfl, ho, hbr⟩ := hrel
  by_cases hlt : k < n
  ·have hlt' : (k : Int) < (n : Int) := by omega
   have hkl : k < l.length := by rw [unhide en]; exact hlt
   obtain ⟨nd, hy⟩ : ∃ y, l[k]? = some y := ⟨_, List.getElem?_eq_getElem hkl⟩
   have hi := (unhide hu).d nd (List.mem_of_getElem? hy)
   have hlen := (noB_len (unhide hu) nd (List.mem_of_getElem? hy)).1
   obtain ⟨b, o, rfl, PP, PV, PH, PU, hna⟩ : ∃ b o, p = some ⟨b, o, none⟩ ∧ ∃ P V H U, NodeAt wr b (o + k * 8) nd P V H U := by
    obtain ⟨p', c', ev, hd⟩ := unhide HR _ hbr
    simp only [Value.slice.injEq] at ev
    obtain ⟨rfl, -, -⟩ := ev
    rcases hd with h0 | ⟨b, o, h1, h2⟩
    ·rw [h0] at hkl; simp at hkl
    ·exact ⟨b, o, h1, h2 k _ hy⟩
   obtain ⟨pA, cA, nA, rfl, eA⟩ := hna.r0.slc
   obtain ⟨pB, cB, nB, rfl, eB⟩ := hna.r1.slc
   obtain ⟨pD, cD, nD, rfl, eD⟩ := hna.r4.slc
   obtain ⟨pU, cU, nU, rfl, -⟩ := hna.r7.slc
   obtain ⟨hc0, hc1, hc2, hc3, hc4, hc5, hc6, hc7, q0, q1, q4, -, -⟩ := hna
   have QQ := hide (And.intro q0 (And.intro q1 q4))
   obtain ⟨⟨j1, j2, j3⟩, j4, j5, j6, j7, j8⟩ := hi
   rw [unhide eA] at j1
   rw [unhide eB] at j2
   rw [unhide eD] at j3
   have J8 := hide j8
   obtain ⟨ow, eow⟩ : ∃ v : Nat, nd.owner = (v : Int) := ⟨nd.owner.toNat, by omega⟩
   obtain ⟨ep, eep⟩ : ∃ v : Nat, nd.epoch = (v : Int) := ⟨nd.epoch.toNat, by omega⟩
   obtain ⟨ge, ege⟩ : ∃ v : Nat, nd.gen = (v : Int) := ⟨nd.gen.toNat, by omega⟩
   obtain ⟨mo, emo⟩ : ∃ v : Int, nd.mode = v := ⟨_, rfl⟩
   rw [eow] at hc2 j5
   rw [eep] at hc5 j6
   rw [ege] at hc6 j7
   rw [emo] at hc3 j4
   obtain ⟨M3, eM3⟩ : ∃ M, Hid ((noB nd).length = M) := ⟨_, (by show _ = _; rfl)⟩
   have eNB : Hid (noB nd = noL nd.path nd.value ow mo nd.holders ep ge) := by show _ = _; rw [noB, eow, eep, ege, emo]; rfl
   have eM3' : Hid ((noL nd.path nd.value ow mo nd.holders ep ge).length = M3) := by show _ = _; rw [← unhide eNB]; exact unhide eM3
   rw [unhide eM3] at hlen
   clear q0 q1 q4 j8 eow eep ege emo
   have HY := hide hy
   clear hkl hy
   have wk : IntKind.i64.wrap ((k : Int) + 1) = ((k + 1 : Nat) : Int) := by rw [IntWalk.i64_in _ (by omega)]; omega
   go_wp2_with fail
   obtain ⟨X, hX⟩ : ∃ X, X = wr.alloc (.cells #[.slice pA nA cA, .slice pB nB cB, .int .u64 ow, .int .i64 mo, .slice pD nD cD, .int .u64 ep, .int .u64 ge, .slice pU nU cU] 66) := ⟨_, rfl⟩
   have hbX : Below wr.heap.size wr X := by rw [hX]; exact (Below.refl _ _).alloc (Nat.le_refl _) _
   have ho2 := hide ((unhide ho).below elBy.keep hbX)
   have hbr2 := Below.step hbr hbX
   rw [← hX]
   refine (nodBytes_any pA pB pD nA cA nB cB nD cD (.slice pU nU cU) nd.path nd.value nd.holders ow ep ge mo eA eB eD X ((unhide QQ).1.below hbX) ((unhide QQ).2.1.below hbX) ((unhide QQ).2.2.below hbX) (by omega) (by omega) (by omega) J8 (by omega) (by omega) (by omega) j4 M3 eM3' (by omega)).mono ?_
   clear hX ho hbr hbX
   rintro r w3 ⟨p3, c3, rfl, o3, hb3⟩
   rw [← unhide eNB] at o3
   have b3 := Below.step hbr2 hb3
   have hA : Below w3.heap.size w3 (w3.alloc (.cells #[.slice p3 M3 c3] 22)) := (Below.refl _ _).alloc (Nat.le_refl _) _
   have OZ := (unhide ho2).below elBy.keep (Below.step hb3 hA)
   have hlV := (unhide ho2).lt
   obtain ⟨lb, q1, q2, -, q4⟩ := row_lv (kd := .u8) (Own.below o3 hA)
   have elz : elBy (w3.alloc (.cells #[.slice p3 M3 c3] 22)) (noB nd) [.slice p3 M3 c3] lb := by
    have z1 := (Own.below o3 hA).rd
    have z2 := q1
    rw [← unhide eM3] at z1 z2 ⊢
    exact ⟨p3, c3, rfl, z1, z2⟩
   obtain ⟨cs, g1, g2, g3, g4, g5, g6, g7⟩ := id OZ
   have lenX : (vi n :: (l.take k).map noB).length = k + 1 := by rw [List.length_cons, List.length_map, List.length_take, unhide en]; omega
   rw [lenX] at g4
   have z3 := hb3.size
   have zr := hbr2.size
   have EL := hide elz
   have Q2 := hide q2
   have GG := hide (And.intro g1 (And.intro g2 (And.intro g3 (And.intro g5 (And.intro g6 g7)))))
   have HLV := hide hlV
   have LX := hide lenX
   clear hc0 hc1 hc2 hc3 hc4 hc5 hc6 hc7 o3 OZ q1 q2 q4 elz g1 g2 g3 g5 g6 g7 hlV lenX ho2
   have hcZ : ∀ j u, [Value.slice p3 M3 c3][j]? = some u → (w3.alloc (.cells #[.slice p3 M3 c3] 22)).cell? ⟨w3.heap.size, j, none⟩ = some u := fun j u hu => by
    have := (CellsAre.alloc w3 #[.slice p3 M3 c3] 22).1 j u (by simpa using hu)
    exact this
   go_wp2_with (at_builtin; refine wpList_append_fr rfl _ _ 126 rfl w.heap.size 22 ib _ 1 24 Tryz.underlying126 hib hz0 hz1 hz2 rfl (by decide) (.slice p2 (k + 1) c2) (k + 1) _ rfl g4 w3.heap.size 1 1 [.slice p3 M3 c3] rfl rfl hcZ (fun u hu => by simp at hu; subst hu; rfl) (by unfold maxLen; omega) (by omega) (by simp; omega) ?_)
   intro v' w9 hrow hg hfr
   obtain ⟨p9, c9, rfl⟩ : ∃ p9 c9, v' = .slice p9 (k + 1 + 1) c9 := by
    rcases hrow.2 with ⟨rfl, h0⟩ | ⟨g, cap, cur, rfl, -⟩
    ·omega
    ·exact ⟨_, _, rfl⟩
   obtain ⟨g1, g2, g3, g5, g6, g7⟩ := unhide GG
   have hlV := unhide HLV
   have hrow' : w9.ownsRow w.heap.size 22 1 (.slice p9 (k + 1 + 1) c9) ((vi n :: (l.take k).map noB).length + 1) (cs.flatten ++ [.slice p3 M3 c3]) := by rw [unhide LX]; exact hrow
   have sn := OwnT.snoc g1 g2 g3 g5 g6 g7 elBy.keep (unhide EL) rfl (unhide Q2) (by omega) (fun a ha => (hlV.2 a ha).2) (fun b hb => (hlV.1 b hb).2) hrow' hg (fun g hg' => by
    have := hfr g hg'
    simpa using this)
   have eL : (vi n :: (l.take k).map noB) ++ [noB nd] = vi n :: (l.take (k + 1)).map noB := by
    rw [List.take_add_one, unhide HY, List.map_append]
    simp
   rw [eL] at sn
   have hb9 : Below w.heap.size w w9 := (b3.alloc b3.size _).grown hg (by simp; omega) (fun b hb => (hlV.1 b hb).1)
   have SN := hide sn
   clear sn eL hrow hrow' hg hfr g1 g2 g3 g4 g5 g6 g7 hlV hcZ GG EL Q2
   go_wp2
   go_roundw
   case rel => exact ⟨k + 1, _, _, _, by omega, rfl, by go_num, unhide SN, hb9⟩
   case measure => simp [intOf]; omega
  ·have hlt' : ¬ (k : Int) < (n : Int) := by omega
   have ekn : n = k := by omega
   subst ekn
   have hO := unhide ho
   rw [List.take_of_length_le (by rw [unhide en]; exact Nat.le_refl _)] at hO
   have lenX : (vi n :: l.map noB).length = n + 1 := by rw [List.length_cons, List.length_map, unhide en]
   obtain ⟨G, vs, rfl, hPa⟩ := hO.parts lenX (by omega)
   have HPA := hide hPa
   have EE : Hid (liB noB l = cat (vi n :: l.map noB)) := by show _ = _; rw [liB, unhide en]
   have LX := hide lenX.symm
   clear hO hPa lenX ho hk hlt
   go_wp2_with fail
   refine (joinedC_any G c2 vs (vi n :: l.map noB) (liB noB l) N (n + 1) LX EE eN _ (unhide HPA) hN (by omega)).mono ?_
   rintro r w5 ⟨p5, c5, rfl, o5, hb5⟩
   have b5 := Below.step hbr hb5
   have O5 := hide (Own.mono (B' := w.heap.size) o5 hbr.size)
   clear o5 hb5
   go_wp2
   go_ret
   exact ⟨p5, c5, rfl, unhide O5, b5⟩
end Go.Proofs.YtnbgnhhnpmmloaaGreatDoor
