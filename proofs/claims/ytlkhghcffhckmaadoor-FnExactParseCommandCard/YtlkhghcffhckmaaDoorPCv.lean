import Derived.Test.YtlkhghcffhckmaaDoorPCu
namespace Go.Proofs.YtlkhghcffhckmaaDoor
open Go.ChangeShapes Go.WideShapes Go.ChangeAt Go.RowKit
set_option linter.unusedVariables false
set_option linter.unusedSimpArgs false
set_option maxRecDepth 100000

theorem fill_len {C C' : Cmd} {p : Part} {x : List Int} {M : Nat} (h : fillS C p x = some C') (hp : C.pa.length ≤ M) (hv : C.va.length ≤ M) (hx : x.length ≤ M) : C'.pa.length ≤ M ∧ C'.va.length ≤ M := by
  rcases p with (_ | _ | _ | _ | _ | _ | _ | _) | (_ | _ | _) <;> simp only [fillS] at h
  all_goals first
    | (simp only [Option.some.injEq] at h; subst h; exact ⟨by first | exact hx | exact hp, by first | exact hx | exact hv⟩)
    | (simp only [Option.map_eq_some_iff] at h; obtain ⟨v, -, rfl⟩ := h; exact ⟨hp, hv⟩)
    | (split at h
       · cases h; exact ⟨hp, hv⟩
       · split at h
         · cases h; exact ⟨hp, hv⟩
         · cases h)
theorem fills_len {M : Nat} : ∀ (ws : List (List Int)) (ps : List Part) (C C' : Cmd), fillsS C ps ws = some C' → C.pa.length ≤ M → C.va.length ≤ M → (∀ x ∈ ws, x.length ≤ M) → C'.pa.length ≤ M ∧ C'.va.length ≤ M
  | [], ps, C, C', h, hp, hv, _ => by
    have : fillsS C ps [] = some C := by cases ps <;> rfl
    rw [this] at h
    cases h
    exact ⟨hp, hv⟩
  | x :: r, [], C, C', h, _, _, _ => by simp [fillsS] at h
  | x :: r, p :: ps, C, C', h, hp, hv, hx => by
    simp only [fillsS, Option.bind_eq_some_iff] at h
    obtain ⟨C1, h1, h2⟩ := h
    obtain ⟨g1, g2⟩ := fill_len h1 hp hv (hx x List.mem_cons_self)
    exact fills_len r ps C1 C' h2 g1 g2 (fun y hy => hx y (List.mem_cons_of_mem _ hy))
theorem specC_len (l : List Int) (hb : Byt l) (hl : l.length ≤ 1048576) : ((specC (wds l)).getD cmd0).pa.length ≤ 1048576 ∧ ((specC (wds l)).getD cmd0).va.length ≤ 1048576 := by
  cases h : specC (wds l) with
  | none => exact ⟨by simp [cmd0], by simp [cmd0]⟩
  | some C =>
    rw [Option.getD_some]
    have hw := wds_byt l hb
    cases e : wds l with
    | nil => rw [e] at h; cases h
    | cons x r =>
      rw [e] at h hw
      simp only [specC] at h
      split at h
      · cases h
      · split at h
        · exact fills_len r _ _ C h (by simp) (by simp) (fun y hy => by have := (hw y (List.mem_cons_of_mem _ hy)).2; omega)
        · cases h
theorem LvB.length {v : Value} {xs : List Int} {A : List Lf} (h : LvB v xs A) : A.length = xs.length := by
  obtain ⟨p, c, Ls, -, h2, h3, h4⟩ := h
  rcases h4 with h4 | ⟨b, o, -, hl⟩
  · subst h4
    have : Ls = [] := List.length_eq_zero_iff.1 h2
    rw [h3, this]; rfl
  · have hone : ∀ l ∈ Ls, l.length = 1 := fun l hm => by
      obtain ⟨i, hi, e⟩ := List.mem_iff_getElem.1 hm
      have := hl i _ l (List.getElem?_eq_getElem (by omega)) (by rw [List.getElem?_eq_getElem hi, e])
      rw [this]; rfl
    rw [h3, ← h2]
    clear h2 h3 hl
    induction Ls with
    | nil => rfl
    | cons a r ih =>
      rw [List.flatten_cons, List.length_append, hone a List.mem_cons_self, ih (fun l hm => hone l (List.mem_cons_of_mem _ hm)), List.length_cons]
      omega
theorem Rd.len {w : World} {a1 : Option Addr} {a2 a3 : Nat} {l : List Int} (h : Rd w (.slice a1 a2 a3) l) : a2 = l.length := by
  obtain ⟨p, c, e, -⟩ := h
  simp only [Value.slice.injEq] at e
  exact e.2.1
/-- a command's leaves stay where their blocks stay -/
theorem lvs_keep {w w' : World} {P V : Value} {pa va : List Int} {A1 A2 : List Lf} (h1 : LvB P pa A1) (h2 : LvB V va A2) (h : Rd w P pa ∧ Rd w V va ∧ LvIn w (A1 ++ A2)) (hk : ∀ a ∈ A1 ++ A2, w'.heap[a.b]? = w.heap[a.b]?) : Rd w' P pa ∧ Rd w' V va ∧ LvIn w' (A1 ++ A2) := by
  refine ⟨h.1.keepLv h1 (fun a ha => hk a (List.mem_append_left _ ha)), h.2.1.keepLv h2 (fun a ha => hk a (List.mem_append_right _ ha)), fun a ha => ?_⟩
  obtain ⟨⟨n, hc⟩, hf⟩ := h.2.2 a ha
  exact ⟨⟨n, (cell_at_heap (hk a ha) _).trans hc⟩, (World.frozen?_of_block (hk a ha)).trans hf⟩

set_option maxHeartbeats 8000000 in
theorem lawParse_small (p : Option Addr) (c n : Nat) (l : List Int) (en : Hid (l.length = n)) (w : World) (h : Rd w (.slice p n c) l) (hb : Hid (Byt l)) (hl : n ≤ 1048576) (hV : Hid (∀ w', Below w.heap.size w w' → Vars w')) :
    Calls Tryd.prog 3 #[.slice p n c] w fun e w' => e = .returned (.bool true) ∧ Below w.heap.size w w' := by
  have HH := hide fun (w' : World) (hb : Below w.heap.size w w') => h.below hb
  clear h
  obtain ⟨R, eR⟩ : ∃ R, specC (wds l) = R := ⟨_, rfl⟩
  obtain ⟨C, eC⟩ : ∃ C, R.getD cmd0 = C := ⟨_, rfl⟩
  obtain ⟨code, ek⟩ : ∃ k : Int, k = if R.isSome then 0 else 2 := ⟨_, rfl⟩
  have hlen := specC_len l (unhide hb) (by rw [unhide en]; exact hl)
  rw [eR, eC] at hlen
  obtain ⟨NP, eP⟩ : ∃ n, C.pa.length = n := ⟨_, rfl⟩
  obtain ⟨NV, eV⟩ : ∃ n, C.va.length = n := ⟨_, rfl⟩
  rw [eP, eV] at hlen
  obtain ⟨hNP, hNV⟩ := hlen
  have SPEC : Hid (∀ (q : Option Addr) (d : Nat) (w' : World), Below w.heap.size w w' → Rd w' (.slice q n d) l → Calls Tryd.prog 4 #[.slice q n d] w' fun e w'' => (∃ p2 c2 q2 d2, e = .returned (.tuple #[cmV C.k C.op C.se (.slice p2 NP c2) C.fl (.slice q2 NV d2) C.ep C.ge C.n C.m, .int .i64 code]) ∧ Rd w'' (.slice p2 NP c2) C.pa ∧ Rd w'' (.slice q2 NV d2) C.va) ∧ Below w'.heap.size w' w'') := fun q d w' hw' hr => by
    refine (spec_parse q d n l en w' hr hb hl R (hide eR) code (hide ek)).mono ?_
    rintro e w'' ⟨⟨V, rfl, a1, a2, a3, b1, b2, b3, rfl, h1, h2⟩, hbl⟩
    rw [eC] at h1 h2 ⊢
    have l1 := h1.len
    have l2 := h2.len
    rw [eP] at l1
    rw [eV] at l2
    subst l1 l2
    exact ⟨⟨a1, a3, b1, b3, rfl, h1, h2⟩, hbl⟩
  have IMPL : Hid (∀ (q : Option Addr) (d : Nat) (w' : World), Below w.heap.size w w' → Rd w' (.slice q n d) l → Calls Tryd.prog 6 #[.slice q n d] w' fun e w'' => (∃ p2 c2 q2 d2, e = .returned (.tuple #[cmV C.k C.op C.se (.slice p2 NP c2) C.fl (.slice q2 NV d2) C.ep C.ge C.n C.m, .int .i64 code]) ∧ OwnP w'.heap.size w'' (.slice p2 NP c2) (.slice q2 NV d2) C.pa C.va) ∧ Below w'.heap.size w' w'') := fun q d w' hw' hr => by
    refine (impl_parse q d n l en w' hr hb hl (hide fun w2 h2 => unhide hV w2 (Below.step hw' h2)) R (hide (by rw [← spec_implC]; exact eR)) code (hide ek)).mono ?_
    rintro e w'' ⟨⟨a1, a2, a3, b1, b2, b3, rfl, ho⟩, hbl⟩
    rw [eC] at ho ⊢
    have l1 := (show Rd _ _ _ from by obtain ⟨A1, A2, h1, -⟩ := ho; exact h1 : Rd w'' (.slice a1 a2 a3) C.pa).len
    have l2 := (show Rd _ _ _ from by obtain ⟨A1, A2, -, h1, -⟩ := ho; exact h1 : Rd w'' (.slice b1 b2 b3) C.va).len
    rw [eP] at l1
    rw [eV] at l2
    subst l1 l2
    exact ⟨⟨a1, a3, b1, b3, rfl, ho⟩, hbl⟩
  have EP := hide eP
  have EV := hide eV
  clear eP eV eR eC ek hV hb
  have hl' : ¬ (1048576 : Int) < (n : Int) := by omega
  have hcode : (code != code) = false := by simp
  go_enter Tryd.func3, Tryd.ntmps3
  go_wp2_with fail
  refine (toByteS_n p c n l en _ (unhide HH _ (Below.refl _ _)) hl).mono ?_
  rintro r w1 ⟨p1, c1, rfl, x1, b1⟩
  go_wp2_with fail
  refine (unhide SPEC p1 c1 _ b1 x1.rd).mono ?_
  rintro r w2 ⟨⟨p2, c2, q2, d2, rfl, r2, s2⟩, hb2⟩
  have b2 := Below.step b1 hb2
  have z1 := b1.size
  have z2 := hb2.size
  clear x1 b1 hb2
  go_wp2_with fail
  obtain ⟨W3, hW3⟩ : ∃ W, W = w2.alloc (.cells #[.int .i64 C.k, .int .i64 C.op, .int .u64 C.se, .slice p2 NP c2, .int .i64 C.fl, .slice q2 NV d2, .int .u64 C.ep, .int .u64 C.ge, .int .i64 C.n, .int .i64 C.m] 27) := ⟨_, rfl⟩
  have ba3 : Below w2.heap.size w2 W3 := by rw [hW3]; exact (Below.refl _ _).alloc (Nat.le_refl _) _
  have D3 := hide (by rw [hW3]; exact CellsAre.alloc w2 _ _ : CellsAre W3 w2.heap.size [.int .i64 C.k, .int .i64 C.op, .int .u64 C.se, .slice p2 NP c2, .int .i64 C.fl, .slice q2 NV d2, .int .u64 C.ep, .int .u64 C.ge, .int .i64 C.n, .int .i64 C.m])
  have z3 : W3.heap.size = w2.heap.size + 1 := by rw [hW3]; simp
  have b3 := Below.step b2 ba3
  have T3 := hide (And.intro (r2.below ba3) (s2.below ba3))
  rw [← hW3]
  clear hW3 ba3 b2 r2 s2
  refine (toByteS_n p c n l en _ (unhide HH _ b3) hl).mono ?_
  rintro r w4 ⟨p4, c4, rfl, x4, e4⟩
  have b4 := Below.step b3 e4
  have tx4 := x4.btw
  have z4 := e4.size
  have X4 := hide x4
  clear x4
  go_wp2_with fail
  refine (unhide IMPL p4 c4 _ b4 (unhide X4).rd).mono ?_
  rintro r w5 ⟨⟨p5, c5, q5, d5, rfl, o5⟩, hb5⟩
  have b5 := Below.step b4 hb5
  have e5 := Below.step e4 hb5
  have X5 := hide (Own.below (unhide X4) hb5)
  have z5 := hb5.size
  obtain ⟨A1, A2, o1, o2, v1, v2, o3, nd, lo⟩ := o5
  have hlo : ∀ a ∈ A1 ++ A2, w4.heap.size ≤ a.b ∧ a.b < w5.heap.size := fun a ha => ⟨(lo a ha).1, o3.lt ha⟩
  have LV := hide (And.intro v1 (And.intro v2 (And.intro nd hlo)))
  have lA : A1.length + A2.length ≤ 4194304 := by rw [v1.length, v2.length, unhide EP, unhide EV]; omega
  have O5 := hide (And.intro o1 (And.intro o2 o3))
  have D5 := hide ((unhide D3).below (by omega) e5)
  clear o1 o2 o3 v1 v2 nd lo hlo hb5 e4 b4 b3
  have bo : ∀ ob : Obj, Below w5.heap.size w5 (w5.alloc ob) := fun ob => (Below.refl _ _).alloc (Nat.le_refl _) _

  have u0 := fun ob => cell_below ((unhide D5).1 0 _ rfl) (bo ob)
  have u1 := fun ob => cell_below ((unhide D5).1 1 _ rfl) (bo ob)
  have u2 := fun ob => cell_below ((unhide D5).1 2 _ rfl) (bo ob)
  have u3 := fun ob => cell_below ((unhide D5).1 3 _ rfl) (bo ob)
  have u4 := fun ob => cell_below ((unhide D5).1 4 _ rfl) (bo ob)
  have u5 := fun ob => cell_below ((unhide D5).1 5 _ rfl) (bo ob)
  have u6 := fun ob => cell_below ((unhide D5).1 6 _ rfl) (bo ob)
  have u7 := fun ob => cell_below ((unhide D5).1 7 _ rfl) (bo ob)
  have u8 := fun ob => cell_below ((unhide D5).1 8 _ rfl) (bo ob)
  have u9 := fun ob => cell_below ((unhide D5).1 9 _ rfl) (bo ob)
  go_wp2_with fail
  obtain ⟨W6, hW6⟩ : ∃ W, W = w5.alloc (.cells #[.int .i64 C.k, .int .i64 C.op, .int .u64 C.se, .slice p5 NP c5, .int .i64 C.fl, .slice q5 NV d5, .int .u64 C.ep, .int .u64 C.ge, .int .i64 C.n, .int .i64 C.m] 27) := ⟨_, rfl⟩
  have ba6 : Below w5.heap.size w5 W6 := by rw [hW6]; exact (Below.refl _ _).alloc (Nat.le_refl _) _
  have G6 := hide (by rw [hW6]; exact CellsAre.alloc w5 _ _ : CellsAre W6 w5.heap.size [.int .i64 C.k, .int .i64 C.op, .int .u64 C.se, .slice p5 NP c5, .int .i64 C.fl, .slice q5 NV d5, .int .u64 C.ep, .int .u64 C.ge, .int .i64 C.n, .int .i64 C.m])
  have z6 : W6.heap.size = w5.heap.size + 1 := by rw [hW6]; simp
  rw [← hW6]
  clear hW6 bo u0 u1 u2 u3 u4 u5 u6 u7 u8 u9
  have b6 := Below.step b5 ba6
  have e6 := Below.step e5 ba6
  have O6 := hide (And.intro ((unhide O5).1.below ba6) (And.intro ((unhide O5).2.1.below ba6) ((unhide O5).2.2.below ba6)))
  have T6 := hide (And.intro ((unhide T3).1.below e6) ((unhide T3).2.below e6))
  have D6 := hide ((unhide D3).below (by omega) e6)
  have X6 := hide (Own.below (unhide X5) ba6)
  clear b5 e5 ba6
  refine (eqCmd_n C p5 c5 q5 d5 p2 c2 q2 d2 NP NV EP EV hNP hNV _ (unhide O6).1 (unhide O6).2.1 (unhide T6).1 (unhide T6).2).mono ?_
  rintro r w7 ⟨rfl, hb7⟩
  have b7 := Below.step b6 hb7
  have e7 := Below.step e6 hb7
  have O7 := hide (And.intro ((unhide O6).1.below hb7) (And.intro ((unhide O6).2.1.below hb7) ((unhide O6).2.2.below hb7)))
  have T7 := hide (And.intro ((unhide T3).1.below e7) ((unhide T3).2.below e7))
  have D7 := hide ((unhide D3).below (by omega) e7)
  have G7 := hide ((unhide G6).below (by omega) hb7)
  have X7 := hide (Own.below (unhide X6) hb7)
  have z7 := hb7.size
  clear hb7 b6 e6
  go_wp2_with fail
  refine (toByteS_n p c n l en _ (unhide HH _ b7) hl).mono ?_
  rintro r w8 ⟨p8, c8, rfl, y8, hb8⟩
  have b8 := Below.step b7 hb8
  have e8 := Below.step e7 hb8
  have O8 := hide (And.intro ((unhide O7).1.below hb8) (And.intro ((unhide O7).2.1.below hb8) ((unhide O7).2.2.below hb8)))
  have T8 := hide (And.intro ((unhide T3).1.below e8) ((unhide T3).2.below e8))
  have D8 := hide ((unhide D3).below (by omega) e8)
  have G8 := hide ((unhide G7).below (by omega) hb8)
  have X8 := hide (Own.below (unhide X7) hb8)
  have z8 := hb8.size
  clear hb8 b7 e7
  go_wp2_with fail
  refine (eqByteS_n p4 p8 c4 c8 n l en _ (unhide X8).rd y8.rd (by omega)).mono ?_
  rintro r w9 ⟨rfl, hb9⟩
  have b9 := Below.step b8 hb9
  have e9 := Below.step e8 hb9
  have O9 := hide (And.intro ((unhide O8).1.below hb9) (And.intro ((unhide O8).2.1.below hb9) ((unhide O8).2.2.below hb9)))
  have T9 := hide (And.intro ((unhide T3).1.below e9) ((unhide T3).2.below e9))
  have D9 := hide ((unhide D3).below (by omega) e9)
  have G9 := hide ((unhide G8).below (by omega) hb9)
  have X9 := hide (Own.below (unhide X8) hb9)
  have z9 := hb9.size
  clear hb9 b8 e8 y8
  go_wp2_with fail
  refine (markByteS_n W3.heap.size p4 c4 n l en 1 _ (unhide X9) (by omega) (by omega) (by omega)).mono ?_
  rintro r w10 ⟨rfl, x10, hg10⟩
  have hk10 : Kept [.slice p4 n c4] w9 w10 := Kept.of_grown hg10 (by simp)
  have b10 := below_markK b9 hk10 tx4 (by omega) (by omega)
  have e10 := below_markK e9 hk10 tx4 (Nat.le_refl _) (by omega)
  have z10 := hk10.size
  have hfar : ∀ b, w4.heap.size ≤ b → b < w9.heap.size → w10.heap[b]? = w9.heap[b]? := fun b h1 h2 => hg10.block b h2 (fun e => by have := tx4 b e.symm; omega)
  have O10 := hide (lvs_keep (unhide LV).1 (unhide LV).2.1 (unhide O9) (fun a ha => hfar a.b ((unhide LV).2.2.2 a ha).1 (by have := ((unhide LV).2.2.2 a ha).2; omega)))
  have G10 := hide ((unhide G9).keepB (hfar _ (by omega) (by omega)))
  have T10 := hide (And.intro ((unhide T3).1.below e10) ((unhide T3).2.below e10))
  have D10 := hide ((unhide D3).below (by omega) e10)
  clear hfar hg10 hk10 x10 b9 e9
  obtain ⟨K10, eK10⟩ : ∃ K : Nat, (1 : Int) + (n : Int) = (K : Int) := ⟨1 + n, by omega⟩
  have hK10 : ¬ (K10 : Int) < 0 := by omega
  rw [eK10]
  clear eK10
  obtain ⟨Dt, tf⟩ := unhide D10
  have t0 := Dt 0 _ rfl
  have t1 := Dt 1 _ rfl
  have t2 := Dt 2 _ rfl
  have t3 := Dt 3 _ rfl
  have t4 := Dt 4 _ rfl
  have t5 := Dt 5 _ rfl
  have t6 := Dt 6 _ rfl
  have t7 := Dt 7 _ rfl
  have t8 := Dt 8 _ rfl
  have t9 := Dt 9 _ rfl
  clear Dt
  obtain ⟨Dj, jf⟩ := unhide G10
  have j0 := Dj 0 _ rfl
  have j1 := Dj 1 _ rfl
  have j2 := Dj 2 _ rfl
  have j3 := Dj 3 _ rfl
  have j4 := Dj 4 _ rfl
  have j5 := Dj 5 _ rfl
  have j6 := Dj 6 _ rfl
  have j7 := Dj 7 _ rfl
  have j8 := Dj 8 _ rfl
  have j9 := Dj 9 _ rfl
  clear Dj
  go_wp2_with fail
  refine (eqCmd_n C p5 c5 q5 d5 p2 c2 q2 d2 NP NV EP EV hNP hNV _ (unhide O10).1 (unhide O10).2.1 (unhide T10).1 (unhide T10).2).mono ?_
  rintro r w11 ⟨rfl, hb11⟩
  have b11 := Below.step b10 hb11
  have e11 := Below.step e10 hb11
  have O11 := hide (And.intro ((unhide O10).1.below hb11) (And.intro ((unhide O10).2.1.below hb11) ((unhide O10).2.2.below hb11)))
  have T11 := hide (And.intro ((unhide T3).1.below e11) ((unhide T3).2.below e11))
  have D11 := hide ((unhide D3).below (by omega) e11)
  have G11 := hide ((unhide G10).below (by omega) hb11)
  have z11 := hb11.size
  clear tf t0 t1 t2 t3 t4 t5 t6 t7 t8 t9
  clear jf j0 j1 j2 j3 j4 j5 j6 j7 j8 j9
  clear hb11 b10 e10
  obtain ⟨Dj, jf⟩ := unhide G11
  have j0 := Dj 0 _ rfl
  have j1 := Dj 1 _ rfl
  have j2 := Dj 2 _ rfl
  have j3 := Dj 3 _ rfl
  have j4 := Dj 4 _ rfl
  have j5 := Dj 5 _ rfl
  have j6 := Dj 6 _ rfl
  have j7 := Dj 7 _ rfl
  have j8 := Dj 8 _ rfl
  have j9 := Dj 9 _ rfl
  clear Dj
  obtain ⟨K12, eK12⟩ : ∃ K : Nat, (1 : Int) + (A1.length : Int) + (A2.length : Int) = (K : Int) := ⟨1 + A1.length + A2.length, by omega⟩
  have hK12 : ¬ (K12 : Int) < 0 := by omega
  have hK12' : ((K12 : Int) != (K12 : Int)) = false := by simp
  have EK := hide eK12
  clear eK12
  go_wp2_with fail
  refine (markCmd_lv C p5 q5 NP NV c5 d5 C.pa C.va A1 A2 _ (unhide LV).1 (unhide LV).2.1 (unhide O11).2.2 lA).mono ?_
  rintro r w12 ⟨rfl, hm12⟩
  have b12 := b11.trans (hm12.below (B := w.heap.size) (fun a ha => by have := ((unhide LV).2.2.2 a ha).1; omega) (by omega))
  have e12 := e11.trans (hm12.below (B := W3.heap.size) (fun a ha => by have := ((unhide LV).2.2.2 a ha).1; omega) (by omega))
  have G12 := hide ((unhide G11).keepB (hm12.blk _ (by omega) (fun a ha e => by have := ((unhide LV).2.2.2 a ha).2; omega)))
  have H12 := hide (hm12.held (unhide LV).2.2.1)
  have z12 := hm12.size
  have T12 := hide (And.intro ((unhide T3).1.below e12) ((unhide T3).2.below e12))
  have D12 := hide ((unhide D3).below (by omega) e12)
  clear jf j0 j1 j2 j3 j4 j5 j6 j7 j8 j9
  clear hm12 b11 e11
  rw [unhide EK]
  obtain ⟨Dj, jf⟩ := unhide G12
  have j0 := Dj 0 _ rfl
  have j1 := Dj 1 _ rfl
  have j2 := Dj 2 _ rfl
  have j3 := Dj 3 _ rfl
  have j4 := Dj 4 _ rfl
  have j5 := Dj 5 _ rfl
  have j6 := Dj 6 _ rfl
  have j7 := Dj 7 _ rfl
  have j8 := Dj 8 _ rfl
  have j9 := Dj 9 _ rfl
  clear Dj
  go_wp2_with fail
  refine (heldCmd_lv C p5 q5 NP NV c5 d5 C.pa C.va A1 A2 _ (unhide LV).1 (unhide LV).2.1 (unhide H12) lA).mono ?_
  rintro r w13 ⟨rfl, hb13⟩
  rw [unhide EK]
  have b13 := Below.step b12 hb13
  have e13 := Below.step e12 hb13
  have T13 := hide (And.intro ((unhide T3).1.below e13) ((unhide T3).2.below e13))
  have D13 := hide ((unhide D3).below (by omega) e13)
  have z13 := hb13.size
  clear jf j0 j1 j2 j3 j4 j5 j6 j7 j8 j9
  clear hb13 b12 e12
  go_wp2_with fail
  refine (toByteS_n p c n l en _ (unhide HH _ b13) hl).mono ?_
  rintro r w14 ⟨p14, c14, rfl, y14, hb14⟩
  have b14 := Below.step b13 hb14
  have e14 := Below.step e13 hb14
  have z14 := hb14.size
  clear b13 e13 hb14
  go_wp2_with fail
  refine (unhide IMPL p14 c14 _ b14 y14.rd).mono ?_
  rintro r w15 ⟨⟨p15, c15, q15, d15, rfl, o15⟩, hb15⟩
  have b15 := Below.step b14 hb15
  have e15 := Below.step e14 hb15
  have z15 := hb15.size
  obtain ⟨A3, A4, o1, o2, -⟩ := o15
  have O15 := hide (And.intro o1 o2)
  clear b14 e14 hb15 y14 o1 o2
  have T15 := hide (And.intro ((unhide T3).1.below e15) ((unhide T3).2.below e15))
  have D15 := hide ((unhide D3).below (by omega) e15)
  have bo : ∀ ob : Obj, Below w15.heap.size w15 (w15.alloc ob) := fun ob => (Below.refl _ _).alloc (Nat.le_refl _) _
  have h0 := fun ob => cell_below ((unhide D15).1 0 _ rfl) (bo ob)
  have h1 := fun ob => cell_below ((unhide D15).1 1 _ rfl) (bo ob)
  have h2 := fun ob => cell_below ((unhide D15).1 2 _ rfl) (bo ob)
  have h3 := fun ob => cell_below ((unhide D15).1 3 _ rfl) (bo ob)
  have h4 := fun ob => cell_below ((unhide D15).1 4 _ rfl) (bo ob)
  have h5 := fun ob => cell_below ((unhide D15).1 5 _ rfl) (bo ob)
  have h6 := fun ob => cell_below ((unhide D15).1 6 _ rfl) (bo ob)
  have h7 := fun ob => cell_below ((unhide D15).1 7 _ rfl) (bo ob)
  have h8 := fun ob => cell_below ((unhide D15).1 8 _ rfl) (bo ob)
  have h9 := fun ob => cell_below ((unhide D15).1 9 _ rfl) (bo ob)
  go_wp2_with fail
  refine (eqCmd_n C p15 c15 q15 d15 p2 c2 q2 d2 NP NV EP EV hNP hNV _ ((unhide O15).1.below (bo _)) ((unhide O15).2.below (bo _)) ((unhide T15).1.below (bo _)) ((unhide T15).2.below (bo _))).mono ?_
  rintro r w16 ⟨rfl, hb16⟩
  have b16 := Below.step (Below.step b15 (bo _)) hb16
  clear hb16 b15 e15 bo h0 h1 h2 h3 h4 h5 h6 h7 h8 h9
  go_wp2
  go_ret
  exact ⟨rfl, b16⟩
end Go.Proofs.YtlkhghcffhckmaaDoor
