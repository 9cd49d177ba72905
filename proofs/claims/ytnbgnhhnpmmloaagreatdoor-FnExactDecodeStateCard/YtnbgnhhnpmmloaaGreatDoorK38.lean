import Derived.Test.YtnbgnhhnpmmloaaGreatDoorK5
import Derived.Test.YtnbgnhhnpmmloaaGreatDoorK18
import Derived.Test.YtnbgnhhnpmmloaaGreatDoorK36
import Derived.Test.YtnbgnhhnpmmloaaGreatDoorXCe
namespace Go.Proofs.YtnbgnhhnpmmloaaGreatDoor
open Go.ChangeShapes Go.WideShapes Go.ChangeAt Go.RowKit
set_option linter.unusedVariables false
set_option linter.unusedSimpArgs false
set_option maxRecDepth 100000
def oB : Option (List Int) → Int × Option (List Int)
 | some (c :: t) => (c, some t)
 | _ => (0, none)
def oV : Option (List Int) → Int × Option (List Int)
 | some m => (match rv m with | some x => (x.1, some x.2) | none => (0, none))
 | none => (0, none)
def oT : Option (List Int) → List Int × Option (List Int)
 | some m => (match rt m with | some x => (x.1, some x.2) | none => ([], none))
 | none => ([], none)
def atI (n : Nat) : Option (List Int) → Int
 | some m => (n : Int) - m.length
 | none => -1
def Sfx (n : Nat) (l : List Int) (om : Option (List Int)) : Prop := ∀ m, om = some m → m.length ≤ n ∧ m = l.drop (n - m.length)
theorem Sfx.start {n : Nat} {l : List Int} (h : l.length = n) : Sfx n l (some l) := fun m e => by
 simp at e
 subst e
 exact ⟨by omega, by rw [h, Nat.sub_self]; rfl⟩
theorem Sfx.none {n : Nat} {l : List Int} : Sfx n l none := fun m e => by cases e
theorem Sfx.of_drop {n : Nat} {l m : List Int} (hl : l.length = n) (h : Sfx n l (some m)) {t : List Int} (ht : t.length ≤ m.length) (e : t = m.drop (m.length - t.length)) : Sfx n l (some t) := fun x ex => by
 simp at ex
 subst ex
 obtain ⟨h1, h2⟩ := h m rfl
 refine ⟨by omega, ?_⟩
 conv => lhs; rw [e, h2, List.drop_drop, List.length_drop, hl]
 congr 1
 omega
theorem oB_sfx {n : Nat} {l : List Int} {om : Option (List Int)} (hl : l.length = n) (h : Sfx n l om) : Sfx n l (oB om).2 := by
 match om, h with
 | none, _ => exact Sfx.none
 | some [], _ => exact Sfx.none
 | some (c :: t), h => exact Sfx.of_drop hl h (by simp) (by simp)
theorem oV_sfx {n : Nat} {l : List Int} {om : Option (List Int)} (hl : l.length = n) (h : Sfx n l om) : Sfx n l (oV om).2 := by
 match om, h with
 | none, _ => exact Sfx.none
 | some m, h =>
  show Sfx n l (match rv m with | some x => (x.1, some x.2) | none => (0, none) : Int × Option (List Int)).2
  cases e : rv m with
  | none => exact Sfx.none
  | some x =>
   obtain ⟨v, t⟩ := x
   obtain ⟨_, _, h3, h4⟩ := rvF_range 10 0 0 m v t e
   exact Sfx.of_drop (t := t) hl h (Nat.le_of_lt h3) h4
theorem rt_len {m : List Int} {x : List Int × List Int} (h : rt m = some x) : x.2.length ≤ m.length ∧ x.2 = m.drop (m.length - x.2.length) ∧ ∃ a b, x.1 = (m.drop a).take b := by
 unfold rt at h
 cases e : rv m with
 | none => rw [e] at h; simp at h
 | some y =>
  obtain ⟨v, t⟩ := y
  rw [e] at h
  simp only at h
  obtain ⟨v0, _, h3, h4⟩ := rvF_range 10 0 0 m v t e
  split at h
  ·cases h
  ·next hv =>
   simp at h
   subst h
   simp only [List.length_drop]
   refine ⟨by omega, ?_, m.length - t.length, v.toNat, by rw [← h4]⟩
   conv => lhs; rw [h4, List.drop_drop]
   congr 1
   omega
theorem oT_sfx {n : Nat} {l : List Int} {om : Option (List Int)} (hl : l.length = n) (h : Sfx n l om) : Sfx n l (oT om).2 := by
 match om, h with
 | none, _ => exact Sfx.none
 | some m, h =>
  show Sfx n l (match rt m with | some x => (x.1, some x.2) | none => ([], none) : List Int × Option (List Int)).2
  cases e : rt m with
  | none => exact Sfx.none
  | some x =>
   obtain ⟨h1, h2, _⟩ := rt_len e
   exact Sfx.of_drop hl h h1 h2
theorem oT_byt {l : List Int} {n : Nat} (hb : Byt l) {om : Option (List Int)} (h : Sfx n l om) : Byt (oT om).1 ∧ (oT om).1.length ≤ n := by
 match om, h with
 | none, _ => exact ⟨fun z hz => by simp [oT] at hz, by simp [oT]⟩
 | some m, h =>
  obtain ⟨h1, h2⟩ := h m rfl
  have hm : Byt m := by rw [h2]; exact fun z hz => hb z (List.mem_of_mem_drop hz)
  show Byt (match rt m with | some x => (x.1, some x.2) | none => ([], none) : List Int × Option (List Int)).1 ∧ (match rt m with | some x => (x.1, some x.2) | none => ([], none) : List Int × Option (List Int)).1.length ≤ n
  cases e : rt m with
  | none => exact ⟨fun z hz => by simp at hz, by simp⟩
  | some x =>
   obtain ⟨_, _, a, b, h3⟩ := rt_len e
   refine ⟨?_, ?_⟩
   ·show Byt x.1
    rw [h3]
    exact fun z hz => hm z (List.mem_of_mem_drop (List.mem_of_mem_take hz))
   ·show x.1.length ≤ n
    rw [h3, List.length_take, List.length_drop]
    omega
theorem oB_range {l : List Int} {n : Nat} (hb : Byt l) {om : Option (List Int)} (h : Sfx n l om) : 0 ≤ (oB om).1 ∧ (oB om).1 < 256 := by
 match om, h with
 | none, _ => simp [oB]
 | some [], _ => simp [oB]
 | some (c :: t), h =>
  obtain ⟨h1, h2⟩ := h _ rfl
  exact hb c (List.mem_of_mem_drop (by rw [← h2]; simp))
theorem oV_range {om : Option (List Int)} : 0 ≤ (oV om).1 ∧ (oV om).1 < 18446744073709551616 := by
 cases om with
 | none => simp [oV]
 | some m =>
  show 0 ≤ (match rv m with | some x => (x.1, some x.2) | none => (0, none) : Int × Option (List Int)).1 ∧ (match rv m with | some x => (x.1, some x.2) | none => (0, none) : Int × Option (List Int)).1 < _
  cases e : rv m with
  | none => simp
  | some x =>
   obtain ⟨v, t⟩ := x
   obtain ⟨h1, h2, _⟩ := rvF_range 10 0 0 m v t e
   exact ⟨h1, h2⟩
theorem rt_tx (P rest : List Int) (h : P.length < 18446744073709551616) : rt (tx P ++ rest) = some (P, rest) := by
 rw [rt, tx, List.append_assoc, rv_vi _ _ h]
 simp only [List.length_append]
 rw [if_neg (by omega)]
 simp
theorem readByte_o (p : Option Addr) (c n : Nat) (l : List Int) (en : Hid (l.length = n)) (w : World) (h : Rd w (.slice p n c) l) (hb : Byt l) (hl : n ≤ 1048576) (om : Option (List Int)) (hs : Sfx n l om) (x : Int) (om' : Option (List Int)) (e : Hid (oB om = (x, om'))) :
  Calls Tryz.prog 33 #[.slice p n c, .int .i64 (atI n om)] w fun e w' => e = .returned (.tuple #[.int .i64 x, .int .i64 (atI n om')]) ∧ w' = w := by
 have e := uh e
 match om, hs with
 | none, _ =>
  simp [oB] at e
  obtain ⟨rfl, rfl⟩ := e
  exact readByte_neg p c n w
 | some [], hs =>
  simp [oB] at e
  obtain ⟨rfl, rfl⟩ := e
  have ea : atI n (some []) = (n : Int) := by simp [atI]
  rw [ea]
  exact readByte_end p c n w hl
 | some (y :: t), hs =>
  simp [oB] at e
  obtain ⟨rfl, rfl⟩ := e
  obtain ⟨h1, h2⟩ := hs _ rfl
  simp only [List.length_cons] at h1 h2
  obtain ⟨a, ea⟩ : ∃ a, n - (t.length + 1) = a := ⟨_, rfl⟩
  rw [ea] at h2
  have e1 : atI n (some (y :: t)) = (a : Int) := by simp [atI]; omega
  have e2 : atI n (some t) = ((a + 1 : Nat) : Int) := by simp [atI]; omega
  have e3 : l.getD a 0 = y := by
   have := congrArg (fun z => z.getD 0 0) h2
   simp [List.getD] at this
   simp [List.getD, ← this]
  have := readByte_at p c n a l en w h hb hl (by omega)
  rw [e3] at this
  rw [e1, e2]
  exact this
theorem readVar_o (p : Option Addr) (c n : Nat) (l : List Int) (en : Hid (l.length = n)) (w : World) (h : Rd w (.slice p n c) l) (hb : Byt l) (hl : n ≤ 1048576) (om : Option (List Int)) (hs : Sfx n l om) (x : Int) (om' : Option (List Int)) (e : Hid (oV om = (x, om'))) :
  Calls Tryz.prog 31 #[.slice p n c, .int .i64 (atI n om)] w fun e w' => e = .returned (.tuple #[.int .u64 x, .int .i64 (atI n om')]) ∧ w' = w := by
 have e := uh e
 match om, hs with
 | none, _ =>
  simp [oV] at e
  obtain ⟨rfl, rfl⟩ := e
  exact readVar_neg p c n w
 | some m, hs =>
  obtain ⟨h1, h2⟩ := hs _ rfl
  obtain ⟨a, ea⟩ : ∃ a, n - m.length = a := ⟨_, rfl⟩
  rw [ea] at h2
  have e1 : atI n (some m) = (a : Int) := by simp [atI]; omega
  have := readVar_at p c n a l en w h hb hl (by omega) (rv m) (by show _ = _; rw [← h2])
  rw [e1]
  refine this.mono ?_
  rintro r w' ⟨rfl, rfl⟩
  refine ⟨?_, rfl⟩
  unfold oV at e
  dsimp only at e
  cases er : rv m with
  | none => rw [er] at e; simp at e; obtain ⟨rfl, rfl⟩ := e; rfl
  | some y => rw [er] at e; simp at e; obtain ⟨rfl, rfl⟩ := e; rfl
theorem readText_o (p : Option Addr) (c n : Nat) (l : List Int) (en : Hid (l.length = n)) (w : World) (h : Rd w (.slice p n c) l) (hb : Byt l) (hl : n ≤ 1048576) (hnc : n ≤ c) (om : Option (List Int)) (hs : Sfx n l om) (x : List Int) (om' : Option (List Int)) (e : Hid (oT om = (x, om'))) (N : Nat) (eN : Hid (x.length = N)) :
  Calls Tryz.prog 32 #[.slice p n c, .int .i64 (atI n om)] w fun e w' => ∃ p' c', e = .returned (.tuple #[.slice p' N c', .int .i64 (atI n om')]) ∧ Own w.heap.size w' (.slice p' N c') x ∧ Below w.heap.size w w' := by
 have e := uh e
 match om, hs with
 | none, _ =>
  simp [oT] at e
  obtain ⟨rfl, rfl⟩ := e
  have hN : N = 0 := by rw [← uh eN]; rfl
  subst hN
  refine (readText_neg p c n w).mono ?_
  rintro r w' ⟨rfl, rfl⟩
  exact ⟨none, 0, rfl, World.ownsRow_nil _ _ _ _, Below.refl _ _⟩
 | some m, hs =>
  obtain ⟨h1, h2⟩ := hs _ rfl
  obtain ⟨a, ea⟩ : ∃ a, n - m.length = a := ⟨_, rfl⟩
  rw [ea] at h2
  have e1 : atI n (some m) = (a : Int) := by simp [atI]; omega
  have e2 : tOf (rt m) = x ∧ bOf n (rt m) = atI n om' := by
   unfold oT at e
   dsimp only at e
   cases er : rt m with
   | none => rw [er] at e; simp at e; obtain ⟨rfl, rfl⟩ := e; exact ⟨rfl, rfl⟩
   | some y => rw [er] at e; simp at e; obtain ⟨rfl, rfl⟩ := e; exact ⟨rfl, rfl⟩
  have := readText_at p c n a l en w h hb hl hnc (by omega) (rt m) (by show _ = _; rw [← h2]) N (by show _ = _; rw [e2.1]; exact uh eN)
  rw [e1]
  rw [e2.1, e2.2] at this
  exact this
def seB (s : Ses) : List Int := vi s.1.toNat
set_option maxHeartbeats 800000 in
theorem sesBytes_any (v : Nat) (d : Int) (p : Option Addr) (n c : Nat) (w : World) (h64 : v < 18446744073709551616) :
  Calls Tryz.prog 57 #[.agg #[.int .u64 v, .int .i64 d, .slice p n c]] w fun e w' => ∃ p' c', e = .returned (.slice p' (vi v).length c') ∧ Own w.heap.size w' (.slice p' (vi v).length c') (vi v) ∧ Below w.heap.size w w' := by
 go_enter Tryz.func57, Tryz.ntmps57
 go_wp2_with fail
 have hb : Below w.heap.size w (w.alloc (.cells #[.int .u64 v, .int .i64 d, .slice p n c] 59)) := (Below.refl _ _).alloc (Nat.le_refl _) _
 refine (varint_any v _ h64).mono ?_
 rintro r w1 ⟨p1, c1, rfl, o1, b1⟩
 have b2 := Below.step hb b1
 have o2 := Own.mono (B' := w.heap.size) o1 (by simp)
 clear o1 b1
 go_wp2
 go_ret
 exact ⟨p1, c1, rfl, o2, b2⟩
set_option maxHeartbeats 3200000 in
theorem listS_any (p : Option Addr) (c n : Nat) (l : List Ses) (en : Hid (l.length = n)) (w : World) (h : RdSc w (.slice p n c) l) (hn : n ≤ 900) (hu : Hid (∀ s ∈ l, 0 ≤ s.1 ∧ s.1 < 18446744073709551616)) (N : Nat) (eN : Hid ((liB seB l).length = N)) (hN : N ≤ 4194304) :
  Calls Tryz.prog 56 #[.slice p n c, .func (.func 57) #[] #[]] w fun e w' => ∃ p' c', e = .returned (.slice p' N c') ∧ Own w.heap.size w' (.slice p' N c') (liB seB l) ∧ Below w.heap.size w w' := by
 obtain ⟨ib, hib, hz0, hz1, hz2⟩ := info_parts Tryz.infoSl
 have HR := hide fun (w' : World) (hb : Below w.heap.size w w') => h.below hb
 clear h
 have wn : IntKind.u64.wrap (n : Int) = (n : Int) := by rw [IntKind.wrap_u64]; omega
 go_enter Tryz.func56, Tryz.ntmps56
 go_wp2_with fail
 refine (varint_any n w (by omega)).mono ?_
 rintro r w1 ⟨p1, c1, rfl, o1, b1⟩
 obtain ⟨Ls0, hP⟩ := PartsO.one o1 b1.size
 obtain ⟨v0, hv0⟩ : ∃ V, V = w1.alloc (.cells #[.slice p1 (vi n).length c1] 22) := ⟨_, rfl⟩
 have hb0 : Below w.heap.size w v0 := by rw [hv0]; exact b1.alloc b1.size _
 rw [← hv0] at hP
 have HP := hide hP
 clear hP o1
 generalize (vi n).length = M at *
 go_wp2
 rw [← hv0]
 clear hv0 b1
 go_loopw [5, 15] (fun pv iv wr => ∃ (k : Nat) (p2 : Option Addr) (c2 : Nat) (Ls : List (List Lf)), k ≤ n ∧ pv = .slice p2 (k + 1) c2 ∧ iv = .int .i64 k ∧ Hid (PartsO w.heap.size wr (.slice p2 (k + 1) c2) (vi n :: (l.take k).map seB) Ls) ∧ Below w.heap.size w wr) (fun _ iv _ => n - (intOf iv).toNat)
 case atStart => exact ⟨0, _, _, _, Nat.zero_le _, rfl, rfl, uh HP, hb0⟩
 case round =>
  obtain ⟨k, p2, c2, Ls, hk, rfl, rfl, ho, hbr⟩ := hrel
  by_cases hlt : k < n
  ·have hlt' : (k : Int) < (n : Int) := by omega
   have hkl : k < l.length := by rw [uh en]; exact hlt
   obtain ⟨⟨i, dl, qu⟩, hy⟩ : ∃ y, l[k]? = some y := ⟨_, List.getElem?_eq_getElem hkl⟩
   have hi := uh hu _ (List.mem_of_getElem? hy)
   dsimp only at hi
   obtain ⟨v, rfl⟩ : ∃ v : Nat, i = (v : Int) := ⟨i.toNat, by omega⟩
   obtain ⟨b, o, rfl, hc0, hc1, pq, nq, cq, hc2⟩ : ∃ b o, p = some ⟨b, o, none⟩ ∧ wr.cell? ⟨b, o + k * 3, none⟩ = some (.int .u64 v) ∧ wr.cell? ⟨b, o + k * 3 + 1, none⟩ = some (.int .i64 dl) ∧ ∃ pq nq cq, wr.cell? ⟨b, o + k * 3 + 2, none⟩ = some (.slice pq nq cq) := by
    obtain ⟨p', c', ev, hd⟩ := uh HR _ hbr
    simp only [Value.slice.injEq] at ev
    obtain ⟨rfl, -, -⟩ := ev
    rcases hd with h0 | ⟨b, o, h1, h2⟩
    ·rw [h0] at hkl; simp at hkl
    ·obtain ⟨d1, d2, u, d3, d4⟩ := h2 k _ hy
     obtain ⟨pq, cq, rfl, -⟩ := d4
     exact ⟨b, o, h1, d1, d2, pq, _, cq, d3⟩
   have HY := hide hy
   clear hkl hy
   have wk : IntKind.i64.wrap ((k : Int) + 1) = ((k + 1 : Nat) : Int) := by rw [IntWalk.i64_in _ (by omega)]; omega
   go_wp2_with fail
   obtain ⟨X, hX⟩ : ∃ X, X = wr.alloc (.cells #[.int .u64 v, .int .i64 dl, .slice pq nq cq] 59) := ⟨_, rfl⟩
   have hbX : Below wr.heap.size wr X := by rw [hX]; exact (Below.refl _ _).alloc (Nat.le_refl _) _
   have ho2 := hide ((uh ho).below elBy.keep hbX)
   have hbr2 := Below.step hbr hbX
   rw [← hX]
   clear hX ho hbr hbX
   refine (sesBytes_any v dl pq nq cq X (by omega)).mono ?_
   rintro r w3 ⟨p3, c3, rfl, o3, hb3⟩
   have b3 := Below.step hbr2 hb3
   have hA : Below w3.heap.size w3 (w3.alloc (.cells #[.slice p3 (vi v).length c3] 22)) := (Below.refl _ _).alloc (Nat.le_refl _) _
   have OZ := (uh ho2).below elBy.keep (Below.step hb3 hA)
   have hlV := (uh ho2).lt
   obtain ⟨lb, q1, q2, -, q4⟩ := row_lv (kd := .u8) (Own.below o3 hA)
   have elz : elBy (w3.alloc (.cells #[.slice p3 (vi v).length c3] 22)) (vi v) [.slice p3 (vi v).length c3] lb := ⟨p3, c3, rfl, (Own.below o3 hA).rd, q1⟩
   obtain ⟨cs, g1, g2, g3, g4, g5, g6, g7⟩ := id OZ
   have lenX : (vi n :: (l.take k).map seB).length = k + 1 := by rw [List.length_cons, List.length_map, List.length_take, uh en]; omega
   rw [lenX] at g4
   have z3 := hb3.size
   have zr := hbr2.size
   have EL := hide elz
   have Q2 := hide q2
   have GG := hide (And.intro g1 (And.intro g2 (And.intro g3 (And.intro g5 (And.intro g6 g7)))))
   have HLV := hide hlV
   have LX := hide lenX
   clear hc0 hc1 hc2 o3 OZ q1 q2 q4 elz g1 g2 g3 g5 g6 g7 hlV lenX ho2
   obtain ⟨M3, eM3⟩ : ∃ M, (vi v).length = M := ⟨_, rfl⟩
   rw [eM3] at g4 EL Q2 GG hA ⊢
   have EM3 := hide eM3
   clear eM3
   have hcZ : ∀ j u, [Value.slice p3 M3 c3][j]? = some u → (w3.alloc (.cells #[.slice p3 M3 c3] 22)).cell? ⟨w3.heap.size, j, none⟩ = some u := fun j u hu => by
    have := (CellsAre.alloc w3 #[.slice p3 M3 c3] 22).1 j u (by simpa using hu)
    exact this
   go_wp2_with (at_builtin; refine wpList_append_fr rfl _ _ 126 rfl w.heap.size 22 ib _ 1 24 Tryz.underlying126 hib hz0 hz1 hz2 rfl (by decide) (.slice p2 (k + 1) c2) (k + 1) _ rfl g4 w3.heap.size 1 1 [.slice p3 M3 c3] rfl rfl hcZ (fun u hu => by simp at hu; subst hu; rfl) (by unfold maxLen; omega) (by omega) (by simp; omega) ?_)
   intro v' w9 hrow hg hfr
   obtain ⟨p9, c9, rfl⟩ : ∃ p9 c9, v' = .slice p9 (k + 1 + 1) c9 := by
    rcases hrow.2 with ⟨rfl, h0⟩ | ⟨g, cap, cur, rfl, -⟩
    ·omega
    ·exact ⟨_, _, rfl⟩
   obtain ⟨g1, g2, g3, g5, g6, g7⟩ := uh GG
   have hlV := uh HLV
   have hrow' : w9.ownsRow w.heap.size 22 1 (.slice p9 (k + 1 + 1) c9) ((vi n :: (l.take k).map seB).length + 1) (cs.flatten ++ [.slice p3 M3 c3]) := by rw [uh LX]; exact hrow
   have sn := OwnT.snoc g1 g2 g3 g5 g6 g7 elBy.keep (uh EL) rfl (uh Q2) (by omega) (fun a ha => (hlV.2 a ha).2) (fun b hb => (hlV.1 b hb).2) hrow' hg (fun g hg' => by
    have := hfr g hg'
    simpa using this)
   have eL : (vi n :: (l.take k).map seB) ++ [vi v] = vi n :: (l.take (k + 1)).map seB := by
    rw [List.take_add_one, uh HY, List.map_append]
    simp [seB]
   rw [eL] at sn
   have hb9 : Below w.heap.size w w9 := (b3.alloc b3.size _).grown hg (by simp; omega) (fun b hb => (hlV.1 b hb).1)
   have SN := hide sn
   clear sn eL hrow hrow' hg hfr g1 g2 g3 g4 g5 g6 g7 hlV hcZ GG EL Q2
   go_wp2
   go_roundw
   case rel => exact ⟨k + 1, _, _, _, by omega, rfl, by go_num, uh SN, hb9⟩
   case measure => simp [intOf]; omega
  ·have hlt' : ¬ (k : Int) < (n : Int) := by omega
   have ekn : n = k := by omega
   subst ekn
   have hO := uh ho
   rw [List.take_of_length_le (by rw [uh en]; exact Nat.le_refl _)] at hO
   have lenX : (vi n :: l.map seB).length = n + 1 := by rw [List.length_cons, List.length_map, uh en]
   obtain ⟨G, vs, rfl, hPa⟩ := hO.parts lenX (by omega)
   have HPA := hide hPa
   have EE : Hid (liB seB l = cat (vi n :: l.map seB)) := by show _ = _; rw [liB, uh en]
   have LX := hide lenX.symm
   clear hO hPa lenX ho hk hlt
   go_wp2_with fail
   refine (joinedC_any G c2 vs (vi n :: l.map seB) (liB seB l) N (n + 1) LX EE eN _ (uh HPA) hN (by omega)).mono ?_
   rintro r w5 ⟨p5, c5, rfl, o5, hb5⟩
   have b5 := Below.step hbr hb5
   have O5 := hide (Own.mono (B' := w.heap.size) o5 hbr.size)
   clear o5 hb5
   go_wp2
   go_ret
   exact ⟨p5, c5, rfl, uh O5, b5⟩
def stB (e g x : Nat) (ss : List Ses) (ns : List Nod) : List Int := cat [vi e, vi g, vi x, liB seB ss, liB noB ns]
theorem liB_map {α : Type} (f : α → List Int) (h : α → α) (hf : ∀ x, f (h x) = f x) (l : List α) : liB f (l.map h) = liB f l := by
 rw [liB, liB, List.length_map, List.map_map]
 congr 2
 exact List.map_congr_left fun x _ => hf x
theorem stB_dur (e g x : Nat) (ss : List Ses) (ns : List Nod) : stB e g x (ss.map sesF) (ns.map nodF) = stB e g x ss ns := by
 rw [stB, stB, liB_map seB sesF (fun _ => rfl), liB_map noB nodF (fun _ => rfl)]
theorem len_sub : ∀ (l m : List Int), l.Nodup → (∀ x ∈ l, x ∈ m) → l.length ≤ m.length
 | [], m, _, _ => Nat.zero_le _
 | x :: l, m, hd, hs => by
  rw [List.nodup_cons] at hd
  have hx := hs x (by simp)
  have h := len_sub l (m.erase x) hd.2 fun y hy => (List.mem_erase_of_ne (fun e => hd.1 (by rw [← e]; exact hy))).2 (hs y (by simp [hy]))
  rw [List.length_erase_of_mem hx] at h
  have := List.length_pos_of_mem hx
  rw [List.length_cons]
  omega
theorem cutG_len {α : Type} [DecidableEq α] (c : α) (s : List α) : ((cutG c s).map fun n => n.length + 1).sum = s.length + 1 := by
 induction s with
 | nil => rfl
 | cons x l ih =>
  rw [cutG]
  split
  ·rw [List.map_cons, List.sum_cons, ih, List.length_cons, List.length_nil]
   omega
  ·cases h : cutG c l with
   | nil => have := cutG_pos c l; rw [h] at this; simp at this
   | cons n ns =>
    rw [h] at ih
    simp only [List.map_cons, List.sum_cons, List.length_cons] at ih ⊢
    omega
theorem sum_le (C : Nat) : ∀ l : List Nat, (∀ x ∈ l, x ≤ C) → l.sum ≤ C * l.length
 | [], _ => Nat.zero_le _
 | x :: l, h => by
  have h1 := sum_le C l fun y hy => h y (by simp [hy])
  have h2 := h x (by simp)
  rw [List.sum_cons, List.length_cons, Nat.mul_succ]
  omega
theorem vp_len {p : List Int} (h : vp p = true) : p.length ≤ 136 := by
 cases p with
 | nil => simp
 | cons c t =>
  rw [vp, st, Bool.and_eq_true, Bool.and_eq_true, decide_eq_true_eq, List.all_eq_true] at h
  obtain ⟨-, h1, h2⟩ := h
  have h3 := sum_le 17 ((cutG 47 t).map fun n => n.length + 1) (fun x hx => by
   obtain ⟨n, hn, rfl⟩ := List.mem_map.1 hx
   have := h2 n hn
   simp only [nmOK, Bool.and_eq_true, decide_eq_true_eq] at this
   omega)
  rw [cutG_len, List.length_map] at h3
  rw [List.length_cons]
  omega
theorem cat_len {α : Type} (f : α → List Int) (C : Nat) : ∀ l : List α, (∀ x ∈ l, (f x).length ≤ C) → (cat (l.map f)).length ≤ C * l.length
 | [], _ => Nat.zero_le _
 | x :: l, h => by
  have h1 := cat_len f C l fun y hy => h y (by simp [hy])
  have h2 := h x (by simp)
  rw [List.map_cons, cat, List.flatten_cons, List.length_append, List.length_cons, Nat.mul_succ]
  rw [cat] at h1
  omega
theorem liB_is {α : Type} (f : α → List Int) (l : List α) : liB f l = vi l.length ++ cat (l.map f) := by rw [liB, cat, List.flatten_cons, cat]
structure Sml (ss : List Ses) (ns : List Nod) : Prop where
 n1 : ss.length ≤ 50
 n2 : ns.length ≤ 200
 s : ∀ s ∈ ss, 0 ≤ s.1 ∧ s.1 < 18446744073709551616
 d : ∀ nd ∈ ns, (nd.path.length ≤ 136 ∧ nd.value.length ≤ 40 ∧ nd.holders.length ≤ 50) ∧ (0 ≤ nd.mode ∧ nd.mode ≤ 2) ∧ (0 ≤ nd.owner ∧ nd.owner < 18446744073709551616) ∧ (0 ≤ nd.epoch ∧ nd.epoch < 18446744073709551616) ∧ (0 ≤ nd.gen ∧ nd.gen < 18446744073709551616) ∧ ∀ i ∈ nd.holders, 0 ≤ i ∧ i < 18446744073709551616
theorem Sml.dur {ss : List Ses} {ns : List Nod} (h : Sml ss ns) : Sml (ss.map sesF) (ns.map nodF) := by
 refine ⟨by rw [List.length_map]; exact h.n1, by rw [List.length_map]; exact h.n2, fun s hs => ?_, fun nd hnd => ?_⟩
 ·obtain ⟨s0, h0, rfl⟩ := List.mem_map.1 hs
  exact h.s s0 h0
 ·obtain ⟨n0, h0, rfl⟩ := List.mem_map.1 hnd
  exact h.d n0 h0
theorem sml_of {e g x t : Int} {ss : List Ses} {ns : List Nod} (h : stOK e g x t ss ns = true)
  (hnu : ∀ nd ∈ ns, (∀ i ∈ nd.holders, 0 ≤ i ∧ i < 18446744073709551616) ∧ ∀ i ∈ nd.watchers, 0 ≤ i ∧ i < 18446744073709551616) (hou : ∀ nd ∈ ns, 0 ≤ nd.owner ∧ nd.owner < 18446744073709551616)
  (hep : ∀ nd ∈ ns, (0 ≤ nd.epoch ∧ nd.epoch < 18446744073709551616) ∧ 0 ≤ nd.gen ∧ nd.gen < 18446744073709551616) : Sml ss ns := by
 obtain ⟨h1, h2, h3, h4, h5⟩ := (stOK_iff e g x t ss ns).1 h
 simp only [limOK, decide_eq_true_eq] at h1
 refine ⟨by omega, by omega, ses_u64 h2 (by omega), fun nd hnd => ?_⟩
 have hv := h3
 rw [nodAll, Bool.and_eq_true] at hv
 have hv1 : ∀ y ∈ ns, nodV e g y = true := (all_idx ns nod0 (nodV e g)).1 fun i hi => List.all_eq_true.1 hv.1 i (List.mem_range.2 hi)
 have hv2 := hv1 nd hnd
 simp only [nodV, Bool.and_eq_true, decide_eq_true_eq] at hv2
 obtain ⟨g1, g2, g3, g4, g5⟩ := hv2
 refine ⟨⟨vp_len g1, g2, ?_⟩, ?_, hou nd hnd, (hep nd hnd).1, (hep nd hnd).2, (hnu nd hnd).1⟩
 ·have ha := ascI_asc g4
  have hnd' : nd.holders.Nodup := ha.imp (fun {a b} hab => by omega)
  have := len_sub nd.holders (ss.map (·.1)) hnd' fun i hi => by
   have := h5 nd hnd i (by unfold Named; simp [hi])
   obtain ⟨z, hz, rfl⟩ := (live_iff ss i).1 this
   exact List.mem_map.2 ⟨z, hz, rfl⟩
  rw [List.length_map] at this
  omega
 ·unfold lockOK at g3
  split at g3
  ·omega
  ·simp only [Bool.and_eq_true] at g3
   have := g3.2.2
   split at this
   ·omega
   ·simp only [Bool.and_eq_true, beq_iff_eq] at this
    omega
theorem noB_len {ss : List Ses} {ns : List Nod} (h : Sml ss ns) : ∀ nd ∈ ns, (noB nd).length ≤ 800 ∧ (liB viI nd.holders).length ≤ 510 := by
 intro nd hnd
 obtain ⟨⟨h1, h2, h3⟩, -⟩ := h.d nd hnd
 have a1 := tx_len nd.path
 have a2 := tx_len nd.value
 have a3 := vi_len nd.owner.toNat
 have a4 := vi_len nd.epoch.toNat
 have a5 := vi_len nd.gen.toNat
 have a6 : (liB viI nd.holders).length ≤ 510 := by
  have b1 := vi_len nd.holders.length
  have b2 := cat_len viI 10 nd.holders fun x _ => (vi_len _).2
  rw [liB_is, List.length_append]
  omega
 refine ⟨?_, a6⟩
 simp only [noB, noL, cat, List.flatten_cons, List.flatten_nil, List.length_append, List.length_cons, List.length_nil]
 omega
theorem stB_len {e g x : Nat} {ss : List Ses} {ns : List Nod} (h : Sml ss ns) : (stB e g x ss ns).length ≤ 200000 ∧ (liB seB ss).length ≤ 600 ∧ (liB noB ns).length ≤ 170000 := by
 have a1 := vi_len e
 have a2 := vi_len g
 have a3 := vi_len x
 have b1 := vi_len ss.length
 have b2 := cat_len seB 10 ss fun x _ => (vi_len _).2
 have b3 := vi_len ns.length
 have b4 := cat_len noB 800 ns fun x hx => (noB_len h x hx).1
 have := h.n1
 have := h.n2
 have c1 : (liB seB ss).length ≤ 600 := by rw [liB_is, List.length_append]; omega
 have c2 : (liB noB ns).length ≤ 170000 := by rw [liB_is, List.length_append]; omega
 refine ⟨?_, c1, c2⟩
 simp only [stB, cat, List.flatten_cons, List.flatten_nil, List.length_append, List.length_nil]
 omega
def encR (e g x t : Int) (ss : List Ses) (ns : List Nod) : List Int := if stOK e g x t ss ns = true then stB e.toNat g.toNat x.toNat ss ns else []
theorem Own.nil (B : Nat) (w : World) : Own B w (.slice none 0 0) [] := ⟨rfl, .inl ⟨rfl, rfl⟩⟩
end Go.Proofs.YtnbgnhhnpmmloaaGreatDoor
