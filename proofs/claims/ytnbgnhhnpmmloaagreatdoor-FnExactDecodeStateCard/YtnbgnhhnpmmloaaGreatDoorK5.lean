import Derived.Test.YtnbgnhhnpmmloaaGreatDoorK4
import Derived.Laws.BytesString
namespace Go.Proofs.YtnbgnhhnpmmloaaGreatDoor
open Go.ChangeShapes Go.WideShapes Go.ChangeAt Go.RowKit
set_option linter.unusedVariables false
set_option linter.unusedSimpArgs false
set_option maxRecDepth 100000
def bstr (l : List Int) : ByteArray := l.foldl (fun r n => r.push (UInt8.ofNat n.toNat)) ByteArray.empty
theorem bstr_data (l : List Int) (s : ByteArray) : (l.foldl (fun r n => r.push (UInt8.ofNat n.toNat)) s).data.toList = s.data.toList ++ l.map (fun n => UInt8.ofNat n.toNat) := by
 induction l generalizing s with
 | nil => simp
 | cons b l ih => rw [List.foldl_cons, ih]; simp [ByteArray.push]
theorem map_inj {l m : List Int} (hl : Byt l) (hm : Byt m) (h : l.map (fun n => UInt8.ofNat n.toNat) = m.map (fun n => UInt8.ofNat n.toNat)) : l = m := by
 induction l generalizing m with
 | nil => cases m with
  | nil => rfl
  | cons b m => simp at h
 | cons a l ih => cases m with
  | nil => simp at h
  | cons b m =>
   simp only [List.map_cons, List.cons.injEq] at h
   obtain ⟨a0, a1⟩ := hl a (by simp)
   obtain ⟨b0, b1⟩ := hm b (by simp)
   have e := congrArg UInt8.toNat h.1
   simp at e
   have e2 : a = b := by omega
   rw [e2, ih (fun z hz => hl z (by simp [hz])) (fun z hz => hm z (by simp [hz])) h.2]
theorem bstr_list (l : List Int) : (bstr l).toList = l.map (fun n => UInt8.ofNat n.toNat) := by
 rw [ByteArray.toList_eq, bstr, bstr_data]; rfl
theorem bstr_eq {l m : List Int} (hl : Byt l) (hm : Byt m) : ((bstr l).toList == (bstr m).toList) = decide (l = m) := by
 rw [bstr_list, bstr_list]
 by_cases h : l = m
 ·simp [h]
 ·simp only [h, decide_false, beq_eq_false_iff_ne]
  exact fun e => h (map_inj hl hm e)
theorem run_conv {w : World} {p : Option Addr} {c n : Nat} {l : List Int} (en : l.length = n) (h : Rd w (.slice p n c) l) :
  (convert 22 9 (.slice p n c)).run Tryz.prog w = .ok (.string (bstr l)) w := by
 subst en
 rw [run_convert_bytes_string w 22 9 5 p l.length c Tryz.underlying22 Tryz.underlying5 Tryz.underlying9]
 cases p with
 | none =>
  have e := h.none_nil
  subst e
  simp [Conv.bytesToString, bstr, Sem.run_pure]
 | some a =>
  obtain ⟨n1, n2, n3⟩ := h.news
  have hl := run_loadCells_list (P := Tryz.prog) w a (U l) (fun j v hj => n2 j v hj)
  simp only [List.length_map] at hl
  exact run_bytesToString w a l.length c l hl
set_option maxHeartbeats 400000 in
theorem bytesEqual_any (p q : Option Addr) (c d n k : Nat) (l m : List Int) (el : Hid (l.length = n)) (em : Hid (m.length = k)) (w : World) (h1 : Rd w (.slice p n c) l) (h2 : Rd w (.slice q k d) m) (b1 : Byt l) (b2 : Byt m) :
  Calls Tryz.prog 41 #[.slice p n c, .slice q k d] w fun e w' => e = .returned (.bool (decide (l = m))) ∧ Below w.heap.size w w' := by
 have e1 := run_conv (uh el) h1
 have e2 := run_conv (uh em) h2
 have HE := hide (bstr_eq b1 b2)
 clear h1 h2 b1 b2
 go_enter Tryz.func41, Tryz.ntmps41
 go_wp2
 go_ret
 exact ⟨by rw [uh HE]; rfl, Below.refl _ _⟩
theorem Rd.cut {w : World} {b o n c : Nat} {l : List Int} (h : Rd w (.slice (some ⟨b, o, none⟩) n c) l) (i j : Nat) (hi : i ≤ j) (hj : j ≤ l.length) (q : Option Addr) (hq : j = i ∨ q = some ⟨b, o + i, none⟩) (d : Nat) (m : List Int) (em : m = (l.take j).drop i) : Rd w (.slice q (j - i) d) m := by
 have hm : m.length = j - i := by rw [em]; simp; omega
 refine ⟨q, d, by rw [hm], ?_⟩
 rcases hq with rfl | rfl
 ·left; exact List.eq_nil_of_length_eq_zero (by omega)
 ·obtain ⟨p', c', e, h⟩ := h
  simp only [Value.slice.injEq] at e
  obtain ⟨e1, -, -⟩ := e
  rcases h with rfl | ⟨b', o', e2, hc⟩
  ·left; exact List.eq_nil_of_length_eq_zero (by simp at hj; omega)
  ·right
   rw [e2] at e1
   simp only [Option.some.injEq, Addr.mk.injEq] at e1
   obtain ⟨rfl, rfl, -⟩ := e1
   refine ⟨b, o + i, rfl, fun k hk => ?_⟩
   have := hc (i + k) (by omega)
   rw [Nat.add_assoc, this, em]
   simp [List.getD, List.getElem?_take, show i + k < j by omega]
set_option maxHeartbeats 400000 in
theorem l3same_any (p q : Option Addr) (c d n k : Nat) (l m : List Int) (el : Hid (l.length = n)) (em : Hid (m.length = k)) (w : World) (h1 : Rd w (.slice p n c) l) (h2 : Rd w (.slice q k d) m) (b1 : Byt l) (b2 : Byt m) :
  Calls Tryz.prog 34 #[.slice p n c, .slice q k d] w fun e w' => e = .returned (.bool (decide (l = m))) ∧ Below w.heap.size w w' := by
 have e1 := run_conv (uh el) h1
 have e2 := run_conv (uh em) h2
 have HE := hide (bstr_eq b1 b2)
 clear h1 h2 b1 b2
 go_enter Tryz.func34, Tryz.ntmps34
 go_wp2
 go_ret
 exact ⟨by rw [uh HE]; rfl, Below.refl _ _⟩
theorem l1copy_n (p : Option Addr) (c n : Nat) (l : List Int) (en : Hid (l.length = n)) (w : World) (h : Rd w (.slice p n c) l) (hl : n ≤ 2097152) :
  Calls Tryz.prog 78 #[.slice p n c] w fun e w' => ∃ p' c', e = .returned (.slice p' n c') ∧ Own w.heap.size w' (.slice p' n c') l ∧ Below w.heap.size w w' := by
 have e := uh en
 subst e
 exact l1copy_any p c l w h hl
def rt (m : List Int) : Option (List Int × List Int) :=
 match rv m with
 | none => none
 | some x => if (x.2.length : Int) < x.1 then none else some (x.2.take x.1.toNat, x.2.drop x.1.toNat)
def tOf : Option (List Int × List Int) → List Int
 | some x => x.1
 | none => []
def bOf (n : Nat) : Option (List Int × List Int) → Int
 | some x => (n : Int) - x.2.length
 | none => -1
set_option maxHeartbeats 800000 in
theorem readText_neg (p : Option Addr) (c n : Nat) (w : World) :
  Calls Tryz.prog 32 #[.slice p n c, .int .i64 (-1)] w fun e w' => e = .returned (.tuple #[.slice none 0 0, .int .i64 (-1)]) ∧ w' = w := by
 go_enter Tryz.func32, Tryz.ntmps32
 go_wp2_with fail
 refine (readVar_neg p c n _).mono ?_
 rintro e w' ⟨rfl, rfl⟩
 go_wp2
 go_ret2
 exact ⟨rfl, rfl⟩
set_option maxHeartbeats 1600000 in
theorem readText_at (p : Option Addr) (c n a : Nat) (l : List Int) (en : Hid (l.length = n)) (w : World) (h : Rd w (.slice p n c) l) (hb : Byt l) (hl : n ≤ 1048576) (hnc : n ≤ c) (ha : a ≤ n) (r : Option (List Int × List Int)) (er : Hid (rt (l.drop a) = r)) (N : Nat) (eN : Hid ((tOf r).length = N)) :
  Calls Tryz.prog 32 #[.slice p n c, .int .i64 a] w fun e w' => ∃ p' c', e = .returned (.tuple #[.slice p' N c', .int .i64 (bOf n r)]) ∧ Own w.heap.size w' (.slice p' N c') (tOf r) ∧ Below w.heap.size w w' := by
 obtain ⟨x, ex⟩ : ∃ x, rv (l.drop a) = x := ⟨_, rfl⟩
 have er2 := uh er
 rw [rt, ex] at er2
 go_enter Tryz.func32, Tryz.ntmps32
 go_wp2_with fail
 refine (readVar_at p c n a l en _ h hb hl ha x ex).mono ?_
 rintro e w' ⟨rfl, rfl⟩
 cases x with
 | none =>
  subst er2
  have hN0 : N = 0 := by rw [← uh eN]; rfl
  subst hN0
  dsimp only [vOf, aOf]
  go_wp2
  go_ret2
  exact ⟨none, 0, rfl, World.ownsRow_nil _ _ _ _, Below.refl _ _⟩
 | some x =>
  obtain ⟨v, t⟩ := x
  have hrg := rvF_range 10 0 0 _ v t ex
  rw [List.length_drop, uh en] at hrg
  obtain ⟨v0, v1, htl, hteq⟩ := hrg
  obtain ⟨T, eT⟩ : ∃ T, t.length = T := ⟨_, rfl⟩
  dsimp only at er2
  rw [eT] at er2 htl hteq
  obtain ⟨A, eA⟩ : ∃ A, n - T = A := ⟨_, rfl⟩
  have hte : t = l.drop A := by
   rw [hteq, List.drop_drop]
   congr 1
   omega
  have ea : aOf n (some (v, t)) = (A : Int) := by show (n : Int) - (t.length : Nat) = _; rw [eT]; omega
  have ev : vOf (some (v, t)) = v := rfl
  rw [ea, ev]
  have hA0 : ¬ (A : Int) < 0 := by omega
  have hAn : (n : Int) - (A : Int) = (T : Int) := by omega
  have wT : IntKind.u64.wrap (T : Int) = (T : Int) := by rw [IntKind.wrap_u64]; omega
  by_cases hv : (T : Int) < v
  ·rw [if_pos hv] at er2
   subst er2
   have hN0 : N = 0 := by rw [← uh eN]; rfl
   subst hN0
   clear er ea ev ex hteq hte
   go_wp2
   go_ret2
   exact ⟨none, 0, rfl, World.ownsRow_nil _ _ _ _, Below.refl _ _⟩
  ·rw [if_neg hv] at er2
   obtain ⟨V, rfl⟩ : ∃ V : Nat, v = (V : Int) := ⟨v.toNat, by omega⟩
   have eV : ((V : Int)).toNat = V := by omega
   rw [eV] at er2
   have hN1 : N = V := by rw [← uh eN, ← er2]; show (t.take V).length = V; rw [List.length_take, eT]; omega
   subst hN1
   have hbo : bOf n r = ((A + N : Nat) : Int) := by rw [← er2]; show (n : Int) - ((t.drop N).length : Nat) = _; rw [List.length_drop, eT]; omega
   have htk : tOf r = (l.take (A + N)).drop A := by rw [← er2]; show t.take N = _; rw [hte, List.drop_take, Nat.add_sub_cancel_left]
   obtain ⟨b, o, rfl, -, -⟩ := h.at (by rw [uh en]; omega)
   have hcut : ∀ (q : Option Addr) (d : Nat), (A + N = A ∨ q = some ⟨b, o + A, none⟩) → Rd w' (.slice q N d) (tOf r) := fun q d hq => by
    have := h.cut A (A + N) (by omega) (by rw [uh en]; omega) q hq d (tOf r) htk
    rwa [Nat.add_sub_cancel_left] at this
   obtain ⟨E, eE⟩ : ∃ E, A + N = E := ⟨_, rfl⟩
   rw [eE] at hcut
   have wN : IntKind.i64.wrap (N : Int) = (N : Int) := IntWalk.i64_in _ (by omega)
   have hAE : (A : Int) + (N : Int) = (E : Int) := by omega
   have hE1 : (A : Int) ≤ (E : Int) := by omega
   have hE2 : (E : Int) ≤ (c : Int) := by omega
   have hE4 : E - A = N := by omega
   have hvv : ¬ (T : Int) < (N : Int) := hv
   have HC := hide hcut
   have HS := hide (And.intro hbo (And.intro htk (And.intro eE (And.intro eT eA))))
   clear er er2 ea ev ex hteq hte hcut hbo htk eE eT eA hv eV h hb
   by_cases hcA : c = A
   ·have hEA : A = E := by omega
    have hN0 : N = 0 := by omega
    subst hcA
    subst hEA
    subst hN0
    go_wp2_with fail
    refine (l1copy_n _ _ 0 (tOf r) eN _ (uh HC _ _ (.inl (by first | rfl | trivial))) (by omega)).mono ?_
    rintro e w2 ⟨p2, c2, rfl, o2, b2⟩
    go_wp2
    go_ret2
    exact ⟨p2, c2, by rw [(uh HS).1, (uh HS).2.2.1]; rfl, o2, b2⟩
   ·have hcA' : ¬ (c : Int) = (A : Int) := by omega
    have hcA2 : c ≠ A := hcA
    have wE : IntKind.i64.wrap (E : Int) = (E : Int) := IntWalk.i64_in _ (by omega)
    have hNb : N ≤ 2097152 := by omega
    have HE4 := hide hE4
    clear htl hcA hE4 hcA' v0 v1
    go_wp2_with fail
    rw [uh HE4]
    refine (l1copy_n _ _ N (tOf r) eN _ (uh HC _ _ (.inr rfl)) (by omega)).mono ?_
    rintro e w2 ⟨p2, c2, rfl, o2, b2⟩
    go_wp2
    go_ret2
    exact ⟨p2, c2, by rw [(uh HS).1, (uh HS).2.2.1]; rfl, o2, b2⟩
def evAt (i : Nat) (e : Ev) : Bool := if i = 7 then e.1 == 4 && e.2.length == 0 else decide (1 ≤ e.1) && (decide (e.1 ≤ 3) && vp e.2)
def queueOK (es : List Ev) : Bool := decide (es.length ≤ 8) && (List.range es.length).all fun i => evAt i (es.getD i (0, []))
set_option maxHeartbeats 1600000 in
theorem l3queueOK_any (p : Option Addr) (c n : Nat) (es : List Ev) (en : Hid (es.length = n)) (w : World) (h : RdE w (.slice p n c) es) (hn : n ≤ 1048576) (hby : Hid (∀ e ∈ es, Byt e.2 ∧ e.2.length ≤ 1048576)) (B : Bool) (eB : Hid (queueOK es = B)) :
  Calls Tryz.prog 111 #[.slice p n c] w fun r w' => r = .returned (.bool B) ∧ Below w.heap.size w w' := by
 have HR := hide fun (w' : World) (hb : Below w.heap.size w w') => h.below hb
 have hcf : ∀ (vs : Array Value) (w : World), (callFunc 112 vs).run Tryz.prog w = .ok (.enter 112 vs) w := fun vs w => by kernel_rfl
 have HCF := hide hcf
 clear h hcf
 by_cases h8 : n ≤ 8
 ·have h8' : ¬ (8 : Int) < (n : Int) := by omega
  go_enter Tryz.func111, Tryz.ntmps111
  go_wp2_with fail
  go_loopw [3] (fun iv wr => ∃ k : Nat, k ≤ n ∧ iv = .int .i64 k ∧ Hid ((List.range k).all (fun i => evAt i (es.getD i (0, []))) = true) ∧ Below w.heap.size w wr) (fun iv _ => n - (intOf iv).toNat)
  case atStart => exact ⟨0, Nat.zero_le _, rfl, (by show _ = _; rfl), Below.refl _ _⟩
  case round =>
   obtain ⟨k, hk, rfl, hok, hbr⟩ := hrel
   by_cases hlt : k < n
   ·have hlt' : (k : Int) < (n : Int) := by omega
    have hkl : k < es.length := by rw [uh en]; exact hlt
    obtain ⟨⟨K, P⟩, hy⟩ : ∃ y, es[k]? = some y := ⟨_, List.getElem?_eq_getElem hkl⟩
    have hyD : es.getD k (0, []) = (K, P) := by rw [List.getD_eq_getElem?_getD, hy]; rfl
    obtain ⟨b, o, rfl, hcK, u, hcP, hrP⟩ : ∃ b o, p = some ⟨b, o, none⟩ ∧ wr.cell? ⟨b, o + k * 2, none⟩ = some (.int .i64 K) ∧ ∃ u, wr.cell? ⟨b, o + k * 2 + 1, none⟩ = some u ∧ Rd wr u P := by
     obtain ⟨p', c', ev, hd⟩ := uh HR _ hbr
     simp only [Value.slice.injEq] at ev
     obtain ⟨rfl, -, -⟩ := ev
     rcases hd with h0 | ⟨b, o, h1, h2⟩
     ·rw [h0] at hkl; simp at hkl
     ·exact ⟨b, o, h1, h2 k _ hy⟩
    obtain ⟨hBP, hPl⟩ := uh hby _ (List.mem_of_getElem? hy)
    obtain ⟨pp, pc, rfl, -⟩ := id hrP
    obtain ⟨m, em⟩ : ∃ m, P.length = m := ⟨_, rfl⟩
    rw [em] at hrP hcP
    have hm : m ≤ 1048576 := by rw [← em]; exact hPl
    have EM := hide em
    have HBP := hide hBP
    have HRP := hide hrP
    have hF : evAt k (K, P) = false → B = false := fun h => by rw [← uh eB, queueOK, uh en, range_all_no hlt (by rw [hyD]; exact h), Bool.and_false]
    have hT : evAt k (K, P) = true → Hid ((List.range (k + 1)).all (fun i => evAt i (es.getD i (0, []))) = true) := fun h => range_all_step (uh hok) (by rw [hyD]; exact h)
    clear hkl hy hyD em hBP hPl hrP
    by_cases h7 : k = 7
    ·subst h7
     have hcK : wr.cell? ⟨b, o + 14, none⟩ = some (.int .i64 K) := hcK
     have hcP : wr.cell? ⟨b, o + 14 + 1, none⟩ = some (.slice pp m pc) := hcP
     have hcP' : wr.cell? ⟨b, o + 15, none⟩ = some (.slice pp m pc) := hcP
     by_cases h4 : K = 4
     ·have h4d : (K == 4) = true := by simp [h4]
      by_cases hm0 : m = 0
      ·have hm0d : ((m : Int) == 0) = true := by simp; omega
       have HOK := hT (by rw [evAt, if_pos rfl]; simp [h4, uh EM, hm0])
       clear hF hT
       go_wp2
       go_roundw
       case rel => exact ⟨7 + 1, by omega, by go_num, HOK, hbr⟩
       case measure => simp [intOf]; omega
      ·have hm0d : ((m : Int) == 0) = false := by simp; omega
       have eF := hF (by rw [evAt, if_pos rfl]; simp [h4, uh EM, hm0])
       subst eF
       clear hF hT
       go_wp2
       go_ret
       exact ⟨rfl, hbr⟩
     ·have h4d : (K == 4) = false := by simp [h4]
      have eF := hF (by rw [evAt, if_pos rfl]; simp [h4])
      subst eF
      clear hF hT
      go_wp2
      go_ret
      exact ⟨rfl, hbr⟩
    ·have h7' : ¬ (k : Int) = 7 := by omega
     have h7d : ((k : Int) == 7) = false := by simp; omega
     by_cases h4 : K = 4
     ·have h4d : (K == 4) = true := by simp [h4]
      have eF := hF (by rw [evAt, if_neg h7]; simp [h4])
      subst eF
      clear hF hT
      go_wp2
      go_ret
      exact ⟨rfl, hbr⟩
     ·have h4d : (K == 4) = false := by simp [h4]
      by_cases h1 : K < 1
      ·have h1' : ¬ 1 ≤ K := by omega
       have eF := hF (by rw [evAt, if_neg h7]; simp; omega)
       subst eF
       clear hF hT
       go_wp2
       go_ret
       exact ⟨rfl, hbr⟩
      ·by_cases h3 : 3 < K
       ·have h3' : ¬ K ≤ 3 := by omega
        have eF := hF (by rw [evAt, if_neg h7]; simp; omega)
        subst eF
        clear hF hT
        go_wp2
        go_ret
        exact ⟨rfl, hbr⟩
       ·have h1' : ¬ K < 1 := h1
        have g1 : 1 ≤ K := by omega
        have g3 : K ≤ 3 := by omega
        obtain ⟨V, eV⟩ : ∃ V, vp P = V := ⟨_, rfl⟩
        have EV := hide eV
        have hat : evAt k (K, P) = V := by rw [evAt, if_neg h7, eV]; simp [g1, g3]
        clear eV
        go_wp2_with fail
        refine (specVP pp pc m P EM _ (uh HRP) HBP hm V EV).mono ?_
        rintro r w2 ⟨rfl, hb2⟩
        have b2 := Below.step hbr hb2
        clear hb2 hbr
        cases V with
        | false =>
         have eF := hF (by exact hat)
         subst eF
         clear hF hT
         go_wp2
         go_ret
         exact ⟨rfl, b2⟩
        | true =>
         have HOK := hT (by exact hat)
         clear hF hT
         go_wp2
         go_roundw
         case rel => exact ⟨k + 1, by omega, by go_num, HOK, b2⟩
         case measure => simp [intOf]; omega
   ·have hlt' : ¬ (k : Int) < (n : Int) := by omega
    have eT : B = true := by
     rw [← uh eB, queueOK, uh en]
     have : k = n := by omega
     rw [← this, uh hok]
     simp; omega
    subst eT
    go_wp2
    go_ret
    exact ⟨rfl, hbr⟩
 ·have h8' : (8 : Int) < (n : Int) := by omega
  have eF : B = false := by rw [← uh eB, queueOK, uh en]; simp [h8]
  subst eF
  go_enter Tryz.func111, Tryz.ntmps111
  go_wp2
  go_ret
  exact ⟨rfl, Below.refl _ _⟩
def sesAt (nx : Int) (ss : List Ses) (i : Nat) : Bool :=
 decide (1 ≤ (ss.getD i (0, 0, [])).1) && (decide ((ss.getD i (0, 0, [])).1 ≤ nx) && ((i == 0 || decide ((ss.getD (i - 1) (0, 0, [])).1 < (ss.getD i (0, 0, [])).1)) &&
  (decide (0 ≤ (ss.getD i (0, 0, [])).2.1) && (decide ((ss.getD i (0, 0, [])).2.1 ≤ 1000015) && queueOK (ss.getD i (0, 0, [])).2.2))))
set_option maxHeartbeats 1600000 in
theorem l3sessionOK_any (e g x t : Int) (p : Option Addr) (c n k : Nat) (N : Value) (ss : List Ses) (en : Hid (ss.length = n)) (w : World) (h : RdS w (.slice p n c) ss) (hn : n ≤ 1048576) (hk : k < n)
  (hby : Hid (∀ s ∈ ss, s.2.2.length ≤ 1048576 ∧ ∀ e ∈ s.2.2, Byt e.2 ∧ e.2.length ≤ 1048576)) (B : Bool) (eB : Hid (sesAt x ss k = B)) :
  Calls Tryz.prog 71 #[stV e g x t (.slice p n c) N, .int .i64 k] w fun r w' => r = .returned (.bool B) ∧ Below w.heap.size w w' := by
 have HR := hide fun (w' : World) (hb : Below w.heap.size w w') => h.below hb
 have hkl : k < ss.length := by rw [uh en]; exact hk
 obtain ⟨⟨I, D, Q⟩, hy⟩ : ∃ y, ss[k]? = some y := ⟨_, List.getElem?_eq_getElem hkl⟩
 have hyD : ss.getD k (0, 0, []) = (I, D, Q) := by rw [List.getD_eq_getElem?_getD, hy]; rfl
 obtain ⟨b, o, rfl, hcA⟩ : ∃ b o, p = some ⟨b, o, none⟩ ∧ ∀ i s, ss[i]? = some s → w.cell? ⟨b, o + i * 3, none⟩ = some (.int .u64 s.1) ∧ w.cell? ⟨b, o + i * 3 + 1, none⟩ = some (.int .i64 s.2.1) ∧ ∃ u, w.cell? ⟨b, o + i * 3 + 2, none⟩ = some u ∧ RdE w u s.2.2 := by
  obtain ⟨p', c', ev, hd⟩ := h
  simp only [Value.slice.injEq] at ev
  obtain ⟨rfl, -, -⟩ := ev
  rcases hd with h0 | ⟨b, o, h1, h2⟩
  ·rw [h0] at hkl; simp at hkl
  ·exact ⟨b, o, h1, h2⟩
 obtain ⟨hI, hD, u, hU, hQ⟩ := hcA k _ hy
 obtain ⟨hQl, hQb⟩ := uh hby _ (List.mem_of_getElem? hy)
 obtain ⟨pq, cq, rfl, -⟩ := id hQ
 obtain ⟨m, em⟩ : ∃ m, Q.length = m := ⟨_, rfl⟩
 rw [em] at hQ hU
 have hm : m ≤ 1048576 := by rw [← em]; exact hQl
 have EM := hide em
 have HBQ : Hid (∀ e ∈ Q, Byt e.2 ∧ e.2.length ≤ 1048576) := hQb
 have HRQ := hide hQ
 obtain ⟨T, eT⟩ : ∃ T, queueOK Q = T := ⟨_, rfl⟩
 have ET : Hid (queueOK Q = T) := eT
 have hat : sesAt x ss k = (decide (1 ≤ I) && (decide (I ≤ x) && ((k == 0 || decide ((ss.getD (k - 1) (0, 0, [])).1 < I)) && (decide (0 ≤ D) && (decide (D ≤ 1000015) && T))))) := by
  rw [sesAt, hyD, eT]
 rw [show (sesAt x ss k) = B from uh eB] at hat
 have HAT : Hid (B = (decide (1 ≤ I) && (decide (I ≤ x) && ((k == 0 || decide ((ss.getD (k - 1) (0, 0, [])).1 < I)) && (decide (0 ≤ D) && (decide (D ≤ 1000015) && T)))))) := hat
 clear hat
 have hk' : (k : Int) < (n : Int) := by omega
 have hk0' : (0 : Int) ≤ (k : Int) := by omega
 have HL := hide hkl
 clear hy hyD hQl hQb hQ em eT h eB hkl
 have HCA := hide hcA
 clear hcA
 go_enter Tryz.func71, Tryz.ntmps71
 have b1 : Below w.heap.size w (w.alloc (.cells #[.int .u64 e, .int .u64 g, .int .u64 x, .int .i64 t, .slice (some ⟨b, o, none⟩) n c, N] 27)) := (Below.refl _ _).alloc (Nat.le_refl _) _
 have i1 := cell_below hI b1
 have i2 := cell_below hD b1
 have i3 := cell_below hU b1
 go_wp2_with fail
 obtain ⟨X, hX⟩ : ∃ X, X = ((w.alloc (.cells #[.int .u64 e, .int .u64 g, .int .u64 x, .int .i64 t, .slice (some ⟨b, o, none⟩) n c, N] 27)).alloc (.cells #[.int .u64 I, .int .i64 D, .slice pq m cq] 59)) := ⟨_, rfl⟩
 have BX : Hid (Below w.heap.size w X) := by show Below _ _ _; rw [hX]; exact b1.alloc (by simp) _
 have kA : X.cell? ⟨w.heap.size + 1, 0, none⟩ = some (.int .u64 I) := by rw [hX]; simp
 have kD : X.cell? ⟨w.heap.size + 1, 1, none⟩ = some (.int .i64 D) := by rw [hX]; simp
 have kQ : X.cell? ⟨w.heap.size + 1, 2, none⟩ = some (.slice pq m cq) := by rw [hX]; simp
 have kB : X.cell? ⟨w.heap.size, 2, none⟩ = some (.int .u64 x) := by rw [hX]; simp
 have kC : X.cell? ⟨w.heap.size, 4, none⟩ = some (.slice (some ⟨b, o, none⟩) n c) := by rw [hX]; simp
 rw [← hX]
 have KA := hide kA
 have KB := hide kB
 have KC := hide kC
 clear hX b1 i1 i2 i3 kA kB kC hI hD hU
 by_cases h1 : I < 1
 ·have eF : B = false := by rw [uh HAT]; simp; omega
  subst eF
  have h1d : decide (I < 1) = true := by simp; omega
  refine wp_region_noPanic ?_
  refine wp_region_held_drew (S := fun w' => w'.cell? ⟨w.heap.size + 1, 0, none⟩ = some (.int .u64 I) ∧ w'.cell? ⟨w.heap.size, 2, none⟩ = some (.int .u64 x) ∧ w'.cell? ⟨w.heap.size, 4, none⟩ = some (.slice (some ⟨b, o, none⟩) n c)) (by kernel_rfl) (by exact ⟨uh KA, uh KB, uh KC⟩) (fun hS => ?_)
  refine tk 0 hS (h := ?_); simp only [Act.put, xa, xb, xc]
  refine tk 1 hS (h := ?_); simp only [Act.put, xa, xb, xc]
  refine tk 2 hS (h := ?_); simp only [Act.put, xa, xb, xc]
  refine tk 3 hS (h := ?_); simp only [Act.put, xa, xb, xc]
  refine sk 4 hS (h := ?_); simp only [Act.put, xa, xb, xc]
  refine sk 5 hS (h := ?_); simp only [Act.put, xa, xb, xc]
  refine sk 6 hS (h := ?_); simp only [Act.put, xa, xb, xc]
  refine sk 7 hS (h := ?_); simp only [Act.put, xa, xb, xc]
  refine sk 8 hS (h := ?_); simp only [Act.put, xa, xb, xc]
  refine tk 9 hS (h := ?_); simp only [Act.put, xa, xb, xc]
  refine tk 10 hS (h := ?_); simp only [Act.put, xa, xb, xc]
  refine sk 11 hS (h := ?_); simp only [Act.put, xa, xb, xc]
  refine sk 12 hS (h := ?_); simp only [Act.put, xa, xb, xc]
  refine sk 13 hS (h := ?_); simp only [Act.put, xa, xb, xc]
  refine sk 14 hS (h := ?_); simp only [Act.put, xa, xb, xc]
  refine sk 15 hS (h := ?_); simp only [Act.put, xa, xb, xc]
  refine sk 16 hS (h := ?_); simp only [Act.put, xa, xb, xc]
  refine sk 17 hS (h := ?_); simp only [Act.put, xa, xb, xc]
  refine sk 18 hS (h := ?_); simp only [Act.put, xa, xb, xc]
  refine sk 19 hS (h := ?_); simp only [Act.put, xa, xb, xc]
  refine sk 20 hS (h := ?_); simp only [Act.put, xa, xb, xc]
  refine sk 21 hS (h := ?_); simp only [Act.put, xa, xb, xc]
  refine sk 22 hS (h := ?_); simp only [Act.put, xa, xb, xc]
  refine sk 23 hS (h := ?_); simp only [Act.put, xa, xb, xc]
  refine sk 24 hS (h := ?_); simp only [Act.put, xa, xb, xc]
  refine tk 25 hS (h := ?_); simp only [Act.put, xa, xb, xc]
  refine wpAnyH_done (by kernel_rfl) ?_ _
  refine NoPanic.normal ?_
  clear hS
  go_wp2
  go_ret
  exact ⟨rfl, (uh BX).drew⟩
 ·have h1d : decide (I < 1) = false := by simp; omega
  by_cases h2 : x < I
  ·have eF : B = false := by rw [uh HAT]; simp; omega
   subst eF
   have h2d : decide (x < I) = true := by simp; omega
   refine wp_region_noPanic ?_
   refine wp_region_held_drew (S := fun w' => w'.cell? ⟨w.heap.size + 1, 0, none⟩ = some (.int .u64 I) ∧ w'.cell? ⟨w.heap.size, 2, none⟩ = some (.int .u64 x) ∧ w'.cell? ⟨w.heap.size, 4, none⟩ = some (.slice (some ⟨b, o, none⟩) n c)) (by kernel_rfl) (by exact ⟨uh KA, uh KB, uh KC⟩) (fun hS => ?_)
   refine tk 0 hS (h := ?_); simp only [Act.put, xa, xb, xc]
   refine tk 1 hS (h := ?_); simp only [Act.put, xa, xb, xc]
   refine tk 2 hS (h := ?_); simp only [Act.put, xa, xb, xc]
   refine tk 3 hS (h := ?_); simp only [Act.put, xa, xb, xc]
   refine tk 4 hS (h := ?_); simp only [Act.put, xa, xb, xc]
   refine tk 5 hS (h := ?_); simp only [Act.put, xa, xb, xc]
   refine tk 6 hS (h := ?_); simp only [Act.put, xa, xb, xc]
   refine tk 7 hS (h := ?_); simp only [Act.put, xa, xb, xc]
   refine tk 8 hS (h := ?_); simp only [Act.put, xa, xb, xc]
   refine tk 9 hS (h := ?_); simp only [Act.put, xa, xb, xc]
   refine tk 10 hS (h := ?_); simp only [Act.put, xa, xb, xc]
   refine sk 11 hS (h := ?_); simp only [Act.put, xa, xb, xc]
   refine sk 12 hS (h := ?_); simp only [Act.put, xa, xb, xc]
   refine sk 13 hS (h := ?_); simp only [Act.put, xa, xb, xc]
   refine sk 14 hS (h := ?_); simp only [Act.put, xa, xb, xc]
   refine sk 15 hS (h := ?_); simp only [Act.put, xa, xb, xc]
   refine sk 16 hS (h := ?_); simp only [Act.put, xa, xb, xc]
   refine sk 17 hS (h := ?_); simp only [Act.put, xa, xb, xc]
   refine sk 18 hS (h := ?_); simp only [Act.put, xa, xb, xc]
   refine sk 19 hS (h := ?_); simp only [Act.put, xa, xb, xc]
   refine sk 20 hS (h := ?_); simp only [Act.put, xa, xb, xc]
   refine sk 21 hS (h := ?_); simp only [Act.put, xa, xb, xc]
   refine sk 22 hS (h := ?_); simp only [Act.put, xa, xb, xc]
   refine sk 23 hS (h := ?_); simp only [Act.put, xa, xb, xc]
   refine sk 24 hS (h := ?_); simp only [Act.put, xa, xb, xc]
   refine tk 25 hS (h := ?_); simp only [Act.put, xa, xb, xc]
   refine wpAnyH_done (by kernel_rfl) ?_ _
   refine NoPanic.normal ?_
   clear hS
   go_wp2
   go_ret
   exact ⟨rfl, (uh BX).drew⟩
  ·have h2d : decide (x < I) = false := by simp; omega
   by_cases hk0 : k = 0
   ·have hp : ¬ 0 < k := by omega
    have hp' : ¬ (0 : Int) < (k : Int) := by omega
    have HK0 := hide hk0
    clear hk0
    refine wp_region_noPanic ?_
    refine wp_region_held_drew (S := fun w' => w'.cell? ⟨w.heap.size + 1, 0, none⟩ = some (.int .u64 I) ∧ w'.cell? ⟨w.heap.size, 2, none⟩ = some (.int .u64 x) ∧ w'.cell? ⟨w.heap.size, 4, none⟩ = some (.slice (some ⟨b, o, none⟩) n c)) (by kernel_rfl) (by exact ⟨uh KA, uh KB, uh KC⟩) (fun hS => ?_)
    refine tk 0 hS (h := ?_); simp only [Act.put, xa, xb, xc]
    refine tk 1 hS (h := ?_); simp only [Act.put, xa, xb, xc]
    refine tk 2 hS (h := ?_); simp only [Act.put, xa, xb, xc]
    refine tk 3 hS (h := ?_); simp only [Act.put, xa, xb, xc]
    refine tk 4 hS (h := ?_); simp only [Act.put, xa, xb, xc]
    refine tk 5 hS (h := ?_); simp only [Act.put, xa, xb, xc]
    refine tk 6 hS (h := ?_); simp only [Act.put, xa, xb, xc]
    refine tk 7 hS (h := ?_); simp only [Act.put, xa, xb, xc]
    refine tk 8 hS (h := ?_); simp only [Act.put, xa, xb, xc]
    refine tk 9 hS (h := ?_); simp only [Act.put, xa, xb, xc]
    refine tk 10 hS (h := ?_); simp only [Act.put, xa, xb, xc]
    refine tk 11 hS (h := ?_); simp only [Act.put, xa, xb, xc]
    refine tk 12 hS (h := ?_); simp only [Act.put, xa, xb, xc]
    refine tk 13 hS (h := ?_); simp only [Act.put, xa, xb, xc]
    refine sk 14 hS (h := ?_); simp only [Act.put, xa, xb, xc]
    refine sk 15 hS (h := ?_); simp only [Act.put, xa, xb, xc]
    refine sk 16 hS (h := ?_); simp only [Act.put, xa, xb, xc]
    refine sk 17 hS (h := ?_); simp only [Act.put, xa, xb, xc]
    refine sk 18 hS (h := ?_); simp only [Act.put, xa, xb, xc]
    refine sk 19 hS (h := ?_); simp only [Act.put, xa, xb, xc]
    refine sk 20 hS (h := ?_); simp only [Act.put, xa, xb, xc]
    refine sk 21 hS (h := ?_); simp only [Act.put, xa, xb, xc]
    refine sk 22 hS (h := ?_); simp only [Act.put, xa, xb, xc]
    refine sk 23 hS (h := ?_); simp only [Act.put, xa, xb, xc]
    refine tk 24 hS (h := ?_); simp only [Act.put, xa, xb, xc]
    refine tk 25 hS (h := ?_); simp only [Act.put, xa, xb, xc]
    refine wpAnyH_done (by kernel_rfl) ?_ _
    refine NoPanic.normal ?_
    clear hS
    have hat := uh HAT
    rw [show (k == 0) = true by simp [uh HK0]] at hat
    by_cases h5 : D < 0
    ·have eF : B = false := by rw [hat]; simp; omega
     subst eF
     clear hat
     have h5' : D < 0 := h5
     go_wp2
     go_ret
     exact ⟨rfl, (uh BX).drew⟩
    ·by_cases h6 : 1000015 < D
     ·have eF : B = false := by rw [hat]; simp; omega
      subst eF
      clear hat
      go_wp2
      go_ret
      exact ⟨rfl, (uh BX).drew⟩
     ·have eQ : B = T := by rw [hat]; simp [show 1 ≤ I by omega, show I ≤ x by omega, show 0 ≤ D by omega, show D ≤ 1000015 by omega]
      subst eQ
      clear hat
      go_wp2_with fail
      refine (l3queueOK_any pq cq m Q EM _ (by exact (uh HRQ).below (uh BX).drew) hm HBQ B ET).mono ?_
      rintro r w2 ⟨rfl, hb2⟩
      have b2 := Below.step (uh BX).drew hb2
      clear hb2
      go_wp2
      go_ret
      exact ⟨rfl, b2⟩
   ·obtain ⟨j, ej⟩ : ∃ j : Nat, (k : Int) - 1 = (j : Int) := ⟨k - 1, by omega⟩
    have ej0 : k - 1 = j := by omega
    have hjl : j < ss.length := by have := uh HL; omega
    obtain ⟨⟨z, zz⟩, hz⟩ : ∃ y, ss[j]? = some y := ⟨_, List.getElem?_eq_getElem hjl⟩
    have hzD : (ss.getD j (0, 0, [])).1 = z := by rw [List.getD_eq_getElem?_getD, hz]; rfl
    have hat := uh HAT
    rw [ej0, hzD] at hat
    have kZ := cell_below (uh HCA j _ hz).1 (uh BX)
    have KZ : Hid (X.cell? ⟨b, o + j * 3, none⟩ = some (.int .u64 z)) := kZ
    have hp : 0 < k := by omega
    have hp' : (0 : Int) < (k : Int) := by omega
    have hjm : (j : Int) < (n : Int) := by omega
    have hj0 : (0 : Int) ≤ (j : Int) := by omega
    have wj : IntKind.i64.wrap (j : Int) = (j : Int) := IntWalk.i64_in _ (by omega)
    rw [show (k == 0) = false by simp [hk0], Bool.false_or] at hat
    have HAT2 : Hid (B = (decide (1 ≤ I) && (decide (I ≤ x) && (decide (z < I) && (decide (0 ≤ D) && (decide (D ≤ 1000015) && T)))))) := hat
    clear hat
    clear hz hzD hjl kZ ej0 hk0
    by_cases hzI : z < I
    ·have hle : ¬ I ≤ z := by omega
     have hled : decide (I ≤ z) = false := by simp; omega
     refine wp_region_noPanic ?_
     refine wp_region_held_drew (S := fun w' => w'.cell? ⟨w.heap.size + 1, 0, none⟩ = some (.int .u64 I) ∧ w'.cell? ⟨w.heap.size, 2, none⟩ = some (.int .u64 x) ∧ w'.cell? ⟨w.heap.size, 4, none⟩ = some (.slice (some ⟨b, o, none⟩) n c) ∧ w'.cell? ⟨b, o + j * 3, none⟩ = some (.int .u64 z)) (by kernel_rfl) (by exact ⟨uh KA, uh KB, uh KC, uh KZ⟩) (fun hS => ?_)
     refine tk 0 hS (h := ?_); simp only [Act.put, xa, xb, xc]
     refine tk 1 hS (h := ?_); simp only [Act.put, xa, xb, xc]
     refine tk 2 hS (h := ?_); simp only [Act.put, xa, xb, xc]
     refine tk 3 hS (h := ?_); simp only [Act.put, xa, xb, xc]
     refine tk 4 hS (h := ?_); simp only [Act.put, xa, xb, xc]
     refine tk 5 hS (h := ?_); simp only [Act.put, xa, xb, xc]
     refine tk 6 hS (h := ?_); simp only [Act.put, xa, xb, xc]
     refine tk 7 hS (h := ?_); simp only [Act.put, xa, xb, xc]
     refine tk 8 hS (h := ?_); simp only [Act.put, xa, xb, xc]
     refine tk 9 hS (h := ?_); simp only [Act.put, xa, xb, xc]
     refine tk 10 hS (h := ?_); simp only [Act.put, xa, xb, xc]
     refine tk 11 hS (h := ?_); simp only [Act.put, xa, xb, xc]
     refine tk 12 hS (h := ?_); simp only [Act.put, xa, xb, xc]
     refine tk 13 hS (h := ?_); simp only [Act.put, xa, xb, xc]
     refine tk 14 hS (h := ?_); simp only [Act.put, xa, xb, xc]
     refine tk 15 hS (h := ?_); simp only [Act.put, xa, xb, xc]
     refine tk 16 hS (h := ?_); simp only [Act.put, xa, xb, xc]
     refine tk 17 hS (h := ?_); simp only [Act.put, xa, xb, xc]
     refine tk 18 hS (h := ?_); simp only [Act.put, xa, xb, xc]
     refine tk 19 hS (h := ?_); simp only [Act.put, xa, xb, xc]
     refine tk 20 hS (h := ?_); simp only [Act.put, xa, xb, xc]
     refine tk 21 hS (h := ?_); simp only [Act.put, xa, xb, xc]
     refine tk 22 hS (h := ?_); simp only [Act.put, xa, xb, xc]
     refine tk 23 hS (h := ?_); simp only [Act.put, xa, xb, xc]
     refine tk 24 hS (h := ?_); simp only [Act.put, xa, xb, xc]
     refine tk 25 hS (h := ?_); simp only [Act.put, xa, xb, xc]
     refine wpAnyH_done (by kernel_rfl) ?_ _
     refine NoPanic.normal ?_
     clear hS
     by_cases h5 : D < 0
     ·have eF : B = false := by rw [uh HAT2]; simp; omega
      subst eF
      clear HAT2
      have h5' : D < 0 := h5
      go_wp2
      go_ret
      exact ⟨rfl, (uh BX).drew⟩
     ·by_cases h6 : 1000015 < D
      ·have eF : B = false := by rw [uh HAT2]; simp; omega
       subst eF
       clear HAT2
       go_wp2
       go_ret
       exact ⟨rfl, (uh BX).drew⟩
      ·have eQ : B = T := by rw [uh HAT2]; simp only [show decide (1 ≤ I) = true by (rw [decide_eq_true_iff]; omega), show decide (I ≤ x) = true by (rw [decide_eq_true_iff]; omega), show decide (z < I) = true by (rw [decide_eq_true_iff]; omega), show decide (0 ≤ D) = true by (rw [decide_eq_true_iff]; omega), show decide (D ≤ 1000015) = true by (rw [decide_eq_true_iff]; omega), Bool.true_and]
       subst eQ
       clear HAT2
       go_wp2_with fail
       refine (l3queueOK_any pq cq m Q EM _ (by exact (uh HRQ).below (uh BX).drew) hm HBQ B ET).mono ?_
       rintro r w2 ⟨rfl, hb2⟩
       have b2 := Below.step (uh BX).drew hb2
       clear hb2
       go_wp2
       go_ret
       exact ⟨rfl, b2⟩
    ·have hle : I ≤ z := by omega
     have hled : decide (I ≤ z) = true := by simp; omega
     have eF : B = false := by rw [uh HAT2]; simp; omega
     subst eF
     clear HAT2
     refine wp_region_noPanic ?_
     refine wp_region_held_drew (S := fun w' => w'.cell? ⟨w.heap.size + 1, 0, none⟩ = some (.int .u64 I) ∧ w'.cell? ⟨w.heap.size, 2, none⟩ = some (.int .u64 x) ∧ w'.cell? ⟨w.heap.size, 4, none⟩ = some (.slice (some ⟨b, o, none⟩) n c) ∧ w'.cell? ⟨b, o + j * 3, none⟩ = some (.int .u64 z)) (by kernel_rfl) (by exact ⟨uh KA, uh KB, uh KC, uh KZ⟩) (fun hS => ?_)
     refine tk 0 hS (h := ?_); simp only [Act.put, xa, xb, xc]
     refine tk 1 hS (h := ?_); simp only [Act.put, xa, xb, xc]
     refine tk 2 hS (h := ?_); simp only [Act.put, xa, xb, xc]
     refine tk 3 hS (h := ?_); simp only [Act.put, xa, xb, xc]
     refine tk 4 hS (h := ?_); simp only [Act.put, xa, xb, xc]
     refine tk 5 hS (h := ?_); simp only [Act.put, xa, xb, xc]
     refine tk 6 hS (h := ?_); simp only [Act.put, xa, xb, xc]
     refine tk 7 hS (h := ?_); simp only [Act.put, xa, xb, xc]
     refine tk 8 hS (h := ?_); simp only [Act.put, xa, xb, xc]
     refine tk 9 hS (h := ?_); simp only [Act.put, xa, xb, xc]
     refine tk 10 hS (h := ?_); simp only [Act.put, xa, xb, xc]
     refine tk 11 hS (h := ?_); simp only [Act.put, xa, xb, xc]
     refine tk 12 hS (h := ?_); simp only [Act.put, xa, xb, xc]
     refine tk 13 hS (h := ?_); simp only [Act.put, xa, xb, xc]
     refine tk 14 hS (h := ?_); simp only [Act.put, xa, xb, xc]
     refine tk 15 hS (h := ?_); simp only [Act.put, xa, xb, xc]
     refine tk 16 hS (h := ?_); simp only [Act.put, xa, xb, xc]
     refine tk 17 hS (h := ?_); simp only [Act.put, xa, xb, xc]
     refine tk 18 hS (h := ?_); simp only [Act.put, xa, xb, xc]
     refine tk 19 hS (h := ?_); simp only [Act.put, xa, xb, xc]
     refine tk 20 hS (h := ?_); simp only [Act.put, xa, xb, xc]
     refine tk 21 hS (h := ?_); simp only [Act.put, xa, xb, xc]
     refine tk 22 hS (h := ?_); simp only [Act.put, xa, xb, xc]
     refine tk 23 hS (h := ?_); simp only [Act.put, xa, xb, xc]
     refine tk 24 hS (h := ?_); simp only [Act.put, xa, xb, xc]
     refine tk 25 hS (h := ?_); simp only [Act.put, xa, xb, xc]
     refine wpAnyH_done (by kernel_rfl) ?_ _
     refine NoPanic.normal ?_
     clear hS
     go_wp2
     go_ret
     exact ⟨rfl, (uh BX).drew⟩
end Go.Proofs.YtnbgnhhnpmmloaaGreatDoor
