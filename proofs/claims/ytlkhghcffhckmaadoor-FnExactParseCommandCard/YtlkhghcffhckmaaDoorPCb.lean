import Derived.Test.YtlkhghcffhckmaaDoorPCa
import Derived.Test.YtlkhghcffhckmaaDoorLOz
namespace Go.Proofs.YtlkhghcffhckmaaDoor
open Go.ChangeShapes Go.WideShapes Go.ChangeAt Go.RowKit
set_option linter.unusedVariables false
set_option linter.unusedSimpArgs false
set_option maxRecDepth 100000

/-- the words of a line, so far -/
def wstep (s : List (List Int) × List Int) (c : Int) : List (List Int) × List Int := if c = 32 then (if s.2 = [] then s.1 else s.1 ++ [s.2], []) else (s.1, s.2 ++ [c])
def wfold (l : List Int) : List (List Int) × List Int := l.foldl wstep ([], [])
def wds (l : List Int) : List (List Int) := if (wfold l).2 = [] then (wfold l).1 else (wfold l).1 ++ [(wfold l).2]
theorem wfold_step (l : List Int) (k : Nat) (c : Int) (h : l[k]? = some c) : wfold (l.take (k + 1)) = wstep (wfold (l.take k)) c := by
 rw [List.take_add_one, h, wfold, List.foldl_append]
 rfl
theorem wfold_len (l : List Int) : (wfold l).1.length + (wfold l).2.length ≤ l.length := by
 have key : ∀ (l : List Int) (s : List (List Int) × List Int), (l.foldl wstep s).1.length + (l.foldl wstep s).2.length ≤ s.1.length + s.2.length + l.length := by
  intro l
  induction l with
  | nil => intro s; simp
  | cons c l ih =>
   intro s
   rw [List.foldl_cons]
   refine Nat.le_trans (ih _) ?_
   rw [List.length_cons, wstep]
   split
   ·split
    ·simp; omega
    ·next h =>
     have := List.length_pos_iff.2 h
     simp only [List.length_append, List.length_cons, List.length_nil]
     omega
   ·simp only [List.length_append, List.length_cons, List.length_nil]
    omega
 have := key l ([], [])
 simp only [List.length_nil, Nat.zero_add] at this
 exact this
theorem infoSlP : (Tryd.prog.info? 22).map (fun i => (i.zero, i.size, i.bytes)) = some (some (.slice none 0 0), 1, 24) := by kernel_rfl
/-- a row of words of one's own: each of its own, below the block M -/
def OwnW (B M : Nat) (w : World) (v : Value) (ws : List (List Int)) : Prop :=
 ∃ vs : List Value, vs.length = ws.length ∧ w.ownsRow B 22 1 v ws.length vs ∧ ∀ (i : Nat) (x : List Int) (u : Value), ws[i]? = some x → vs[i]? = some u → Own B w u x ∧ ∀ b, u.ownBlock = some b → b < M
theorem OwnW.nil (B M : Nat) (w : World) : OwnW B M w (.slice none 0 0) [] := ⟨[], rfl, World.ownsRow_nil _ _ _ _, fun i x u h => by simp at h⟩
theorem OwnW.below {B M : Nat} {w w' : World} {v : Value} {ws : List (List Int)} (h : OwnW B M w v ws) (hb : Below w.heap.size w w') : OwnW B M w' v ws := by
 obtain ⟨vs, h1, h2, h3⟩ := h
 refine ⟨vs, h1, h2.kept (row := none) ⟨hb.os, hb.tape, hb.output, hb.size, fun k hk _ => hb.block k hk⟩ (by cases v.ownBlock <;> simp), fun i x u hx hu => ⟨Own.below (h3 i x u hx hu).1 hb, (h3 i x u hx hu).2⟩⟩
theorem OwnW.mono {B M M' : Nat} {w : World} {v : Value} {ws : List (List Int)} (h : OwnW B M w v ws) (hM : M ≤ M') : OwnW B M' w v ws := by
 obtain ⟨vs, h1, h2, h3⟩ := h
 exact ⟨vs, h1, h2, fun i x u hx hu => ⟨(h3 i x u hx hu).1, fun b e => Nat.lt_of_lt_of_le ((h3 i x u hx hu).2 b e) hM⟩⟩
theorem Own.byte {B : Nat} {w : World} {v : Value} {l : List Int} (h : Own B w v l) {b : Nat} (e : v.ownBlock = some b) : ∃ cur, w.heap[b]? = some (.cells cur 5) := by
 rcases h.2 with ⟨rfl, -⟩ | ⟨g, cap, cur, rfl, -, hg, -⟩
 ·simp [Value.ownBlock] at e
 ·simp only [Value.ownBlock, Option.some.injEq] at e
  subst e
  exact ⟨cur, hg⟩
/-- bytes of one's own from M on grow: the words stay -/
theorem OwnW.grown {B M : Nat} {w w' : World} {v o : Value} {ws : List (List Int)} {l : List Int} (h : OwnW B M w v ws) (ho : Own M w o l) (hg : w.grownBy w' o.ownBlock) : OwnW B M w' v ws := by
 obtain ⟨vs, h1, h2, h3⟩ := h
 refine ⟨vs, h1, h2.kept hg ?_, fun i x u hx hu => ?_⟩
 ·by_cases e : v.ownBlock = none
  ·exact .inl e
  ·refine .inr fun e2 => ?_
   obtain ⟨b, eb⟩ : ∃ b, v.ownBlock = some b := by cases hv : v.ownBlock with | none => exact absurd hv e | some b => exact ⟨b, rfl⟩
   obtain ⟨cur, hc⟩ := ho.byte (e2.symm.trans eb)
   rcases h2.2 with ⟨rfl, -⟩ | ⟨g, cap, cur2, rfl, -, hg2, -⟩
   ·simp [Value.ownBlock] at eb
   ·simp only [Value.ownBlock, Option.some.injEq] at eb
    subst eb
    rw [hc] at hg2
    simp at hg2
 ·obtain ⟨q1, q2⟩ := h3 i x u hx hu
  refine ⟨World.ownsRow.kept q1 hg ?_, q2⟩
  cases hu' : u.ownBlock with
  | none => exact .inl rfl
  | some b =>
   refine .inr fun e2 => ?_
   have h4 := q2 b hu'
   have h5 := (ho.lt b e2.symm).1
   omega
/-- a word more -/
theorem OwnW.snoc {B M : Nat} {w w' : World} {v v' o : Value} {ws : List (List Int)} {l : List Int} {vs : List Value} (h1 : vs.length = ws.length) (h3 : ∀ (i : Nat) (x : List Int) (u : Value), ws[i]? = some x → vs[i]? = some u → Own B w u x ∧ ∀ b, u.ownBlock = some b → b < M) (hr : w.ownsRow B 22 1 v ws.length vs)
  (ho : Own B w o l) (hM : ∀ b, o.ownBlock = some b → b < M) (hrow : w'.ownsRow B 22 1 v' (ws.length + 1) (vs ++ [o])) (hg : w.grownBy w' v.ownBlock) : OwnW B M w' v' (ws ++ [l]) := by
 have keep : ∀ (u : Value) (x : List Int), Own B w u x → Own B w' u x := fun u x hu => by
  refine World.ownsRow.kept hu hg ?_
  cases hu' : u.ownBlock with
  | none => exact .inl rfl
  | some b =>
   refine .inr fun e2 => ?_
   obtain ⟨cur, hc⟩ := hu.byte hu'
   rcases hr.2 with ⟨rfl, -⟩ | ⟨g, cap, cur2, rfl, -, hg2, -⟩
   ·simp [Value.ownBlock] at e2
   ·simp only [Value.ownBlock, Option.some.injEq] at e2
    subst e2
    rw [hc] at hg2
    simp at hg2
 refine ⟨vs ++ [o], by simp [h1], by simpa using hrow, fun i x u hx hu => ?_⟩
 by_cases hi : i < ws.length
 ·rw [List.getElem?_append_left hi] at hx
  rw [List.getElem?_append_left (by omega)] at hu
  exact ⟨keep u x (h3 i x u hx hu).1, (h3 i x u hx hu).2⟩
 ·have ei : i = ws.length := by
   have := (List.getElem?_eq_some_iff.1 hx).1
   simp at this
   omega
  subst ei
  rw [List.getElem?_append_right (Nat.le_refl _)] at hx
  rw [← h1, List.getElem?_append_right (Nat.le_refl _)] at hu
  simp at hx hu
  subst hx hu
  exact ⟨keep _ _ ho, hM⟩
theorem OwnW.form {B M : Nat} {w : World} {v : Value} {ws : List (List Int)} (h : OwnW B M w v ws) : ∃ p c, v = .slice p ws.length c := by
 obtain ⟨vs, -, h2, -⟩ := h
 rcases h2.2 with ⟨rfl, h0⟩ | ⟨g, cap, cur, rfl, -⟩
 ·exact ⟨none, 0, by rw [h0]⟩
 ·exact ⟨_, _, rfl⟩

set_option maxHeartbeats 3200000 in
theorem l6words_any (p : Option Addr) (c n : Nat) (l : List Int) (en : Hid (l.length = n)) (w : World) (h : Rd w (.slice p n c) l) (hb : Hid (Byt l)) (hl : n ≤ 1048576) (N : Nat) (eN : Hid ((wds l).length = N)) :
  Calls Tryd.prog 12 #[.slice p n c] w fun e w' => ∃ p' c', e = .returned (.slice p' N c') ∧ OwnW w.heap.size w'.heap.size w' (.slice p' N c') (wds l) ∧ Below w.heap.size w w' := by
 obtain ⟨ib, hib, hz0, hz1, hz2⟩ := info_parts infoSlP
 have HR := hide fun (w' : World) (hb : Below w.heap.size w w') => h.below hb
 clear h
 obtain ⟨S, hS⟩ : ∃ S : Nat → List (List Int) × List Int, S = fun k => if k ≤ n then wfold (l.take k) else (wds l, []) := ⟨_, rfl⟩
 have S0 : Hid (S 0 = ([], [])) := by show _ = _; rw [hS]; rfl
 have Sn : Hid (∀ k c, k < n → l[k]? = some c → S (k + 1) = wstep (S k) c) := fun k c hk hc => by rw [hS]; simp only; rw [if_pos (by omega), if_pos (by omega), wfold_step l k c hc]
 have Se : Hid (S (n + 1) = (if (S n).2 = [] then (S n).1 else (S n).1 ++ [(S n).2], [])) := by
  show _ = _
  rw [hS]
  simp only
  rw [if_neg (by omega), if_pos (Nat.le_refl _), List.take_of_length_le (by rw [unhide en]; exact Nat.le_refl _), wds]
 have Sf : Hid ((S (n + 1)).1 = wds l) := by show _ = _; rw [hS]; simp only; rw [if_neg (by omega)]
 have Sl : Hid (∀ k, k ≤ n → (S k).1.length ≤ n ∧ (S k).2.length ≤ n) := fun k hk => by
  rw [hS]
  simp only
  rw [if_pos hk]
  have := wfold_len (l.take k)
  rw [List.length_take] at this
  omega
 clear hS
 go_enter Tryd.func12, Tryd.ntmps12
 go_wp2
 go_loopw [3, 4, 5] (fun ov nv iv wr => ∃ (k M : Nat) (po : Option Addr) (No co : Nat) (p1 : Option Addr) (N1 c1 : Nat), k ≤ n + 1 ∧ ov = .slice po No co ∧ nv = .slice p1 N1 c1 ∧ iv = .int .i64 k ∧ w.heap.size ≤ M ∧ M ≤ wr.heap.size ∧ Hid ((S k).1.length = No) ∧ Hid ((S k).2.length = N1) ∧ Hid (OwnW w.heap.size M wr (.slice po No co) (S k).1) ∧ Hid (Own M wr (.slice p1 N1 c1) (S k).2) ∧ Hid (Below w.heap.size w wr)) (fun _ _ iv _ => n + 1 - (intOf iv).toNat)
 case atStart => exact ⟨0, w.heap.size, none, 0, 0, none, 0, 0, by omega, rfl, rfl, rfl, Nat.le_refl _, Nat.le_refl _, (by rw [unhide S0]; rfl), (by rw [unhide S0]; rfl), (by rw [unhide S0]; exact OwnW.nil _ _ _), (by rw [unhide S0]; exact ⟨rfl, .inl ⟨rfl, rfl⟩⟩), Below.refl _ _⟩
 case round =>
  obtain ⟨k, M, po, No, co, p1, N1, c1, hk, rfl, rfl, rfl, hM1, hM2, eo, e1, hW, hO, hB⟩ := hrel
  have wk : IntKind.i64.wrap ((k : Int) + 1) = ((k + 1 : Nat) : Int) := by rw [IntWalk.i64_in _ (by omega)]; omega
  by_cases hle : k ≤ n
  ·have hle' : (k : Int) ≤ (n : Int) := by omega
   have hlt0 : No ≤ n ∧ N1 ≤ n := by have := unhide Sl k hle; rw [unhide eo, unhide e1] at this; exact this
   by_cases hkn : k = n
   ·subst hkn
    have heq : ((k : Int) == (k : Int)) = true := by simp
    have hs : S (k + 1) = (if (S k).2 = [] then (S k).1 else (S k).1 ++ [(S k).2], []) := unhide Se
    have HS := hide hs
    clear hs
    by_cases hz : N1 = 0
    ·subst hz
     have h2 : (S k).2 = [] := List.length_eq_zero_iff.1 (unhide e1)
     have hs : S (k + 1) = ((S k).1, []) := by rw [unhide HS, if_pos h2]
     have HS2 := hide hs
     clear hs h2
     go_wp2
     go_roundw
     case rel => exact ⟨k + 1, wr.heap.size, po, No, co, none, 0, 0, by omega, rfl, rfl, by go_num, by omega, Nat.le_refl _, (by rw [unhide HS2]; exact eo), (by rw [unhide HS2]; rfl), (by rw [unhide HS2]; exact (unhide hW).mono hM2), (by rw [unhide HS2]; exact ⟨rfl, .inl ⟨rfl, rfl⟩⟩), hB⟩
     case measure => first | (simp [intOf]; omega) | simp [intOf]
    ·have hz' : (0 : Int) < (N1 : Int) := by omega
     have h2 : ¬ (S k).2 = [] := fun hh => hz (by rw [← unhide e1, hh]; rfl)
     have hs : S (k + 1) = ((S k).1 ++ [(S k).2], []) := by rw [unhide HS, if_neg h2]
     have HS2 := hide hs
     clear hs h2
     obtain ⟨v3, hv3⟩ : ∃ V, V = wr.alloc (.cells #[.slice p1 N1 c1] 22) := ⟨_, rfl⟩
     have hb3 : Below wr.heap.size wr v3 := by rw [hv3]; exact (Below.refl _ _).alloc (Nat.le_refl _) _
     have hcC : ∀ i u, ([.slice p1 N1 c1] : List Value)[i]? = some u → v3.cell? ⟨wr.heap.size, i, none⟩ = some u := fun i u hu => by
      rw [hv3]
      cases i with
      | zero => simp at hu; subst hu; simp
      | succ i => simp at hu
     have z3 : v3.heap.size = wr.heap.size + 1 := by rw [hv3]; simp
     obtain ⟨vs, q1, q2, q3⟩ := (unhide hW).below hb3
     have hlO : Hid (∀ b, (Value.slice po No co).ownBlock = some b → w.heap.size ≤ b) := fun b eb => (q2.lt b eb).1
     rw [unhide eo] at q2
     have HQ := hide (And.intro q1 (And.intro q2 q3))
     have HCC := hide hcC
     have O3 := hide (Own.below (unhide hO) hb3)
     have B3 := hide (Below.step (unhide hB) hb3)
     clear hcC q1 q2 q3
     go_wp2_with (at_builtin; rw [← hv3]; refine wpList_append_fr rfl _ _ 36 rfl w.heap.size 22 ib _ 1 24 Tryd.underlying36 hib hz0 hz1 hz2 rfl (by decide) (.slice po No co) No _ rfl (unhide HQ).2.1 wr.heap.size 1 1 [.slice p1 N1 c1] rfl rfl (unhide HCC) (fun u hu => by simp at hu; subst hu; rfl) (by unfold maxLen; omega) (by omega) (by omega) ?_)
     intro v' w9 hrow hg hfr
     rw [← hv3] at hg
     have sn : OwnW w.heap.size v3.heap.size w9 v' ((S k).1 ++ [(S k).2]) := OwnW.snoc (unhide HQ).1 (fun i x u hx hu => ⟨((unhide HQ).2.2 i x u hx hu).1, fun b eb => by have := ((unhide HQ).2.2 i x u hx hu).2 b eb; omega⟩) (by rw [unhide eo]; exact (unhide HQ).2.1) (Own.mono (unhide O3) hM1) (fun b eb => ((unhide O3).lt b eb).2) (by rw [unhide eo]; exact hrow) hg
     obtain ⟨pN, cN, e9⟩ := sn.form
     rw [List.length_append, unhide eo] at e9
     subst e9
     have z9 := hg.size
     have B9 := hide ((unhide B3).grown hg (unhide B3).size (fun b eb => unhide hlO b eb))
     have SN := hide (sn.mono (M' := w9.heap.size) z9)
     clear hrow hg hfr sn hv3 hb3
     go_wp2
     go_roundw
     case rel => exact ⟨k + 1, w9.heap.size, pN, No + 1, cN, none, 0, 0, by omega, rfl, rfl, by go_num, by omega, Nat.le_refl _, (by rw [unhide HS2]; show ((S k).1 ++ [(S k).2]).length = No + 1; rw [List.length_append, unhide eo]; rfl), (by rw [unhide HS2]; rfl), (by rw [unhide HS2]; exact unhide SN), (by rw [unhide HS2]; exact ⟨rfl, .inl ⟨rfl, rfl⟩⟩), B9⟩
     case measure => first | (simp [intOf]; omega) | simp [intOf]
   ·have hlt : k < n := by omega
    have hne : ¬ (k : Int) = (n : Int) := by omega
    have hlt' : (k : Int) < (n : Int) := by omega
    have hkl : k < l.length := by rw [unhide en]; exact hlt
    obtain ⟨x, hx⟩ : ∃ x, l[k]? = some x := ⟨_, List.getElem?_eq_getElem hkl⟩
    obtain ⟨b, q, rfl, hcx⟩ : ∃ b o, p = some ⟨b, o, none⟩ ∧ wr.cell? ⟨b, o + k, none⟩ = some (.int .u8 x) := by
     obtain ⟨p', c', ev, hd⟩ := unhide HR _ (unhide hB)
     simp only [Value.slice.injEq] at ev
     obtain ⟨rfl, -, -⟩ := ev
     rcases hd with h0 | ⟨b, o, h1, h2⟩
     ·rw [h0] at hkl; simp at hkl
     ·refine ⟨b, o, h1, ?_⟩
      have := h2 k hkl
      rw [List.getD_eq_getElem?_getD, hx, Option.getD_some] at this
      exact this
    have HX := hide hx
    clear hx hkl hle'
    by_cases h32 : x = 32
    ·subst h32
     have hs : S (k + 1) = (if (S k).2 = [] then (S k).1 else (S k).1 ++ [(S k).2], []) := by rw [unhide Sn k 32 hlt (unhide HX), wstep, if_pos rfl]
     have HS := hide hs
     clear hs
     by_cases hz : N1 = 0
     ·subst hz
      have h2 : (S k).2 = [] := List.length_eq_zero_iff.1 (unhide e1)
      have hs : S (k + 1) = ((S k).1, []) := by rw [unhide HS, if_pos h2]
      have HS2 := hide hs
      clear hs h2
      go_wp2
      go_roundw
      case rel => exact ⟨k + 1, wr.heap.size, po, No, co, none, 0, 0, by omega, rfl, rfl, by go_num, by omega, Nat.le_refl _, (by rw [unhide HS2]; exact eo), (by rw [unhide HS2]; rfl), (by rw [unhide HS2]; exact (unhide hW).mono hM2), (by rw [unhide HS2]; exact ⟨rfl, .inl ⟨rfl, rfl⟩⟩), hB⟩
      case measure => first | (simp [intOf]; omega) | simp [intOf]
     ·have hz' : (0 : Int) < (N1 : Int) := by omega
      have h2 : ¬ (S k).2 = [] := fun hh => hz (by rw [← unhide e1, hh]; rfl)
      have hs : S (k + 1) = ((S k).1 ++ [(S k).2], []) := by rw [unhide HS, if_neg h2]
      have HS2 := hide hs
      clear hs h2
      obtain ⟨v3, hv3⟩ : ∃ V, V = wr.alloc (.cells #[.slice p1 N1 c1] 22) := ⟨_, rfl⟩
      have hb3 : Below wr.heap.size wr v3 := by rw [hv3]; exact (Below.refl _ _).alloc (Nat.le_refl _) _
      have hcC : ∀ i u, ([.slice p1 N1 c1] : List Value)[i]? = some u → v3.cell? ⟨wr.heap.size, i, none⟩ = some u := fun i u hu => by
       rw [hv3]
       cases i with
       | zero => simp at hu; subst hu; simp
       | succ i => simp at hu
      have z3 : v3.heap.size = wr.heap.size + 1 := by rw [hv3]; simp
      obtain ⟨vs, q1, q2, q3⟩ := (unhide hW).below hb3
      have hlO : Hid (∀ b, (Value.slice po No co).ownBlock = some b → w.heap.size ≤ b) := fun b eb => (q2.lt b eb).1
      rw [unhide eo] at q2
      have HQ := hide (And.intro q1 (And.intro q2 q3))
      have HCC := hide hcC
      have O3 := hide (Own.below (unhide hO) hb3)
      have B3 := hide (Below.step (unhide hB) hb3)
      clear hcC q1 q2 q3
      go_wp2_with (at_builtin; rw [← hv3]; refine wpList_append_fr rfl _ _ 36 rfl w.heap.size 22 ib _ 1 24 Tryd.underlying36 hib hz0 hz1 hz2 rfl (by decide) (.slice po No co) No _ rfl (unhide HQ).2.1 wr.heap.size 1 1 [.slice p1 N1 c1] rfl rfl (unhide HCC) (fun u hu => by simp at hu; subst hu; rfl) (by unfold maxLen; omega) (by omega) (by omega) ?_)
      intro v' w9 hrow hg hfr
      rw [← hv3] at hg
      have sn : OwnW w.heap.size v3.heap.size w9 v' ((S k).1 ++ [(S k).2]) := OwnW.snoc (unhide HQ).1 (fun i x u hx hu => ⟨((unhide HQ).2.2 i x u hx hu).1, fun b eb => by have := ((unhide HQ).2.2 i x u hx hu).2 b eb; omega⟩) (by rw [unhide eo]; exact (unhide HQ).2.1) (Own.mono (unhide O3) hM1) (fun b eb => ((unhide O3).lt b eb).2) (by rw [unhide eo]; exact hrow) hg
      obtain ⟨pN, cN, e9⟩ := sn.form
      rw [List.length_append, unhide eo] at e9
      subst e9
      have z9 := hg.size
      have B9 := hide ((unhide B3).grown hg (unhide B3).size (fun b eb => unhide hlO b eb))
      have SN := hide (sn.mono (M' := w9.heap.size) z9)
      clear hrow hg hfr sn hv3 hb3
      go_wp2
      go_roundw
      case rel => exact ⟨k + 1, w9.heap.size, pN, No + 1, cN, none, 0, 0, by omega, rfl, rfl, by go_num, by omega, Nat.le_refl _, (by rw [unhide HS2]; show ((S k).1 ++ [(S k).2]).length = No + 1; rw [List.length_append, unhide eo]; rfl), (by rw [unhide HS2]; rfl), (by rw [unhide HS2]; exact unhide SN), (by rw [unhide HS2]; exact ⟨rfl, .inl ⟨rfl, rfl⟩⟩), B9⟩
      case measure => first | (simp [intOf]; omega) | simp [intOf]
    ·have hs : S (k + 1) = ((S k).1, (S k).2 ++ [x]) := by rw [unhide Sn k x hlt (unhide HX), wstep, if_neg h32]
     have HS2 := hide hs
     have hne2 : ((k : Int) == (n : Int)) = false := beq_eq_false_iff_ne.2 hne
     have hx2 : (x == 32) = false := beq_eq_false_iff_ne.2 h32
     clear hs
     obtain ⟨LM, eLM⟩ : ∃ L, Hid (L = (S k).2 ++ [x]) := ⟨_, (by show _ = _; rfl)⟩
     go_wp2_with (at_builtin; refine wpList_append_byte rfl _ _ rfl M (.slice p1 N1 c1) (S k).2 LM x eLM wr.heap.size rfl rfl (Own.below (unhide hO) ((Below.refl _ _).alloc (Nat.le_refl _) _)) (by simp) (by rw [unhide e1]; omega) (by simp; omega) ?_)
     intro p2 c2 w9 o9 hg
     have hb3 : Below wr.heap.size wr (wr.alloc (.cells #[.int .u8 x] 5)) := (Below.refl _ _).alloc (Nat.le_refl _) _
     have oA := Own.below (unhide hO) hb3
     have W9 := hide (((unhide hW).below hb3).grown oA hg)
     have B9 := hide ((Below.step (unhide hB) hb3).grown hg (Below.step (unhide hB) hb3).size (fun b eb => by have := (oA.lt b eb).1; omega))
     have z9 := hg.size
     have eLl : LM.length = N1 + 1 := by rw [unhide eLM, List.length_append, unhide e1]; rfl
     rw [eLl] at o9 ⊢
     have z10 : M ≤ w9.heap.size := by simp at z9; omega
     have O9 := hide o9
     clear hg o9 oA hb3 z9
     go_wp2
     go_roundw
     case rel => exact ⟨k + 1, M, po, No, co, p2, N1 + 1, c2, by omega, rfl, rfl, by go_num, hM1, z10, (by rw [unhide HS2]; exact eo), (by rw [unhide HS2, ← unhide eLM]; exact eLl), (by rw [unhide HS2]; exact W9), (by rw [unhide HS2, ← unhide eLM]; exact O9), B9⟩
     case measure => first | (simp [intOf]; omega) | simp [intOf]
  ·have hle' : ¬ (k : Int) ≤ (n : Int) := by omega
   have ek : k = n + 1 := by omega
   subst ek
   have hNN : No = N := by rw [← unhide eo, unhide Sf]; exact unhide eN
   subst hNN
   have W9 := unhide hW
   rw [unhide Sf] at W9
   have HW9 := hide (W9.mono hM2)
   clear W9
   go_wp2
   go_ret
   exact ⟨po, co, rfl, unhide HW9, unhide hB⟩
end Go.Proofs.YtlkhghcffhckmaaDoor
