import Derived.Test.YtpbppdeleijhkaaGreatDoorG4
import Derived.Test.YtpbppdeleijhkaaGreatDoorG13
namespace Go.Proofs.YtpbppdeleijhkaaGreatDoor
open Go.ChangeShapes Go.WideShapes Go.ChangeAt Go.RowKit
set_option linter.unusedVariables false
set_option linter.unusedSimpArgs false
set_option maxRecDepth 100000
set_option maxHeartbeats 400000 in
theorem joined_any (g : Nat) (vs : List Value) (ls : List (List Int)) (lm : List Int) (n k : Nat) (ek : Hid (k = ls.length)) (e : Hid (lm = cat ls)) (en : Hid (lm.length = n)) (w : World) (h : Parts w g vs ls) (hl : n ≤ 4194304) (hk : k ≤ 10) :
  Calls Tryz.prog 67 #[.slice (some ⟨g, 0, none⟩) k k] w fun e w' => ∃ p' c', e = .returned (.slice p' n c') ∧ Own w.heap.size w' (.slice p' n c') lm ∧ Below w.heap.size w w' := by
 have e1 := unhide ek
 have e2 := unhide e
 have e3 := unhide en
 subst e1 e3 e2
 go_enter Tryz.func67, Tryz.ntmps67
 go_wp2_with fail
 refine (concat_any g vs ls _ h hl (by omega)).mono ?_
 rintro e w1 ⟨p1, c1, rfl, o1, hb1⟩
 go_wp2
 go_ret
 exact ⟨p1, c1, rfl, o1, hb1⟩
theorem parts2 {w : World} {g : Nat} {v0 v1 : Value} {l0 l1 : List Int} (c0 : w.cell? ⟨g, 0, none⟩ = some v0) (c1 : w.cell? ⟨g, 1, none⟩ = some v1) (r0 : Rd w v0 l0) (r1 : Rd w v1 l1) : Parts w g [v0, v1] [l0, l1] := by
 refine ⟨rfl, fun j v x e1 e2 => ?_⟩
 match j, e1, e2 with
 | 0, e1, e2 => simp at e1 e2; subst e1 e2; exact ⟨c0, r0⟩
 | 1, e1, e2 => simp at e1 e2; subst e1 e2; exact ⟨c1, r1⟩
theorem parts5 {w : World} {g : Nat} {v0 v1 v2 v3 v4 : Value} {l0 l1 l2 l3 l4 : List Int} (c0 : w.cell? ⟨g, 0, none⟩ = some v0) (c1 : w.cell? ⟨g, 1, none⟩ = some v1) (c2 : w.cell? ⟨g, 2, none⟩ = some v2) (c3 : w.cell? ⟨g, 3, none⟩ = some v3) (c4 : w.cell? ⟨g, 4, none⟩ = some v4) (r0 : Rd w v0 l0) (r1 : Rd w v1 l1) (r2 : Rd w v2 l2) (r3 : Rd w v3 l3) (r4 : Rd w v4 l4) : Parts w g [v0, v1, v2, v3, v4] [l0, l1, l2, l3, l4] := by
 refine ⟨rfl, fun j v x e1 e2 => ?_⟩
 match j, e1, e2 with
 | 0, e1, e2 => simp at e1 e2; subst e1 e2; exact ⟨c0, r0⟩
 | 1, e1, e2 => simp at e1 e2; subst e1 e2; exact ⟨c1, r1⟩
 | 2, e1, e2 => simp at e1 e2; subst e1 e2; exact ⟨c2, r2⟩
 | 3, e1, e2 => simp at e1 e2; subst e1 e2; exact ⟨c3, r3⟩
 | 4, e1, e2 => simp at e1 e2; subst e1 e2; exact ⟨c4, r4⟩
theorem cat2 (a b : List Int) : cat [a, b] = a ++ b := by simp [cat]
theorem cat5 (a b c d e : List Int) : cat [a, b, c, d, e] = a ++ (b ++ (c ++ (d ++ e))) := by simp [cat]
def tx (l : List Int) : List Int := vi l.length ++ l
theorem tx_len (l : List Int) : l.length + 1 ≤ (tx l).length ∧ (tx l).length ≤ l.length + 10 := by
 have := vi_len l.length
 rw [tx, List.length_append]
 omega
set_option maxHeartbeats 800000 in
theorem l3text_any (p : Option Addr) (c n : Nat) (l : List Int) (en : Hid (l.length = n)) (w : World) (h : Rd w (.slice p n c) l) (hl : n ≤ 1048576) (N : Nat) (eN : Hid ((tx l).length = N)) :
  Calls Tryz.prog 98 #[.slice p n c] w fun e w' => ∃ p' c', e = .returned (.slice p' N c') ∧ Own w.heap.size w' (.slice p' N c') (tx l) ∧ Below w.heap.size w w' := by
 obtain ⟨M, eM⟩ : ∃ M, (vi n).length = M := ⟨_, rfl⟩
 have hM := vi_len n
 rw [eM] at hM
 have EM := hide eM
 clear eM
 have hN : M + n = N := by rw [← unhide eN, tx, List.length_append, unhide en, unhide EM]
 have wn : IntKind.u64.wrap (n : Int) = (n : Int) := by rw [IntKind.wrap_u64]; omega
 have EE : Hid (tx l = vi n ++ l) := by show _ = _; rw [tx, unhide en]
 go_enter Tryz.func98, Tryz.ntmps98
 go_wp2_with fail
 refine (l3var_any 9 n _ (by omega) (by omega) (by omega) M EM).mono ?_
 rintro e w1 ⟨p1, c1, rfl, o1, b1⟩
 have r1 := h.below b1
 have z1 := b1.size
 have o1' : Own w.heap.size w1 (.slice p1 M c1) (vi n) := o1
 clear o1 h
 go_wp2_with (at_builtin; refine wpList_append_rdn rfl _ _ rfl w.heap.size (.slice p1 M c1) (vi n) l (tx l) EE p c n en rfl rfl o1' r1 (by rw [unhide EM, unhide en]; omega) (by omega) ?_)
 intro p2 c2 w2 o2 hg2
 have b2 := below_grown b1 hg2 o1' (Nat.le_refl _) (by omega)
 rw [unhide eN] at o2 ⊢
 clear hg2 o1' r1 b1
 go_wp2
 go_ret
 exact ⟨p2, c2, rfl, o2, b2⟩
set_option maxHeartbeats 800000 in
theorem textBytes_any (p : Option Addr) (c n : Nat) (l : List Int) (en : Hid (l.length = n)) (w : World) (h : Rd w (.slice p n c) l) (hl : n ≤ 1048576) (N : Nat) (eN : Hid ((tx l).length = N)) :
  Calls Tryz.prog 87 #[.slice p n c] w fun e w' => ∃ p' c', e = .returned (.slice p' N c') ∧ Own w.heap.size w' (.slice p' N c') (tx l) ∧ Below w.heap.size w w' := by
 obtain ⟨M, eM⟩ : ∃ M, (vi n).length = M := ⟨_, rfl⟩
 have hM := vi_len n
 rw [eM] at hM
 have EM := hide eM
 clear eM
 have hN : M + n = N := by rw [← unhide eN, tx, List.length_append, unhide en, unhide EM]
 have wn : IntKind.u64.wrap (n : Int) = (n : Int) := by rw [IntKind.wrap_u64]; omega
 have EE : Hid (tx l = cat [vi n, l]) := by show _ = _; rw [cat2, tx, unhide en]
 go_enter Tryz.func87, Tryz.ntmps87
 go_wp2_with fail
 refine (varint_any n _ (by omega)).mono ?_
 rintro e w1 ⟨p1, c1, rfl, o1, b1⟩
 rw [unhide EM] at o1 ⊢
 have r1 := h.below b1
 have z1 := b1.size
 have rv := o1.rd
 clear o1 h
 go_wp2_with fail
 refine (joined_any w1.heap.size [.slice p1 M c1, .slice p n c] [vi n, l] (tx l) N 2 rfl EE eN _ (parts2 (by simp) (by simp) (rv.below ((Below.refl _ _).alloc (Nat.le_refl _) _)) (r1.below ((Below.refl _ _).alloc (Nat.le_refl _) _))) (by omega) (by omega)).mono ?_
 rintro e w2 ⟨p2, c2, rfl, o2, hb2⟩
 have b2 : Below w.heap.size w w2 := Below.step (Below.step b1 ((Below.refl _ _).alloc (Nat.le_refl _) _)) hb2
 have o3 : Own w.heap.size w2 (.slice p2 N c2) (tx l) := Own.mono o2 (by simp; omega)
 clear o2 hb2 r1 rv b1
 go_wp2
 go_ret
 exact ⟨p2, c2, rfl, o3, b2⟩
theorem OwnT.read {α : Type} {el : World → α → List Value → List Lf → Prop} {ty : TypeId} {sz B : Nat} {w : World} {v : Value} {xs : List α} {Ls : List (List Lf)} (h : OwnT el ty sz B w v xs Ls) :
  ∃ p cap, v = .slice p xs.length cap ∧ (xs = [] ∨ ∃ g, p = some ⟨g, 0, none⟩ ∧ ∀ (i : Nat) (x : α), xs[i]? = some x → ∃ c l, el w x c l ∧ ∀ (j : Nat) (u : Value), c[j]? = some u → w.cell? ⟨g, 0 + i * sz + j, none⟩ = some u) := by
 obtain ⟨cs, h1, h2, h3, h4, h5, h6, h7⟩ := h
 rcases id h4.2 with ⟨rfl, h0⟩ | ⟨g, cap, cur, rfl, hb, hg, -, -, -, -⟩
 ·exact ⟨none, 0, by rw [h0], .inl (List.length_eq_zero_iff.1 h0)⟩
 ·refine ⟨_, cap, rfl, .inr ⟨g, rfl, fun i x hx => ?_⟩⟩
  have hi := (List.getElem?_eq_some_iff.1 hx).1
  obtain ⟨c, hc⟩ : ∃ x, cs[i]? = some x := ⟨_, List.getElem?_eq_getElem (by omega)⟩
  obtain ⟨l, hl⟩ : ∃ x, Ls[i]? = some x := ⟨_, List.getElem?_eq_getElem (by omega)⟩
  refine ⟨c, l, h5 i x c l hx hc hl, fun j u hu => ?_⟩
  have hlen : c.length = sz := h3 c (List.mem_of_getElem? hc)
  have hj : j < sz := by have := (List.getElem?_eq_some_iff.1 hu).1; omega
  have hks : i * sz + sz ≤ xs.length * sz := by rw [← Nat.succ_mul]; exact Nat.mul_le_mul_right _ hi
  rw [Nat.zero_add, h4.cellAt (i * sz + j) (by omega), flat_get h3 hc hj]
  exact hu
theorem OwnT.ev {B : Nat} {w : World} {v : Value} {es : List Ev} {Ls : List (List Lf)} (h : OwnT elEv 169 2 B w v es Ls) : RdEc w v es ∧ ∃ A, LvE w v es A ∧ Apt B w A := by
 refine ⟨?_, h.lv (LvEv w) fun x c l b a hel hc hf hne hin hnd => ?_⟩
 ·obtain ⟨p, cap, rfl, hd⟩ := h.read
  refine ⟨p, cap, rfl, ?_⟩
  rcases hd with hd | ⟨g, rfl, hd⟩
  ·exact .inl hd
  ·refine .inr ⟨g, 0, rfl, fun i e he => ?_⟩
   obtain ⟨c, l, ⟨p', cc, rfl, h2, h3, h4⟩, hcell⟩ := hd i e he
   exact ⟨hcell 0 _ rfl, _, hcell 1 _ rfl, h2, h3⟩
 ·obtain ⟨p', cc, rfl, h2, h3, h4⟩ := hel
  refine ⟨⟨b, a, .i64⟩ :: l, ⟨p', cc, l, rfl, hc 1 _ rfl, h4⟩, ?_, ?_, fun y hy => ?_⟩
  ·rw [List.map_cons, List.nodup_cons]
   refine ⟨fun hm => ?_, hnd⟩
   obtain ⟨y, hy, e⟩ := List.mem_map.1 hm
   simp only [Prod.mk.injEq] at e
   exact hne y hy e.1
  ·intro y hy
   rcases List.mem_cons.1 hy with rfl | hy
   ·exact ⟨⟨_, hc 0 _ rfl⟩, hf _⟩
   ·exact hin y hy
  ·rcases List.mem_cons.1 hy with rfl | hy
   ·exact .inr ⟨rfl, by simp, by simp⟩
   ·exact .inl hy
theorem OwnT.se {B : Nat} {w : World} {v : Value} {es : List Ses} {Ls : List (List Lf)} (h : OwnT elSe 65 3 B w v es Ls) : RdSc w v es ∧ ∃ A, LvS w v es A ∧ Apt B w A := by
 refine ⟨?_, h.lv (LvSe w) fun x c l b a hel hc hf hne hin hnd => ?_⟩
 ·obtain ⟨p, cap, rfl, hd⟩ := h.read
  refine ⟨p, cap, rfl, ?_⟩
  rcases hd with hd | ⟨g, rfl, hd⟩
  ·exact .inl hd
  ·refine .inr ⟨g, 0, rfl, fun i e he => ?_⟩
   obtain ⟨c, l, ⟨p', cc, rfl, h2, h3⟩, hcell⟩ := hd i e he
   exact ⟨hcell 0 _ rfl, hcell 1 _ rfl, _, hcell 2 _ rfl, h2⟩
 ·obtain ⟨p', cc, rfl, h2, h3⟩ := hel
  refine ⟨⟨b, a, .u64⟩ :: ⟨b, a + 1, .i64⟩ :: l, ⟨p', cc, l, rfl, hc 2 _ rfl, h3⟩, ?_, ?_, fun y hy => ?_⟩
  ·rw [List.map_cons, List.nodup_cons, List.map_cons, List.nodup_cons]
   refine ⟨fun hm => ?_, fun hm => ?_, hnd⟩
   ·rcases List.mem_cons.1 hm with e | hm
    ·simp at e
    ·obtain ⟨y, hy, e⟩ := List.mem_map.1 hm
     simp only [Prod.mk.injEq] at e
     exact hne y hy e.1
   ·obtain ⟨y, hy, e⟩ := List.mem_map.1 hm
    simp only [Prod.mk.injEq] at e
    exact hne y hy e.1
  ·intro y hy
   rcases List.mem_cons.1 hy with rfl | hy
   ·exact ⟨⟨_, hc 0 _ rfl⟩, hf _⟩
   ·rcases List.mem_cons.1 hy with rfl | hy
    ·exact ⟨⟨_, hc 1 _ rfl⟩, hf _⟩
    ·exact hin y hy
  ·rcases List.mem_cons.1 hy with rfl | hy
   ·exact .inr ⟨rfl, by simp, by simp⟩
   ·rcases List.mem_cons.1 hy with rfl | hy
    ·exact .inr ⟨rfl, by simp, by simp⟩
    ·exact .inl hy
theorem nodup_ins {A A' : List Lf} {b a : Nat} {k1 k2 : IntKind} {i j : Nat} (hij : i ≠ j) (h : ((A ++ A').map fun a => (a.b, a.o)).Nodup) (hne : ∀ y ∈ A ++ A', y.b ≠ b ∨ (y.o ≠ a + i ∧ y.o ≠ a + j)) : ((A ++ (⟨b, a + i, k1⟩ :: ⟨b, a + j, k2⟩ :: A')).map fun a => (a.b, a.o)).Nodup := by
 rw [List.map_append, List.nodup_append] at h ⊢
 obtain ⟨n1, n2, n3⟩ := h
 refine ⟨n1, ?_, fun x hx y hy => ?_⟩
 ·rw [List.map_cons, List.nodup_cons, List.map_cons, List.nodup_cons]
  refine ⟨fun hm => ?_, fun hm => ?_, n2⟩
  ·rcases List.mem_cons.1 hm with e | hm
   ·simp at e; exact hij e
   ·obtain ⟨y, hy, e⟩ := List.mem_map.1 hm
    simp only [Prod.mk.injEq] at e
    rcases hne y (by simp [hy]) with h | h
    ·exact h e.1
    ·exact h.1 e.2
  ·obtain ⟨y, hy, e⟩ := List.mem_map.1 hm
   simp only [Prod.mk.injEq] at e
   rcases hne y (by simp [hy]) with h | h
   ·exact h e.1
   ·exact h.2 e.2
 ·obtain ⟨z, hz, rfl⟩ := List.mem_map.1 hx
  have hz' := hne z (by simp [hz])
  rw [List.map_cons, List.map_cons] at hy
  rcases List.mem_cons.1 hy with rfl | hy
  ·intro e
   simp only [Prod.mk.injEq] at e
   rcases hz' with h | h
   ·exact h e.1
   ·exact h.1 e.2
  ·rcases List.mem_cons.1 hy with rfl | hy
   ·intro e
    simp only [Prod.mk.injEq] at e
    rcases hz' with h | h
    ·exact h e.1
    ·exact h.2 e.2
   ·exact n3 _ (List.mem_map_of_mem hz) _ hy
theorem OwnT.no {B : Nat} {w : World} {v : Value} {es : List Nod} {Ls : List (List Lf)} (h : OwnT elNo 71 8 B w v es Ls) : RdN w v es ∧ ∃ A, LvN w v es A ∧ Apt B w A := by
 refine ⟨?_, h.lv (LvNo w) fun x c l b a hel hc hf hne hin hnd => ?_⟩
 ·obtain ⟨p, cap, rfl, hd⟩ := h.read
  refine ⟨p, cap, rfl, ?_⟩
  rcases hd with hd | ⟨g, rfl, hd⟩
  ·exact .inl hd
  ·refine .inr ⟨g, 0, rfl, fun i e he => ?_⟩
   obtain ⟨c, l, ⟨p0, c0, p1, c1, p4, c4, p7, c7, l0, l1, l4, l7, -, rfl, ⟨h3, h4, h5⟩, ⟨h6, h7⟩, ⟨h8, h9⟩, ⟨h10, h11⟩⟩, hcell⟩ := hd i e he
   exact ⟨_, _, _, _, ⟨hcell 0 _ rfl, hcell 1 _ rfl, hcell 2 _ rfl, hcell 3 _ rfl, hcell 4 _ rfl, hcell 5 _ rfl, hcell 6 _ rfl, hcell 7 _ rfl, h3, h6, h8, h10, h4⟩⟩
 ·obtain ⟨p0, c0, p1, c1, p4, c4, p7, c7, l0, l1, l4, l7, rfl, rfl, ⟨h3, h4, h5⟩, ⟨h6, h7⟩, ⟨h8, h9⟩, ⟨h10, h11⟩⟩ := hel
  refine ⟨l0 ++ (l1 ++ (⟨b, a + 2, .u64⟩ :: ⟨b, a + 3, .i64⟩ :: (l4 ++ (⟨b, a + 5, .u64⟩ :: ⟨b, a + 6, .u64⟩ :: l7)))),
   ⟨p0, c0, p1, c1, p4, c4, p7, c7, l0, l1, l4, l7, rfl, ⟨hc 0 _ rfl, h5⟩, ⟨hc 1 _ rfl, h7⟩, ⟨hc 4 _ rfl, h9⟩, ⟨hc 7 _ rfl, h11⟩⟩, ?_, ?_, fun y hy => ?_⟩
  ·have s1 : (((l0 ++ (l1 ++ l4)) ++ (⟨b, a + 5, .u64⟩ :: ⟨b, a + 6, .u64⟩ :: l7)).map fun a => (a.b, a.o)).Nodup := nodup_ins (by decide) (by simpa using hnd) (fun y hy => .inl (hne y (by simpa using hy)))
   have s2 := nodup_ins (A := l0 ++ l1) (A' := l4 ++ (⟨b, a + 5, .u64⟩ :: ⟨b, a + 6, .u64⟩ :: l7)) (b := b) (a := a) (k1 := .u64) (k2 := .i64) (i := 2) (j := 3) (by decide) (by simpa using s1) (fun y hy => by
    simp only [List.mem_append, List.mem_cons] at hy
    rcases hy with (hy | hy) | hy | rfl | rfl | hy
    ·exact .inl (hne y (by simp [hy]))
    ·exact .inl (hne y (by simp [hy]))
    ·exact .inl (hne y (by simp [hy]))
    ·exact .inr (by simp)
    ·exact .inr (by simp)
    ·exact .inl (hne y (by simp [hy])))
   simpa using s2
  ·intro y hy
   simp only [List.mem_append, List.mem_cons] at hy
   rcases hy with hy | hy | rfl | rfl | hy | rfl | rfl | hy
   ·exact hin y (by simp [hy])
   ·exact hin y (by simp [hy])
   ·exact ⟨⟨_, hc 2 _ rfl⟩, hf _⟩
   ·exact ⟨⟨_, hc 3 _ rfl⟩, hf _⟩
   ·exact hin y (by simp [hy])
   ·exact ⟨⟨_, hc 5 _ rfl⟩, hf _⟩
   ·exact ⟨⟨_, hc 6 _ rfl⟩, hf _⟩
   ·exact hin y (by simp [hy])
  ·simp only [List.mem_append, List.mem_cons] at hy
   rcases hy with hy | hy | rfl | rfl | hy | rfl | rfl | hy
   ·exact .inl (by simp [hy])
   ·exact .inl (by simp [hy])
   ·exact .inr ⟨rfl, by simp, by simp⟩
   ·exact .inr ⟨rfl, by simp, by simp⟩
   ·exact .inl (by simp [hy])
   ·exact .inr ⟨rfl, by simp, by simp⟩
   ·exact .inr ⟨rfl, by simp, by simp⟩
   ·exact .inl (by simp [hy])
theorem LvS.keep {w w' : World} {v : Value} {xs : List Ses} {A : List Lf} (h : LvS w v xs A) (hk : ∀ a ∈ A, w'.heap[a.b]? = w.heap[a.b]?) : LvS w' v xs A := by
 refine h.imp fun x b a l hx hsub hP => ?_
 obtain ⟨p, c, lb, h1, h2, h3⟩ := hP
 refine ⟨p, c, lb, h1, ?_, LvE.keep h3 (fun y hy => hk y (hsub y (by rw [h1]; simp [hy])))⟩
 have : w'.heap[b]? = w.heap[b]? := hk ⟨b, a, .u64⟩ (hsub _ (by rw [h1]; simp))
 exact (cell_at_heap this _).trans h2
theorem LvN.keep {w w' : World} {v : Value} {xs : List Nod} {A : List Lf} (h : LvN w v xs A) (hk : ∀ a ∈ A, w'.heap[a.b]? = w.heap[a.b]?) : LvN w' v xs A := by
 refine h.imp fun x b a l hx hsub hP => ?_
 obtain ⟨p0, c0, p1, c1, p4, c4, p7, c7, l0, l1, l4, l7, h1, ⟨h2, h3⟩, ⟨h4, h5⟩, ⟨h6, h7⟩, ⟨h8, h9⟩⟩ := hP
 have : w'.heap[b]? = w.heap[b]? := hk ⟨b, a + 2, .u64⟩ (hsub _ (by rw [h1]; simp))
 have hc := cell_at_heap this
 exact ⟨p0, c0, p1, c1, p4, c4, p7, c7, l0, l1, l4, l7, h1, ⟨(hc _).trans h2, h3⟩, ⟨(hc _).trans h4, h5⟩, ⟨(hc _).trans h6, h7⟩, ⟨(hc _).trans h8, h9⟩⟩
theorem RdSc.keepLv {w w' : World} {v : Value} {xs : List Ses} {A : List Lf} (h : RdSc w v xs) (hl : LvS w v xs A) (hk : ∀ a ∈ A, w'.heap[a.b]? = w.heap[a.b]?) : RdSc w' v xs := by
 obtain ⟨p, c, rfl, hd⟩ := h
 refine ⟨p, c, rfl, ?_⟩
 rcases hd with hd | ⟨b, o, rfl, hd⟩
 ·exact .inl hd
 ·refine .inr ⟨b, o, rfl, fun i e he => ?_⟩
  obtain ⟨Ls, en, lL, eA, hat⟩ := hl.at
  obtain ⟨b', o', x, l, e1, hx, hl', hP, -, hsub⟩ := hat i (List.getElem?_eq_some_iff.1 he).1
  simp only [Option.some.injEq, Addr.mk.injEq, and_true] at e1
  obtain ⟨rfl, rfl⟩ := e1
  rw [he] at hx
  cases hx
  obtain ⟨q, cc, lb, e2, h2, h3⟩ := hP
  have hb : w'.heap[b]? = w.heap[b]? := hk ⟨b, o + i * 3, .u64⟩ (hsub _ (by rw [e2]; simp))
  obtain ⟨r1, r1', u, r2, r3⟩ := hd i e he
  have : u = .slice q e.2.2.length cc := by rw [h2] at r2; exact (Option.some.inj r2).symm
  subst this
  exact ⟨(cell_at_heap hb _).trans r1, (cell_at_heap hb _).trans r1', _, (cell_at_heap hb _).trans r2, r3.keepLv h3 (fun a ha => hk a (hsub a (by rw [e2]; simp [ha])))⟩
theorem RdN.keepLv {w w' : World} {v : Value} {xs : List Nod} {A : List Lf} (h : RdN w v xs) (hl : LvN w v xs A) (hk : ∀ a ∈ A, w'.heap[a.b]? = w.heap[a.b]?) : RdN w' v xs := by
 obtain ⟨p, c, rfl, hd⟩ := h
 refine ⟨p, c, rfl, ?_⟩
 rcases hd with hd | ⟨b, o, rfl, hd⟩
 ·exact .inl hd
 ·refine .inr ⟨b, o, rfl, fun i e he => ?_⟩
  obtain ⟨Ls, en, lL, eA, hat⟩ := hl.at
  obtain ⟨b', o', x, l, e1, hx, hl', hP, -, hsub⟩ := hat i (List.getElem?_eq_some_iff.1 he).1
  simp only [Option.some.injEq, Addr.mk.injEq, and_true] at e1
  obtain ⟨rfl, rfl⟩ := e1
  rw [he] at hx
  cases hx
  obtain ⟨p0, c0, p1, c1, p4, c4, p7, c7, l0, l1, l4, l7, e2, ⟨h2, h3⟩, ⟨h4, h5⟩, ⟨h6, h7⟩, ⟨h8, h9⟩⟩ := hP
  have hb : w'.heap[b]? = w.heap[b]? := hk ⟨b, o + i * 8 + 2, .u64⟩ (hsub _ (by rw [e2]; simp))
  have hc := cell_at_heap hb
  obtain ⟨P, V, H, U, na⟩ := hd i e he
  have q0 : P = _ := Option.some.inj (na.c0.symm.trans h2)
  have q1 : V = _ := Option.some.inj (na.c1.symm.trans h4)
  have q4 : H = _ := Option.some.inj (na.c4.symm.trans h6)
  have q7 : U = _ := Option.some.inj (na.c7.symm.trans h8)
  subst q0 q1 q4 q7
  have hs : ∀ y, (y ∈ l0 ∨ y ∈ l1 ∨ y ∈ l4 ∨ y ∈ l7) → w'.heap[y.b]? = w.heap[y.b]? := fun y hy => hk y (hsub y (by rw [e2]; rcases hy with hy | hy | hy | hy <;> simp [hy]))
  exact ⟨_, _, _, _, ⟨(hc _).trans na.c0, (hc _).trans na.c1, (hc _).trans na.c2, (hc _).trans na.c3, (hc _).trans na.c4, (hc _).trans na.c5, (hc _).trans na.c6, (hc _).trans na.c7,
   na.r0.keepLv h3 (fun a ha => hs a (.inl ha)), na.r1.keepLv h5 (fun a ha => hs a (.inr (.inl ha))), na.r4.keepLv h7 (fun a ha => hs a (.inr (.inr (.inl ha)))), na.r7.keepLv h9 (fun a ha => hs a (.inr (.inr (.inr ha)))), na.k0⟩⟩
end Go.Proofs.YtpbppdeleijhkaaGreatDoor
