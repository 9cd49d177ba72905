import Derived.Test.YtpbppdeleijhkaaGreatDoorG14
import Derived.Test.YtpbppdeleijhkaaGreatDoorST2
import Derived.Test.YtpbppdeleijhkaaGreatDoorG45
namespace Go.Proofs.YtpbppdeleijhkaaGreatDoor
open Go.ChangeShapes Go.WideShapes Go.ChangeAt Go.RowKit
set_option linter.unusedVariables false
set_option linter.unusedSimpArgs false
set_option maxRecDepth 100000
theorem flat_set {cs : List (List Value)} {sz : Nat} (h : ∀ c ∈ cs, c.length = sz) {i : Nat} {c : List Value} (hc : cs[i]? = some c) {j : Nat} (hj : j < sz) (u : Value) : (cs.set i (c.set j u)).flatten = cs.flatten.set (i * sz + j) u := by
 induction cs generalizing i with
 | nil => simp at hc
 | cons d cs ih =>
  cases i with
  | zero =>
   simp at hc
   subst hc
   rw [List.set_cons_zero, List.flatten_cons, List.flatten_cons, List.set_append_left _ _ (by rw [h d (by simp)]; omega)]
   simp
  | succ i =>
   rw [List.set_cons_succ, List.flatten_cons, List.flatten_cons, List.set_append_right _ _ (by rw [h d (by simp), Nat.succ_mul]; omega), h d (by simp), ih (fun c hc => h c (by simp [hc])) (by simpa using hc)]
   congr 2
   rw [Nat.succ_mul]
   omega
theorem Apt.sub {B : Nat} {w : World} {A A' : List Lf} (h : Apt B w A) (hs : A'.Sublist A) : Apt B w A' :=
 ⟨h.nd.sublist (hs.map _), fun a ha => h.lo a (hs.subset ha), fun a ha => h.inn a (hs.subset ha)⟩
theorem flat_sub {α : Type} {Ls : List (List α)} {i : Nat} {l l' : List α} (hl : Ls[i]? = some l) (hs : l'.Sublist l) : (Ls.set i l').flatten.Sublist Ls.flatten := by
 induction Ls generalizing i with
 | nil => simp at hl
 | cons d Ls ih =>
  cases i with
  | zero =>
   simp at hl
   subst hl
   rw [List.set_cons_zero, List.flatten_cons, List.flatten_cons]
   exact hs.append (List.Sublist.refl _)
  | succ i =>
   rw [List.set_cons_succ, List.flatten_cons, List.flatten_cons]
   exact (List.Sublist.refl _).append (ih (by simpa using hl))
theorem OwnT.put {α : Type} {el : World → α → List Value → List Lf → Prop} {ty : TypeId} {sz B : Nat} {w : World} {g n cap : Nat} {xs : List α} {Ls : List (List Lf)} (h : OwnT el ty sz B w (.slice (some ⟨g, 0, none⟩) n cap) xs Ls) (hn : xs.length = n)
  (hst : ∀ w w' x c l, el w x c l → (∀ a ∈ l, w'.heap[a.b]? = w.heap[a.b]?) → el w' x c l) {i : Nat} {x : α} (hx : xs[i]? = some x) {j : Nat} (hj : j < sz) (u : Value) (x' : α)
  (hel : ∀ c l, c.length = sz → el w x c l → ∃ l', l'.Sublist l ∧ el w x' (c.set j u) l') :
  ∃ Ls', OwnT el ty sz B (w.setCell ⟨g, i * sz + j, none⟩ u) (.slice (some ⟨g, 0, none⟩) n cap) (xs.set i x') Ls' ∧ ∀ a ∈ Ls'.flatten, a ∈ Ls.flatten := by
 obtain ⟨cs, h1, h2, h3, h4, h5, h6, h7⟩ := h
 have hil := (List.getElem?_eq_some_iff.1 hx).1
 obtain ⟨c, hc⟩ : ∃ x, cs[i]? = some x := ⟨_, List.getElem?_eq_getElem (by omega)⟩
 obtain ⟨l, hl⟩ : ∃ x, Ls[i]? = some x := ⟨_, List.getElem?_eq_getElem (by omega)⟩
 have hlen := h3 c (List.mem_of_getElem? hc)
 obtain ⟨l', hsub, hel'⟩ := hel c l hlen (h5 i x c l hx hc hl)
 rw [hn] at h4
 have hs := flat_sub hl hsub
 have hk : ∀ a ∈ Ls.flatten, (w.setCell ⟨g, i * sz + j, none⟩ u).heap[a.b]? = w.heap[a.b]? := fun a ha => RowKit.Below.heap_setCell _ _ _ _ (fun e => h7 a ha (by simp [Value.ownBlock, e]))
 refine ⟨Ls.set i l', ⟨cs.set i (c.set j u), by simp [h1], by simp [h2], fun d hd => ?_, ?_, fun k y d m hy hd hm => ?_, (h6.sub hs).keep (fun a ha => hk a (hs.subset ha)), fun a ha => h7 a (hs.subset ha)⟩, fun a ha => hs.subset ha⟩
 ·rcases List.mem_or_eq_of_mem_set hd with hd | rfl
  ·exact h3 d hd
  ·rw [List.length_set, hlen]
 ·rw [flat_set h3 hc hj, List.length_set, hn]
  exact (h4.stored _ u).1
 ·rw [List.getElem?_set] at hy hd hm
  by_cases e : i = k
  ·subst e
   rw [if_pos rfl, if_pos (by omega)] at hy hd hm
   cases hy
   cases hd
   cases hm
   exact hst _ _ _ _ _ hel' (fun a ha => hk a (List.mem_flatten.2 ⟨l, List.mem_of_getElem? hl, hsub.subset ha⟩))
  ·rw [if_neg e] at hy hd hm
   exact hst _ _ _ _ _ (h5 k y d m hy hd hm) (fun a ha => hk a (List.mem_flatten.2 ⟨m, List.mem_of_getElem? hm, ha⟩))
theorem OwnT.cell {α : Type} {el : World → α → List Value → List Lf → Prop} {ty : TypeId} {sz B : Nat} {w : World} {g n cap : Nat} {xs : List α} {Ls : List (List Lf)} (h : OwnT el ty sz B w (.slice (some ⟨g, 0, none⟩) n cap) xs Ls) (hn : xs.length = n) {i : Nat} (hi : i < n) {j : Nat} (hj : j < sz) : (∃ u, w.cell? ⟨g, i * sz + j, none⟩ = some u) ∧ ∀ o, w.frozen? ⟨g, o, none⟩ = false := by
 obtain ⟨cs, h1, h2, h3, h4, h5, h6, h7⟩ := h
 rw [hn] at h4
 have hks : i * sz + sz ≤ n * sz := by rw [← Nat.succ_mul]; exact Nat.mul_le_mul_right _ hi
 obtain ⟨c, hc⟩ : ∃ x, cs[i]? = some x := ⟨_, List.getElem?_eq_getElem (by omega)⟩
 have hlen := h3 c (List.mem_of_getElem? hc)
 refine ⟨⟨c[j]'(by omega), ?_⟩, fun o => h4.frozenAt o⟩
 rw [h4.cellAt (i * sz + j) (by omega), flat_get h3 hc hj, List.getElem?_eq_getElem]
theorem OwnT.ptr {α : Type} {el : World → α → List Value → List Lf → Prop} {ty : TypeId} {sz B : Nat} {w : World} {p : Option Addr} {n cap : Nat} {xs : List α} {Ls : List (List Lf)} (h : OwnT el ty sz B w (.slice p n cap) xs Ls) (hn : xs.length = n) (h0 : 0 < n) : ∃ g, p = some ⟨g, 0, none⟩ ∧ B ≤ g ∧ g < w.heap.size ∧ n ≤ cap := by
 have hl := h.lt
 obtain ⟨cs, h1, h2, h3, h4, h5, h6, h7⟩ := h
 rcases h4.2 with ⟨h', h''⟩ | ⟨g, cap', cur, h', hb, hg, hnc, _⟩
 ·omega
 ·simp only [Value.slice.injEq] at h'
  obtain ⟨rfl, -, rfl⟩ := h'
  exact ⟨g, rfl, hb, (hl.1 g rfl).2, by omega⟩
theorem OwnT.seB {B M : Nat} {w : World} {v : Value} {es : List Ses} {Ls : List (List Lf)} (h : OwnT elSe 65 3 B w v es Ls) (hM : ∀ a ∈ Ls.flatten, a.b < M) (hv : ∀ b, v.ownBlock = some b → b < M) : ∃ A, LvS w v es A ∧ Apt B w A ∧ ∀ a ∈ A, a.b < M := by
 have h' : OwnT (fun w x c l => elSe w x c l ∧ ∀ y ∈ l, y.b < M) 65 3 B w v es Ls := by
  obtain ⟨cs, h1, h2, h3, h4, h5, h6, h7⟩ := h
  exact ⟨cs, h1, h2, h3, h4, fun i x c l hx hc hl => ⟨h5 i x c l hx hc hl, fun y hy => hM y (List.mem_flatten.2 ⟨l, List.mem_of_getElem? hl, hy⟩)⟩, h6, h7⟩
 obtain ⟨A, hA, hAp⟩ := h'.lv (fun x b a l => LvSe w x b a l ∧ ∀ y ∈ l, y.b = b ∨ y.b < M) fun x c l b a hel hc hf hne hin hnd => by
  obtain ⟨⟨p', cc, rfl, h2, h3⟩, hlM⟩ := hel
  refine ⟨⟨b, a, .u64⟩ :: ⟨b, a + 1, .i64⟩ :: l, ⟨⟨p', cc, l, rfl, hc 2 _ rfl, h3⟩, fun y hy => ?_⟩, ?_, ?_, fun y hy => ?_⟩
  ·rcases List.mem_cons.1 hy with rfl | hy
   ·exact .inl rfl
   ·rcases List.mem_cons.1 hy with rfl | hy
    ·exact .inl rfl
    ·exact .inr (hlM y hy)
  ·rw [List.map_cons, List.nodup_cons, List.map_cons, List.nodup_cons]
   refine ⟨fun hm => ?_, fun hm => ?_, hnd⟩
   ·rcases List.mem_cons.1 hm with e | hm
    ·simp at e
    ·obtain ⟨y, hy, e⟩ := List.mem_map.1 hm
     simp only [Prod.mk.injEq] at e
     exact hne y hy e.1
   ·obtain ⟨y, hy, e⟩ := List.mem_map.1 hm
    simp only [Prod.mk.injEq] at e
    exact hne y hy e.1
  ·intro y hy
   rcases List.mem_cons.1 hy with rfl | hy
   ·exact ⟨⟨_, hc 0 _ rfl⟩, hf _⟩
   ·rcases List.mem_cons.1 hy with rfl | hy
    ·exact ⟨⟨_, hc 1 _ rfl⟩, hf _⟩
    ·exact hin y hy
  ·rcases List.mem_cons.1 hy with rfl | hy
   ·exact .inr ⟨rfl, by simp, by simp⟩
   ·rcases List.mem_cons.1 hy with rfl | hy
    ·exact .inr ⟨rfl, by simp, by simp⟩
    ·exact .inl hy
 refine ⟨A, hA.imp fun x b a l _ _ h => h.1, hAp, fun a ha => ?_⟩
 obtain ⟨p, c, LL, rfl, q1, rfl, q2⟩ := hA
 obtain ⟨l, hl, hal⟩ := List.mem_flatten.1 ha
 obtain ⟨i, hi⟩ := List.getElem?_of_mem hl
 have hil := (List.getElem?_eq_some_iff.1 hi).1
 obtain ⟨x, hx⟩ : ∃ x, es[i]? = some x := ⟨_, List.getElem?_eq_getElem (by omega)⟩
 rcases q2 with q2 | ⟨b, o, rfl, q2⟩
 ·subst q2
  simp at hx
 ·rcases (q2 i x l hx hi).2 a hal with e | e
  ·rw [e]
   exact hv b rfl
  ·exact e
structure StW (B : Nat) (w : World) (p : Option Addr) (n c : Nat) (q : Option Addr) (m d : Nat) (ss : List Ses) (ns : List Nod) : Prop where
 ls : ss.length = n
 ln : ns.length = m
 ex : ∃ BS BN LS LN, OwnT elSe 65 3 BS w (.slice p n c) ss LS ∧ OwnT elNo 71 8 BN w (.slice q m d) ns LN ∧ B ≤ BS ∧ BS ≤ BN ∧ (∀ b, (Value.slice p n c).ownBlock = some b → b < BN) ∧ ∀ a ∈ LS.flatten, a.b < BN
theorem RdU.news {w : World} {a : Addr} {c : Nat} {l : List Int} (h : RdU w (.slice (some a) l.length c) l) : (l.map (Value.int .u64)).length = l.length * 1 ∧ (∀ j u, (l.map (Value.int .u64))[j]? = some u → w.cell? (a.add j) = some u) ∧ (∀ u ∈ l.map (Value.int .u64), u.oneCell' = true) := by
 refine ⟨by simp, fun j u hu => ?_, fun u hu => by obtain ⟨n, -, rfl⟩ := List.mem_map.1 hu; rfl⟩
 have hj : j < l.length := by have := (List.getElem?_eq_some_iff.1 hu).1; simpa using this
 obtain ⟨p, c', e, hd⟩ := h
 simp only [Value.slice.injEq] at e
 obtain ⟨rfl, -, -⟩ := e
 rcases hd with h0 | ⟨b, o, e1, hc⟩
 ·rw [h0] at hj; simp at hj
 ·simp only [Option.some.injEq] at e1
  subst e1
  rw [Addr.add_lit, hc j hj, ← hu]
  simp [List.getD_eq_getElem?_getD, hj]
set_option maxHeartbeats 400000 in
theorem l3ids_any (p : Option Addr) (c n : Nat) (l : List Int) (en : Hid (l.length = n)) (w : World) (h : RdU w (.slice p n c) l) (hl : n ≤ 1048576) :
  Calls Tryz.prog 162 #[.slice p n c] w fun e w' => ∃ p' c', e = .returned (.slice p' n c') ∧ OwnU w.heap.size w' (.slice p' n c') l ∧ Below w.heap.size w w' := by
 have e := unhide en
 subst e
 obtain ⟨i, hi, hz0, hz1, hz2⟩ := info_parts Tryz.infoU64
 go_enter Tryz.func162, Tryz.ntmps162
 have hnil : w.ownsRow w.heap.size 23 1 (.slice none 0 0) 0 [] := World.ownsRow_nil w _ _ 1
 cases p with
 | none =>
  have e0 : l = [] := by
   obtain ⟨p, c', e, hd⟩ := h
   simp only [Value.slice.injEq] at e
   rcases hd with h0 | ⟨b, o, e1, hc⟩
   ·exact h0
   ·rw [e1] at e; simp at e
  subst e0
  have hap := run_append_none_any (P := Tryz.prog) w w.heap.size 41 41 23 i 1 Tryz.underlying41 hi _ _ _ c hnil
  go_wp2_with (at_builtin; refine Lib.wpList_append_run w rfl _ _ 41 41 rfl _ _ rfl rfl _ _ hap ?_)
  go_ret
  exact ⟨_, _, rfl, (by simpa [OwnU] using hnil), Below.refl _ _⟩
 | some ad =>
  obtain ⟨n1, n2, n3⟩ := h.news
  go_wp2_with (at_builtin; refine wpList_append_own w rfl _ _ 41 rfl w.heap.size 23 i (.int .u64 0) 1 8 Tryz.underlying41 hi hz0 hz1 hz2 rfl (by decide) _ _ _ rfl hnil ad _ c (l.map (Value.int .u64)) rfl n1 n2 n3 (by unfold maxLen; omega) (by omega) (Nat.le_refl _) ?_)
  intro v' w' h1 h2 _
  have ho : OwnU w.heap.size w' v' l := by simpa [OwnU] using h1
  obtain ⟨p', c', rfl⟩ := ho.form
  have hb : Below w.heap.size w w' := ⟨h2.os, h2.tape, h2.output, h2.size, fun k hk => h2.block k hk (by simp [Value.ownBlock])⟩
  clear h1 h2 n1 n2 n3 h
  go_wp2
  go_ret
  exact ⟨_, _, rfl, ho, hb⟩
theorem PB.far {w w' : World} {M N z0 : Nat} {v : Value} {xs : List Int} {A : List Lf} (h : PB w M N v xs A) (hM : z0 < M) (hk : ∀ z, z ≠ z0 → w'.heap[z]? = w.heap[z]?) : PB w' M N v xs A :=
 have k : ∀ a ∈ A, w'.heap[a.b]? = w.heap[a.b]? := fun a ha => hk _ (by have := h.ap.lo a ha; omega)
 ⟨h.rd.keepLv h.lv k, h.cap, h.lv, h.ap.keep k, h.hi⟩
theorem PU.far {w w' : World} {M N z0 : Nat} {v : Value} {xs : List Int} {A : List Lf} (h : PU w M N v xs A) (hM : z0 < M) (hk : ∀ z, z ≠ z0 → w'.heap[z]? = w.heap[z]?) : PU w' M N v xs A :=
 have k : ∀ a ∈ A, w'.heap[a.b]? = w.heap[a.b]? := fun a ha => hk _ (by have := h.ap.lo a ha; omega)
 ⟨h.rd.keepLv h.lv k, h.lv, h.ap.keep k, h.hi⟩
theorem OwnU.pu {B : Nat} {w : World} {p : Option Addr} {n c : Nat} {l : List Int} (h : OwnU B w (.slice p n c) l) : ∃ A, PU w B w.heap.size (.slice p n c) l A := by
 obtain ⟨A, q1, q2, q3, q4⟩ := row_lv (kd := .u64) h
 refine ⟨A, ?_, q1, q2, fun a ha => q2.inn.lt ha⟩
 rcases h.2 with ⟨e, h0⟩ | ⟨g, cap, cur, e, hb, hg, hr⟩
 ·rw [e]
  exact ⟨none, 0, by rw [h0], .inl (List.length_eq_zero_iff.1 h0)⟩
 ·rw [e] at h ⊢
  refine ⟨_, cap, rfl, .inr ⟨g, 0, rfl, fun i hi => ?_⟩⟩
  have := World.ownsRow.cellAt h i (by omega)
  rw [Nat.zero_add, this]
  simp [List.getD_eq_getElem?_getD, hi]
set_option maxHeartbeats 3200000 in
theorem l3copyNode_any (nd : Nod) (p0 p1 p4 p7 : Option Addr) (c0 c1 c4 c7 : Nat) (w : World) (h0 : Rd w (.slice p0 nd.path.length c0) nd.path) (h1 : Rd w (.slice p1 nd.value.length c1) nd.value) (h4 : RdU w (.slice p4 nd.holders.length c4) nd.holders) (h7 : RdU w (.slice p7 nd.watchers.length c7) nd.watchers) (l0 : nd.path.length ≤ 1048576) (l1 : nd.value.length ≤ 1048576) (l4 : nd.holders.length ≤ 1048576) (l7 : nd.watchers.length ≤ 1048576) :
  Calls Tryz.prog 118 #[ndV (.slice p0 nd.path.length c0) (.slice p1 nd.value.length c1) nd.owner nd.mode (.slice p4 nd.holders.length c4) nd.epoch nd.gen (.slice p7 nd.watchers.length c7)] w fun r w' => ∃ c l, r = .returned (.agg c) ∧ elNo w' nd c.toList l ∧ Apt w.heap.size w' l ∧ Below w.heap.size w w' := by
 have HR := hide fun (w' : World) (hb : Below w.heap.size w w') => And.intro (h0.below hb) (And.intro (h1.below hb) (And.intro (h4.below hb) (h7.below hb)))
 clear h0 h1 h4 h7
 obtain ⟨ow, mo, ep, ge, e1, e2, e3, e4⟩ : ∃ a b c d, nd.owner = a ∧ nd.mode = b ∧ nd.epoch = c ∧ nd.gen = d := ⟨_, _, _, _, rfl, rfl, rfl, rfl⟩
 rw [e1, e2, e3, e4]
 have HE := hide (And.intro e1 (And.intro e2 (And.intro e3 e4)))
 clear e1 e2 e3 e4
 obtain ⟨W, hW⟩ : ∃ W, W = (w.alloc (.cells #[.slice p0 nd.path.length c0, .slice p1 nd.value.length c1, .int .u64 ow, .int .i64 mo, .slice p4 nd.holders.length c4, .int .u64 ep, .int .u64 ge, .slice p7 nd.watchers.length c7] 71)) := ⟨_, rfl⟩
 obtain ⟨X0, hX0⟩ : ∃ X, X = (W.alloc (.cells #[.slice none 0 0, .slice none 0 0, .int .u64 0, .int .i64 0, .slice none 0 0, .int .u64 0, .int .u64 0, .slice none 0 0] 71)) := ⟨_, rfl⟩
 have zW : W.heap.size = w.heap.size + 1 := by rw [hW]; simp
 have z0 : X0.heap.size = w.heap.size + 2 := by rw [hX0]; simp; omega
 have bW : Below w.heap.size w W := by rw [hW]; exact (Below.refl _ _).alloc (Nat.le_refl _) _
 have bX : Below W.heap.size W X0 := by rw [hX0]; exact (Below.refl _ _).alloc (Nat.le_refl _) _
 have a0 : CellsAre X0 w.heap.size [.slice p0 nd.path.length c0, .slice p1 nd.value.length c1, .int .u64 ow, .int .i64 mo, .slice p4 nd.holders.length c4, .int .u64 ep, .int .u64 ge, .slice p7 nd.watchers.length c7] := by
  have : CellsAre W w.heap.size [.slice p0 nd.path.length c0, .slice p1 nd.value.length c1, .int .u64 ow, .int .i64 mo, .slice p4 nd.holders.length c4, .int .u64 ep, .int .u64 ge, .slice p7 nd.watchers.length c7] := by rw [hW]; exact CellsAre.alloc w #[.slice p0 nd.path.length c0, .slice p1 nd.value.length c1, .int .u64 ow, .int .i64 mo, .slice p4 nd.holders.length c4, .int .u64 ep, .int .u64 ge, .slice p7 nd.watchers.length c7] _
  exact this.below (by omega) bX
 have r0 : CellsAre X0 (w.heap.size + 1) [.slice none 0 0, .slice none 0 0, .int .u64 0, .int .i64 0, .slice none 0 0, .int .u64 0, .int .u64 0, .slice none 0 0] := by rw [hX0, show w.heap.size + 1 = W.heap.size by omega]; exact CellsAre.alloc W #[.slice none 0 0, .slice none 0 0, .int .u64 0, .int .i64 0, .slice none 0 0, .int .u64 0, .int .u64 0, .slice none 0 0] _
 have B0 := hide (Below.step bW bX)
 have A0 := hide a0
 have R0 := hide r0
 have ZX0 : w.heap.size + 2 ≤ X0.heap.size := by omega
 go_enter Tryz.func118, Tryz.ntmps118
 go_wp2_with fail
 rw [← hW, ← hX0]
 clear hW hX0 zW z0 bW bX a0 r0
 refine (l1copy_any p0 c0 nd.path _ (unhide HR _ (unhide B0)).1 (by omega)).mono ?_
 rintro r v1 ⟨s0, d0, rfl, o1, hb1⟩
 obtain ⟨m0, f0⟩ := Own.pb o1
 have ab1 := (unhide A0).below (by omega) hb1
 have rb1 := (unhide R0).below (by omega) hb1
 have bb1 := Below.step (unhide B0) hb1
 have zb1 := hb1.size
 have F0_1b := hide f0
 have ca0 := ab1.1 0 _ rfl
 have ca1 := ab1.1 1 _ rfl
 have ca2 := ab1.1 2 _ rfl
 have ca3 := ab1.1 3 _ rfl
 have ca4 := ab1.1 4 _ rfl
 have ca5 := ab1.1 5 _ rfl
 have ca6 := ab1.1 6 _ rfl
 have ca7 := ab1.1 7 _ rfl
 have fa := ab1.2
 obtain ⟨X1, hX1⟩ : ∃ X, X = v1.setCell ⟨w.heap.size, 0, none⟩ (.slice s0 nd.path.length d0) := ⟨_, rfl⟩
 have A1 : Hid (CellsAre X1 w.heap.size [.slice s0 nd.path.length d0, .slice p1 nd.value.length c1, .int .u64 ow, .int .i64 mo, .slice p4 nd.holders.length c4, .int .u64 ep, .int .u64 ge, .slice p7 nd.watchers.length c7]) := by show CellsAre _ _ _; rw [hX1]; exact ab1.near 0 (by simp) _
 have R1 : Hid (CellsAre X1 (w.heap.size + 1) [.slice none 0 0, .slice none 0 0, .int .u64 0, .int .i64 0, .slice none 0 0, .int .u64 0, .int .u64 0, .slice none 0 0]) := by show CellsAre _ _ _; rw [hX1]; exact rb1.far (by simp) _
 have B1 : Hid (Below w.heap.size w X1) := by show Below _ _ _; rw [hX1]; exact bb1.setCell (Nat.le_refl _) _
 have zx1 : v1.heap.size = X1.heap.size := by rw [hX1]; simp
 have F0_1 := hide ((unhide F0_1b).far (w' := X1) (z0 := w.heap.size) (by omega) (fun z hz => by rw [hX1]; exact RowKit.Below.heap_setCell _ _ _ _ hz))
 go_wp2_with fail
 rw [← hX1]
 clear hX1 ab1 rb1 bb1 f0 o1 hb1 ca0 ca1 ca2 ca3 ca4 ca5 ca6 ca7 fa F0_1b
 refine (l1copy_any p1 c1 nd.value _ (unhide HR _ (unhide B1)).2.1 (by omega)).mono ?_
 rintro r v2 ⟨s1, d1, rfl, o2, hb2⟩
 obtain ⟨m1, f1⟩ := Own.pb o2
 have ab2 := (unhide A1).below (by omega) hb2
 have rb2 := (unhide R1).below (by omega) hb2
 have bb2 := Below.step (unhide B1) hb2
 have zb2 := hb2.size
 have F0_2b := hide ((unhide F0_1).below hb2)
 have F1_2b := hide f1
 have ca0 := ab2.1 0 _ rfl
 have ca1 := ab2.1 1 _ rfl
 have ca2 := ab2.1 2 _ rfl
 have ca3 := ab2.1 3 _ rfl
 have ca4 := ab2.1 4 _ rfl
 have ca5 := ab2.1 5 _ rfl
 have ca6 := ab2.1 6 _ rfl
 have ca7 := ab2.1 7 _ rfl
 have fa := ab2.2
 obtain ⟨X2, hX2⟩ : ∃ X, X = v2.setCell ⟨w.heap.size, 1, none⟩ (.slice s1 nd.value.length d1) := ⟨_, rfl⟩
 have A2 : Hid (CellsAre X2 w.heap.size [.slice s0 nd.path.length d0, .slice s1 nd.value.length d1, .int .u64 ow, .int .i64 mo, .slice p4 nd.holders.length c4, .int .u64 ep, .int .u64 ge, .slice p7 nd.watchers.length c7]) := by show CellsAre _ _ _; rw [hX2]; exact ab2.near 1 (by simp) _
 have R2 : Hid (CellsAre X2 (w.heap.size + 1) [.slice none 0 0, .slice none 0 0, .int .u64 0, .int .i64 0, .slice none 0 0, .int .u64 0, .int .u64 0, .slice none 0 0]) := by show CellsAre _ _ _; rw [hX2]; exact rb2.far (by simp) _
 have B2 : Hid (Below w.heap.size w X2) := by show Below _ _ _; rw [hX2]; exact bb2.setCell (Nat.le_refl _) _
 have zx2 : v2.heap.size = X2.heap.size := by rw [hX2]; simp
 have F0_2 := hide ((unhide F0_2b).far (w' := X2) (z0 := w.heap.size) (by omega) (fun z hz => by rw [hX2]; exact RowKit.Below.heap_setCell _ _ _ _ hz))
 have F1_2 := hide ((unhide F1_2b).far (w' := X2) (z0 := w.heap.size) (by omega) (fun z hz => by rw [hX2]; exact RowKit.Below.heap_setCell _ _ _ _ hz))
 go_wp2_with fail
 rw [← hX2]
 clear hX2 ab2 rb2 bb2 f1 o2 hb2 ca0 ca1 ca2 ca3 ca4 ca5 ca6 ca7 fa F0_2b F1_2b
 refine (l3ids_any p4 c4 nd.holders.length nd.holders (by show _ = _; rfl) _ (unhide HR _ (unhide B2)).2.2.1 (by omega)).mono ?_
 rintro r v3 ⟨s4, d4, rfl, o3, hb3⟩
 obtain ⟨m4, f4⟩ := OwnU.pu o3
 have ab3 := (unhide A2).below (by omega) hb3
 have rb3 := (unhide R2).below (by omega) hb3
 have bb3 := Below.step (unhide B2) hb3
 have zb3 := hb3.size
 have F0_3b := hide ((unhide F0_2).below hb3)
 have F1_3b := hide ((unhide F1_2).below hb3)
 have F4_3b := hide f4
 have ca0 := ab3.1 0 _ rfl
 have ca1 := ab3.1 1 _ rfl
 have ca2 := ab3.1 2 _ rfl
 have ca3 := ab3.1 3 _ rfl
 have ca4 := ab3.1 4 _ rfl
 have ca5 := ab3.1 5 _ rfl
 have ca6 := ab3.1 6 _ rfl
 have ca7 := ab3.1 7 _ rfl
 have fa := ab3.2
 obtain ⟨X3, hX3⟩ : ∃ X, X = v3.setCell ⟨w.heap.size, 4, none⟩ (.slice s4 nd.holders.length d4) := ⟨_, rfl⟩
 have A3 : Hid (CellsAre X3 w.heap.size [.slice s0 nd.path.length d0, .slice s1 nd.value.length d1, .int .u64 ow, .int .i64 mo, .slice s4 nd.holders.length d4, .int .u64 ep, .int .u64 ge, .slice p7 nd.watchers.length c7]) := by show CellsAre _ _ _; rw [hX3]; exact ab3.near 4 (by simp) _
 have R3 : Hid (CellsAre X3 (w.heap.size + 1) [.slice none 0 0, .slice none 0 0, .int .u64 0, .int .i64 0, .slice none 0 0, .int .u64 0, .int .u64 0, .slice none 0 0]) := by show CellsAre _ _ _; rw [hX3]; exact rb3.far (by simp) _
 have B3 : Hid (Below w.heap.size w X3) := by show Below _ _ _; rw [hX3]; exact bb3.setCell (Nat.le_refl _) _
 have zx3 : v3.heap.size = X3.heap.size := by rw [hX3]; simp
 have F0_3 := hide ((unhide F0_3b).far (w' := X3) (z0 := w.heap.size) (by omega) (fun z hz => by rw [hX3]; exact RowKit.Below.heap_setCell _ _ _ _ hz))
 have F1_3 := hide ((unhide F1_3b).far (w' := X3) (z0 := w.heap.size) (by omega) (fun z hz => by rw [hX3]; exact RowKit.Below.heap_setCell _ _ _ _ hz))
 have F4_3 := hide ((unhide F4_3b).far (w' := X3) (z0 := w.heap.size) (by omega) (fun z hz => by rw [hX3]; exact RowKit.Below.heap_setCell _ _ _ _ hz))
 go_wp2_with fail
 rw [← hX3]
 clear hX3 ab3 rb3 bb3 f4 o3 hb3 ca0 ca1 ca2 ca3 ca4 ca5 ca6 ca7 fa F0_3b F1_3b F4_3b
 refine (l3ids_any p7 c7 nd.watchers.length nd.watchers (by show _ = _; rfl) _ (unhide HR _ (unhide B3)).2.2.2 (by omega)).mono ?_
 rintro r v4 ⟨s7, d7, rfl, o4, hb4⟩
 obtain ⟨m7, f7⟩ := OwnU.pu o4
 have ab4 := (unhide A3).below (by omega) hb4
 have rb4 := (unhide R3).below (by omega) hb4
 have bb4 := Below.step (unhide B3) hb4
 have zb4 := hb4.size
 have F0_4b := hide ((unhide F0_3).below hb4)
 have F1_4b := hide ((unhide F1_3).below hb4)
 have F4_4b := hide ((unhide F4_3).below hb4)
 have F7_4b := hide f7
 have ca0 := ab4.1 0 _ rfl
 have ca1 := ab4.1 1 _ rfl
 have ca2 := ab4.1 2 _ rfl
 have ca3 := ab4.1 3 _ rfl
 have ca4 := ab4.1 4 _ rfl
 have ca5 := ab4.1 5 _ rfl
 have ca6 := ab4.1 6 _ rfl
 have ca7 := ab4.1 7 _ rfl
 have fa := ab4.2
 obtain ⟨X4, hX4⟩ : ∃ X, X = v4.setCell ⟨w.heap.size, 7, none⟩ (.slice s7 nd.watchers.length d7) := ⟨_, rfl⟩
 have A4 : Hid (CellsAre X4 w.heap.size [.slice s0 nd.path.length d0, .slice s1 nd.value.length d1, .int .u64 ow, .int .i64 mo, .slice s4 nd.holders.length d4, .int .u64 ep, .int .u64 ge, .slice s7 nd.watchers.length d7]) := by show CellsAre _ _ _; rw [hX4]; exact ab4.near 7 (by simp) _
 have R4 : Hid (CellsAre X4 (w.heap.size + 1) [.slice none 0 0, .slice none 0 0, .int .u64 0, .int .i64 0, .slice none 0 0, .int .u64 0, .int .u64 0, .slice none 0 0]) := by show CellsAre _ _ _; rw [hX4]; exact rb4.far (by simp) _
 have B4 : Hid (Below w.heap.size w X4) := by show Below _ _ _; rw [hX4]; exact bb4.setCell (Nat.le_refl _) _
 have zx4 : v4.heap.size = X4.heap.size := by rw [hX4]; simp
 have F0_4 := hide ((unhide F0_4b).far (w' := X4) (z0 := w.heap.size) (by omega) (fun z hz => by rw [hX4]; exact RowKit.Below.heap_setCell _ _ _ _ hz))
 have F1_4 := hide ((unhide F1_4b).far (w' := X4) (z0 := w.heap.size) (by omega) (fun z hz => by rw [hX4]; exact RowKit.Below.heap_setCell _ _ _ _ hz))
 have F4_4 := hide ((unhide F4_4b).far (w' := X4) (z0 := w.heap.size) (by omega) (fun z hz => by rw [hX4]; exact RowKit.Below.heap_setCell _ _ _ _ hz))
 have F7_4 := hide ((unhide F7_4b).far (w' := X4) (z0 := w.heap.size) (by omega) (fun z hz => by rw [hX4]; exact RowKit.Below.heap_setCell _ _ _ _ hz))
 have cr0 := rb4.1 0 _ rfl
 have cr1 := rb4.1 1 _ rfl
 have cr2 := rb4.1 2 _ rfl
 have cr3 := rb4.1 3 _ rfl
 have cr4 := rb4.1 4 _ rfl
 have cr5 := rb4.1 5 _ rfl
 have cr6 := rb4.1 6 _ rfl
 have cr7 := rb4.1 7 _ rfl
 have fr := rb4.2
 have hne : ¬ w.heap.size = w.heap.size + 1 := by omega
 have hne2 : ¬ w.heap.size + 1 = w.heap.size := by omega
 clear ab4 rb4 bb4 f7 o4 hb4 F0_4b F1_4b F4_4b F7_4b
 go_wp2
 rw [← hX4]
 obtain ⟨Z, hZ⟩ : ∃ Z, Z = ((((((((X4.setCell ⟨w.heap.size + 1, 0, none⟩ (.slice s0 nd.path.length d0)).setCell ⟨w.heap.size + 1, 1, none⟩ (.slice s1 nd.value.length d1)).setCell ⟨w.heap.size + 1, 2, none⟩ (.int .u64 ow)).setCell ⟨w.heap.size + 1, 3, none⟩ (.int .i64 mo)).setCell ⟨w.heap.size + 1, 4, none⟩ (.slice s4 nd.holders.length d4)).setCell ⟨w.heap.size + 1, 5, none⟩ (.int .u64 ep)).setCell ⟨w.heap.size + 1, 6, none⟩ (.int .u64 ge)).setCell ⟨w.heap.size + 1, 7, none⟩ (.slice s7 nd.watchers.length d7)) := ⟨_, rfl⟩
 have hkZ : ∀ z, z ≠ w.heap.size + 1 → Z.heap[z]? = X4.heap[z]? := fun z hz => by
  rw [hZ]
  iterate 8 rw [RowKit.Below.heap_setCell _ _ _ _ hz]
 have hbZ : Below w.heap.size w Z := by
  rw [hZ]
  exact (((((((((unhide B4).setCell (by simp) _).setCell (by simp) _).setCell (by simp) _).setCell (by simp) _).setCell (by simp) _).setCell (by simp) _).setCell (by simp) _).setCell (by simp) _)
 obtain ⟨eln, apn⟩ := elNo.mk4 (B := X0.heap.size) (unhide F0_4) (unhide F1_4) (unhide F4_4) (unhide F7_4) (by omega) (by omega) (by omega) (by omega) (by omega) (by omega) (by omega) (by omega) (by omega) (by omega)
 have hkl : ∀ y ∈ m0 ++ (m1 ++ (m4 ++ m7)), Z.heap[y.b]? = X4.heap[y.b]? := fun y hy => hkZ _ (by have := apn.lo y hy; omega)
 obtain ⟨e1, e2, e3, e4⟩ := unhide HE
 have zr := (unhide R4).1
 have zc0 := zr 0 _ rfl
 have zc1 := zr 1 _ rfl
 have zc2 := zr 2 _ rfl
 have zc3 := zr 3 _ rfl
 have zc4 := zr 4 _ rfl
 have zc5 := zr 5 _ rfl
 have zc6 := zr 6 _ rfl
 have zc7 := zr 7 _ rfl
 have hen := elNo.keep _ Z _ _ _ eln hkl
 rw [e1, e2, e3, e4] at hen
 refine bodyPost_ret (v := .agg #[.slice s0 nd.path.length d0, .slice s1 nd.value.length d1, .int .u64 ow, .int .i64 mo, .slice s4 nd.holders.length d4, .int .u64 ep, .int .u64 ge, .slice s7 nd.watchers.length d7]) (by simp [results, Tryz.results118, go_sem, zc0, zc1, zc2, zc3, zc4, zc5, zc6, zc7]) rfl ⟨_, m0 ++ (m1 ++ (m4 ++ m7)), rfl, ?_⟩
 rw [← hZ]
 exact ⟨hen, (apn.keep hkl).mono (by omega), hbZ⟩
theorem l1copy_m (p : Option Addr) (c n : Nat) (l : List Int) (en : Hid (l.length = n)) (w : World) (h : Rd w (.slice p n c) l) (hl : n ≤ 2097152) :
  Calls Tryz.prog 96 #[.slice p n c] w fun e w' => ∃ p' c', e = .returned (.slice p' n c') ∧ Own w.heap.size w' (.slice p' n c') l ∧ Below w.heap.size w w' := by
 have e := unhide en
 subst e
 exact l1copy_any p c l w h hl
set_option maxHeartbeats 3200000 in
theorem l3events_any (p : Option Addr) (c n : Nat) (Q : List Ev) (en : Hid (Q.length = n)) (w : World) (h : RdE w (.slice p n c) Q) (hn : n ≤ 1048576) (hbq : Hid (∀ e ∈ Q, e.2.length ≤ 1048576)) :
  Calls Tryz.prog 117 #[.slice p n c] w fun r w' => ∃ p' c' A, r = .returned (.slice p' n c') ∧ RdEc w' (.slice p' n c') Q ∧ LvE w' (.slice p' n c') Q A ∧ Apt w.heap.size w' A ∧ Below w.heap.size w w' := by
 obtain ⟨ie, hie, hz0, hz1, hz2⟩ := info_parts Tryz.infoEv
 have HR := hide fun (w' : World) (hb : Below w.heap.size w w') => h.below hb
 clear h
 have hcf : ∀ (vs : Array Value) (w : World), (callFunc 96 vs).run Tryz.prog w = .ok (.enter 96 vs) w := fun vs w => by kernel_rfl
 have HCF := hide hcf
 clear hcf
 go_enter Tryz.func117, Tryz.ntmps117
 go_wp2_with fail
 go_loopw [3, 4] (fun ov iv wr => ∃ (k : Nat) (Ls : List (List Lf)), k ≤ n ∧ iv = .int .i64 k ∧ Hid (OwnT elEv 169 2 w.heap.size wr ov (Q.take k) Ls) ∧ Below w.heap.size w wr) (fun _ iv _ => n - (intOf iv).toNat)
 case atStart => exact ⟨0, [], Nat.zero_le _, rfl, OwnT.nil _ _ _ _ _, Below.refl _ _⟩
 case round =>
  obtain ⟨k, Ls, hk, rfl, ho, hbr⟩ := hrel
  by_cases hlt : k < n
  ·have hlt' : (k : Int) < (n : Int) := by omega
   have hkl : k < Q.length := by rw [unhide en]; exact hlt
   obtain ⟨⟨K, P⟩, hy⟩ : ∃ y, Q[k]? = some y := ⟨_, List.getElem?_eq_getElem hkl⟩
   obtain ⟨b, o, rfl, hcK, u, hcP, hrP⟩ : ∃ b o, p = some ⟨b, o, none⟩ ∧ wr.cell? ⟨b, o + k * 2, none⟩ = some (.int .i64 K) ∧ ∃ u, wr.cell? ⟨b, o + k * 2 + 1, none⟩ = some u ∧ Rd wr u P := by
    obtain ⟨p', c', ev, hd⟩ := unhide HR _ hbr
    simp only [Value.slice.injEq] at ev
    obtain ⟨rfl, -, -⟩ := ev
    rcases hd with h0 | ⟨b, o, h1, h2⟩
    ·rw [h0] at hkl; simp at hkl
    ·exact ⟨b, o, h1, h2 k _ hy⟩
   obtain ⟨pp, pc, m, rfl, em⟩ := hrP.slc
   have hm : m ≤ 1048576 := by rw [← unhide em]; exact unhide hbq _ (List.mem_of_getElem? hy)
   have HRP := hide hrP
   have HY := hide hy
   have HBW : Hid (b < w.heap.size) := by
    obtain ⟨p', c', ev, hd⟩ := unhide HR _ (Below.refl _ _)
    simp only [Value.slice.injEq] at ev
    rcases hd with h0 | ⟨b', o', h1, h2⟩
    ·rw [h0] at hkl; simp at hkl
    ·rw [h1] at ev
     simp only [Option.some.injEq, Addr.mk.injEq, and_true] at ev
     rw [ev.1.1]
     exact World.block_lt_of_cell? w _ (h2 k _ hy).1
   clear hrP hy hkl
   obtain ⟨V, hV⟩ : ∃ V, V = wr.drew := ⟨_, rfl⟩
   have hbV : Below wr.heap.size wr V := by rw [hV]; exact (Below.refl _ _).drew
   have KV := hide (And.intro (cell_below hcK hbV) (cell_below hcP hbV))
   have OV := hide ((unhide ho).below elEv.keep hbV)
   have rV := hide ((unhide HRP).below hbV)
   have zr := hbr.size
   have zV := hbV.size
   go_wp2_with fail
   refine wp_region_noPanic ?_
   refine wp_region_held_drew (S := fun w' => w'.cell? ⟨b, o + k * 2, none⟩ = some (.int .i64 K) ∧ w'.cell? ⟨b, o + k * 2 + 1, none⟩ = some (.slice pp m pc)) (by kernel_rfl) (by exact ⟨hcK, hcP⟩) (fun hS => ?_)
   rw [← hV] at hS ⊢
   clear hV ho hcK hcP
   refine tk 0 hS (h := ?_); simp only [Act.put, xa, xb, xc]
   refine tk 1 hS (h := ?_); simp only [Act.put, xa, xb, xc]
   refine tk 2 hS (h := ?_); simp only [Act.put, xa, xb, xc]
   refine tk 3 hS (h := ?_); simp only [Act.put, xa, xb, xc]
   refine tk 4 hS (h := ?_); simp only [Act.put, xa, xb, xc]
   refine tk 5 hS (h := ?_); simp only [Act.put, xa, xb, xc]
   refine tk 6 hS (h := ?_); simp only [Act.put, xa, xb, xc]
   refine tk 7 hS (h := ?_); simp only [Act.put, xa, xb, xc]
   refine tk 8 hS (h := ?_); simp only [Act.put, xa, xb, xc]
   refine tk 9 hS (h := ?_); simp only [Act.put, xa, xb, xc]
   refine tk 10 hS (h := ?_); simp only [Act.put, xa, xb, xc]
   refine ry [11] ?_
   refine cn (fun KK hK => ?_) ?_
   ·refine step_call1 (by rfl) 96 _ _ (by rfl) (.slice pp m pc) (by rfl) (fun _ => unhide HCF _ _) (l1copy_m pp pc m P em _ (unhide rV) (by omega)) ?_
    rintro r v1 ⟨p6, c6, rfl, o6, hb6⟩
    refine ⟨_, rfl, ?_⟩
    have K6 := hide (And.intro (cell_below (unhide KV).1 hb6) (cell_below (unhide KV).2 hb6))
    refine hK.out _ _ (by exact unhide K6) (fun hS => ?_)
    clear hK KK
    have O6 := hide o6
    have B6 := hide hb6
    clear o6 hb6
    (try simp only [Act.put, xa, xb, xc])
    refine tk 12 hS (h := ?_); simp only [Act.put, xa, xb, xc]
    refine ry [13] ?_
    refine cn (fun KK hK => ?_) ?_
    ·go_simp
     obtain ⟨Z, hZ⟩ : ∃ Z, Z = v1.alloc (.cells #[.int .i64 K, .slice p6 m c6] 169) := ⟨_, rfl⟩
     have A8 : Below v1.heap.size v1 Z := by rw [hZ]; exact (Below.refl _ _).alloc (Nat.le_refl _) _
     rw [← hZ]
     refine hK.out _ _ (by exact ⟨cell_below (unhide K6).1 A8, cell_below (unhide K6).2 A8⟩) (fun hS => ?_)
     clear hK KK
     have hcZ : ∀ j u, [Value.int .i64 K, .slice p6 m c6][j]? = some u → Z.cell? ⟨v1.heap.size, j, none⟩ = some u := fun j u hu => by
      have := (CellsAre.alloc v1 #[.int .i64 K, .slice p6 m c6] 169).1 j u (by simpa using hu)
      rw [hZ]
      exact this
     have bVZ : Below V.heap.size V Z := Below.step (unhide B6) A8
     have OZ := (unhide OV).below elEv.keep bVZ
     obtain ⟨lb, q1, q2, q3, q4⟩ := row_lv (kd := .u8) (Own.below (unhide O6) A8)
     have elz : elEv Z (K, P) [.int .i64 K, .slice p6 m c6] lb := ⟨p6, c6, by rw [unhide em], by rw [unhide em]; exact (Own.below (unhide O6) A8).rd, by rw [unhide em]; exact ⟨_, _, _, rfl, (Own.below (unhide O6) A8).cap, (Own.below (unhide O6) A8).capMax⟩, by rw [unhide em]; exact q1⟩
     obtain ⟨cs, g1, g2, g3, g4, g5, g6, g7⟩ := id OZ
     have hlV := (unhide OV).lt
     have hle : (Q.take k).length ≤ 1048576 := by rw [List.length_take]; omega
     have z9 : w.heap.size ≤ Z.heap.size := by have := bVZ.size; omega
     clear hZ
     (try simp only [Act.put, xa, xb, xc])
     refine ry [14] ?_
     refine cn (fun KK hK => ?_) ?_
     ·refine step_append_fr (by rfl) _ _ 63 (by rfl) w.heap.size 169 ie _ 2 32 Tryz.underlying63 hie hz0 hz1 hz2 rfl (by decide) u3 _ _ (by rfl) g4 v1.heap.size 1 1 [.int .i64 K, .slice p6 m c6] (by rfl) rfl hcZ (fun u hu => by simp at hu; rcases hu with rfl | rfl <;> rfl) (by unfold maxLen; omega) (by omega) z9 ?_
      intro v' w9 hrow hg hfr
      have sn := OwnT.snoc g1 g2 g3 g5 g6 g7 elEv.keep elz rfl q2 (by omega) (fun a ha => (hlV.2 a ha).2) (fun b hb => (hlV.1 b hb).2) hrow hg hfr
      rw [← take_snoc (unhide HY)] at sn
      have hb9 : Below w.heap.size w w9 := (Below.step (Below.step hbr hbV) bVZ).grown hg z9 (fun b hb => (hlV.1 b hb).1)
      have K9 : w9.cell? ⟨b, o + k * 2, none⟩ = some (.int .i64 K) ∧ w9.cell? ⟨b, o + k * 2 + 1, none⟩ = some (.slice pp m pc) := by
       obtain ⟨p', c', ev, hd⟩ := unhide HR _ hb9
       simp only [Value.slice.injEq, Option.some.injEq] at ev
       have hkl : k < Q.length := by rw [unhide en]; exact hlt
       rcases hd with h0 | ⟨b', o', h1, h2⟩
       ·rw [h0] at hkl; simp at hkl
       ·rw [h1] at ev
        simp only [Option.some.injEq, Addr.mk.injEq, and_true] at ev
        obtain ⟨⟨rfl, rfl⟩, -⟩ := ev
        obtain ⟨d1, u', d2, d3⟩ := h2 k _ (unhide HY)
        refine ⟨d1, ?_⟩
        have hne : some b ≠ u3.ownBlock := fun e => by
         have h5 := (hlV.1 b e.symm).1
         have h6 := unhide HBW
         omega
        exact hg.cell hS.2 hne
      refine hK.out _ _ (by exact K9) (fun hS => ?_)
      clear hK KK
      (try simp only [Act.put, xa, xb, xc])
      refine tk 15 hS (h := ?_); simp only [Act.put, xa, xb, xc]
      refine wpAnyH_done (by kernel_rfl) ?_ _
      refine NoPanic.normal ?_
      have SN := hide sn
      clear hS sn hrow hg hfr g1 g2 g3 g4 g5 g6 g7 elz q1 q2 q3 q4 hcZ OZ hlV
      go_wp2
      go_roundw
      case rel => exact ⟨k + 1, _, by omega, by go_num, SN, hb9⟩
      case measure => simp [intOf]; omega
     exact AllReadyH.nil
    exact AllReadyH.nil
   exact AllReadyH.nil
  ·have hlt' : ¬ (k : Int) < (n : Int) := by omega
   have ekn : k = n := by omega
   subst ekn
   have o2 := unhide ho
   rw [List.take_of_length_le (by rw [unhide en]; exact Nat.le_refl _)] at o2
   obtain ⟨rdE, A, lvE, apE⟩ := o2.ev
   obtain ⟨pv, cv, rfl, -⟩ := id rdE
   rw [unhide en] at rdE lvE ⊢
   clear o2
   have RD := hide (And.intro rdE (And.intro lvE apE))
   clear rdE lvE apE
   go_wp2
   go_ret
   exact ⟨pv, cv, rfl, (unhide RD).1, A, (unhide RD).2.1, (unhide RD).2.2, hbr⟩
end Go.Proofs.YtpbppdeleijhkaaGreatDoor
