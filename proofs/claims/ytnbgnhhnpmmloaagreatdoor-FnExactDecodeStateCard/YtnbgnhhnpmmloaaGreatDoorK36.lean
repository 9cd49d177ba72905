import Derived.Test.YtnbgnhhnpmmloaaGreatDoorK17
import Derived.Test.YtnbgnhhnpmmloaaGreatDoorK35
import Derived.Test.YtnbgnhhnpmmloaaGreatDoorK18
namespace Go.Proofs.YtnbgnhhnpmmloaaGreatDoor
open Go.ChangeShapes Go.WideShapes Go.ChangeAt Go.RowKit
set_option linter.unusedVariables false
set_option linter.unusedSimpArgs false
set_option maxRecDepth 100000
theorem flat_set {cs : List (List Value)} {sz : Nat} (h : ∀ c ∈ cs, c.length = sz) {i : Nat} {c : List Value} (hc : cs[i]? = some c) {j : Nat} (hj : j < sz) (u : Value) : (cs.set i (c.set j u)).flatten = cs.flatten.set (i * sz + j) u := by
 induction cs generalizing i with
 | nil => simp at hc
 | cons d cs ih =>
  cases i with
  | zero =>
   simp at hc
   subst hc
   rw [List.set_cons_zero, List.flatten_cons, List.flatten_cons, List.set_append_left _ _ (by rw [h d (by simp)]; omega)]
   simp
  | succ i =>
   rw [List.set_cons_succ, List.flatten_cons, List.flatten_cons, List.set_append_right _ _ (by rw [h d (by simp), Nat.succ_mul]; omega), h d (by simp), ih (fun c hc => h c (by simp [hc])) (by simpa using hc)]
   congr 2
   rw [Nat.succ_mul]
   omega
theorem Apt.sub {B : Nat} {w : World} {A A' : List Lf} (h : Apt B w A) (hs : A'.Sublist A) : Apt B w A' :=
 ⟨h.nd.sublist (hs.map _), fun a ha => h.lo a (hs.subset ha), fun a ha => h.inn a (hs.subset ha)⟩
theorem flat_sub {α : Type} {Ls : List (List α)} {i : Nat} {l l' : List α} (hl : Ls[i]? = some l) (hs : l'.Sublist l) : (Ls.set i l').flatten.Sublist Ls.flatten := by
 induction Ls generalizing i with
 | nil => simp at hl
 | cons d Ls ih =>
  cases i with
  | zero =>
   simp at hl
   subst hl
   rw [List.set_cons_zero, List.flatten_cons, List.flatten_cons]
   exact hs.append (List.Sublist.refl _)
  | succ i =>
   rw [List.set_cons_succ, List.flatten_cons, List.flatten_cons]
   exact (List.Sublist.refl _).append (ih (by simpa using hl))
theorem OwnT.put {α : Type} {el : World → α → List Value → List Lf → Prop} {ty : TypeId} {sz B : Nat} {w : World} {g n cap : Nat} {xs : List α} {Ls : List (List Lf)} (h : OwnT el ty sz B w (.slice (some ⟨g, 0, none⟩) n cap) xs Ls) (hn : xs.length = n)
  (hst : ∀ w w' x c l, el w x c l → (∀ a ∈ l, w'.heap[a.b]? = w.heap[a.b]?) → el w' x c l) {i : Nat} {x : α} (hx : xs[i]? = some x) {j : Nat} (hj : j < sz) (u : Value) (x' : α)
  (hel : ∀ c l, c.length = sz → el w x c l → ∃ l', l'.Sublist l ∧ el w x' (c.set j u) l') :
  ∃ Ls', OwnT el ty sz B (w.setCell ⟨g, i * sz + j, none⟩ u) (.slice (some ⟨g, 0, none⟩) n cap) (xs.set i x') Ls' ∧ ∀ a ∈ Ls'.flatten, a ∈ Ls.flatten := by
 obtain ⟨cs, h1, h2, h3, h4, h5, h6, h7⟩ := h
 have hil := (List.getElem?_eq_some_iff.1 hx).1
 obtain ⟨c, hc⟩ : ∃ x, cs[i]? = some x := ⟨_, List.getElem?_eq_getElem (by omega)⟩
 obtain ⟨l, hl⟩ : ∃ x, Ls[i]? = some x := ⟨_, List.getElem?_eq_getElem (by omega)⟩
 have hlen := h3 c (List.mem_of_getElem? hc)
 obtain ⟨l', hsub, hel'⟩ := hel c l hlen (h5 i x c l hx hc hl)
 rw [hn] at h4
 have hs := flat_sub hl hsub
 have hk : ∀ a ∈ Ls.flatten, (w.setCell ⟨g, i * sz + j, none⟩ u).heap[a.b]? = w.heap[a.b]? := fun a ha => RowKit.Below.heap_setCell _ _ _ _ (fun e => h7 a ha (by simp [Value.ownBlock, e]))
 refine ⟨Ls.set i l', ⟨cs.set i (c.set j u), by simp [h1], by simp [h2], fun d hd => ?_, ?_, fun k y d m hy hd hm => ?_, (h6.sub hs).keep (fun a ha => hk a (hs.subset ha)), fun a ha => h7 a (hs.subset ha)⟩, fun a ha => hs.subset ha⟩
 ·rcases List.mem_or_eq_of_mem_set hd with hd | rfl
  ·exact h3 d hd
  ·rw [List.length_set, hlen]
 ·rw [flat_set h3 hc hj, List.length_set, hn]
  exact (h4.stored _ u).1
 ·rw [List.getElem?_set] at hy hd hm
  by_cases e : i = k
  ·subst e
   rw [if_pos rfl, if_pos (by omega)] at hy hd hm
   cases hy
   cases hd
   cases hm
   exact hst _ _ _ _ _ hel' (fun a ha => hk a (List.mem_flatten.2 ⟨l, List.mem_of_getElem? hl, hsub.subset ha⟩))
  ·rw [if_neg e] at hy hd hm
   exact hst _ _ _ _ _ (h5 k y d m hy hd hm) (fun a ha => hk a (List.mem_flatten.2 ⟨m, List.mem_of_getElem? hm, ha⟩))
theorem OwnT.cell {α : Type} {el : World → α → List Value → List Lf → Prop} {ty : TypeId} {sz B : Nat} {w : World} {g n cap : Nat} {xs : List α} {Ls : List (List Lf)} (h : OwnT el ty sz B w (.slice (some ⟨g, 0, none⟩) n cap) xs Ls) (hn : xs.length = n) {i : Nat} (hi : i < n) {j : Nat} (hj : j < sz) : (∃ u, w.cell? ⟨g, i * sz + j, none⟩ = some u) ∧ ∀ o, w.frozen? ⟨g, o, none⟩ = false := by
 obtain ⟨cs, h1, h2, h3, h4, h5, h6, h7⟩ := h
 rw [hn] at h4
 have hks : i * sz + sz ≤ n * sz := by rw [← Nat.succ_mul]; exact Nat.mul_le_mul_right _ hi
 obtain ⟨c, hc⟩ : ∃ x, cs[i]? = some x := ⟨_, List.getElem?_eq_getElem (by omega)⟩
 have hlen := h3 c (List.mem_of_getElem? hc)
 refine ⟨⟨c[j]'(by omega), ?_⟩, fun o => h4.frozenAt o⟩
 rw [h4.cellAt (i * sz + j) (by omega), flat_get h3 hc hj, List.getElem?_eq_getElem]
theorem OwnT.ptr {α : Type} {el : World → α → List Value → List Lf → Prop} {ty : TypeId} {sz B : Nat} {w : World} {p : Option Addr} {n cap : Nat} {xs : List α} {Ls : List (List Lf)} (h : OwnT el ty sz B w (.slice p n cap) xs Ls) (hn : xs.length = n) (h0 : 0 < n) : ∃ g, p = some ⟨g, 0, none⟩ ∧ B ≤ g ∧ g < w.heap.size ∧ n ≤ cap := by
 have hl := h.lt
 obtain ⟨cs, h1, h2, h3, h4, h5, h6, h7⟩ := h
 rcases h4.2 with ⟨h', h''⟩ | ⟨g, cap', cur, h', hb, hg, hnc, _⟩
 ·omega
 ·simp only [Value.slice.injEq] at h'
  obtain ⟨rfl, -, rfl⟩ := h'
  exact ⟨g, rfl, hb, (hl.1 g rfl).2, by omega⟩
theorem OwnT.seB {B M : Nat} {w : World} {v : Value} {es : List Ses} {Ls : List (List Lf)} (h : OwnT elSe 59 3 B w v es Ls) (hM : ∀ a ∈ Ls.flatten, a.b < M) (hv : ∀ b, v.ownBlock = some b → b < M) : ∃ A, LvS w v es A ∧ Apt B w A ∧ ∀ a ∈ A, a.b < M := by
 have h' : OwnT (fun w x c l => elSe w x c l ∧ ∀ y ∈ l, y.b < M) 59 3 B w v es Ls := by
  obtain ⟨cs, h1, h2, h3, h4, h5, h6, h7⟩ := h
  exact ⟨cs, h1, h2, h3, h4, fun i x c l hx hc hl => ⟨h5 i x c l hx hc hl, fun y hy => hM y (List.mem_flatten.2 ⟨l, List.mem_of_getElem? hl, hy⟩)⟩, h6, h7⟩
 obtain ⟨A, hA, hAp⟩ := h'.lv (fun x b a l => LvSe w x b a l ∧ ∀ y ∈ l, y.b = b ∨ y.b < M) fun x c l b a hel hc hf hne hin hnd => by
  obtain ⟨⟨p', cc, rfl, h2, h3⟩, hlM⟩ := hel
  refine ⟨⟨b, a, .u64⟩ :: ⟨b, a + 1, .i64⟩ :: l, ⟨⟨p', cc, l, rfl, hc 2 _ rfl, h3⟩, fun y hy => ?_⟩, ?_, ?_, fun y hy => ?_⟩
  ·rcases List.mem_cons.1 hy with rfl | hy
   ·exact .inl rfl
   ·rcases List.mem_cons.1 hy with rfl | hy
    ·exact .inl rfl
    ·exact .inr (hlM y hy)
  ·rw [List.map_cons, List.nodup_cons, List.map_cons, List.nodup_cons]
   refine ⟨fun hm => ?_, fun hm => ?_, hnd⟩
   ·rcases List.mem_cons.1 hm with e | hm
    ·simp at e
    ·obtain ⟨y, hy, e⟩ := List.mem_map.1 hm
     simp only [Prod.mk.injEq] at e
     exact hne y hy e.1
   ·obtain ⟨y, hy, e⟩ := List.mem_map.1 hm
    simp only [Prod.mk.injEq] at e
    exact hne y hy e.1
  ·intro y hy
   rcases List.mem_cons.1 hy with rfl | hy
   ·exact ⟨⟨_, hc 0 _ rfl⟩, hf _⟩
   ·rcases List.mem_cons.1 hy with rfl | hy
    ·exact ⟨⟨_, hc 1 _ rfl⟩, hf _⟩
    ·exact hin y hy
  ·rcases List.mem_cons.1 hy with rfl | hy
   ·exact .inr ⟨rfl, by simp, by simp⟩
   ·rcases List.mem_cons.1 hy with rfl | hy
    ·exact .inr ⟨rfl, by simp, by simp⟩
    ·exact .inl hy
 refine ⟨A, hA.imp fun x b a l _ _ h => h.1, hAp, fun a ha => ?_⟩
 obtain ⟨p, c, LL, rfl, q1, rfl, q2⟩ := hA
 obtain ⟨l, hl, hal⟩ := List.mem_flatten.1 ha
 obtain ⟨i, hi⟩ := List.getElem?_of_mem hl
 have hil := (List.getElem?_eq_some_iff.1 hi).1
 obtain ⟨x, hx⟩ : ∃ x, es[i]? = some x := ⟨_, List.getElem?_eq_getElem (by omega)⟩
 rcases q2 with q2 | ⟨b, o, rfl, q2⟩
 ·subst q2
  simp at hx
 ·rcases (q2 i x l hx hi).2 a hal with e | e
  ·rw [e]
   exact hv b rfl
  ·exact e
end Go.Proofs.YtnbgnhhnpmmloaaGreatDoor
namespace Go.Proofs.YtnbgnhhnpmmloaaGreatDoor
open Go.ChangeShapes Go.WideShapes Go.ChangeAt Go.RowKit Go.Maps
set_option linter.unusedVariables false
set_option linter.unusedSimpArgs false
set_option maxRecDepth 100000
theorem Fine.dur {ss : List Ses} {ns : List Nod} (h : Fine ss ns) : Fine (ss.map sesF) (ns.map nodF) := by
 refine ⟨?_, ?_, fun s hs => ?_, fun nd hnd => ?_, fun i j s s' hi hj hij => ?_, fun i j s s' hi hj hij => ?_⟩
 ·rw [List.pairwise_map]
  exact h.s1
 ·rw [List.map_map]
  exact h.n1
 ·obtain ⟨s0, hs0, rfl⟩ := List.mem_map.1 hs
  exact ⟨(h.s2 s0 hs0).1, by simp [sesF], fun e he => by simp [sesF] at he⟩
 ·obtain ⟨n0, hn0, rfl⟩ := List.mem_map.1 hnd
  obtain ⟨a, b, c, d, -, f, -⟩ := h.n2 n0 hn0
  exact ⟨a, b, c, d, by simp [nodF], f, by simp [nodF]⟩
 ·rw [List.getElem?_map] at hi hj
  obtain ⟨a, ha, rfl⟩ := Option.map_eq_some_iff.1 hi
  obtain ⟨a', ha', rfl⟩ := Option.map_eq_some_iff.1 hj
  exact h.s3 i j a a' ha ha' hij
 ·rw [List.getElem?_map] at hi hj
  obtain ⟨a, ha, rfl⟩ := Option.map_eq_some_iff.1 hi
  obtain ⟨a', ha', rfl⟩ := Option.map_eq_some_iff.1 hj
  exact h.n3 i j a a' ha ha' hij
set_option maxHeartbeats 1600000 in
theorem durPart_any (e g x t : Int) (p q : Option Addr) (c n d m : Nat) (ss : List Ses) (ns : List Nod) (en : Hid (ss.length = n)) (em : Hid (ns.length = m)) (w : World) (h : RdSc w (.slice p n c) ss) (hN : RdN w (.slice q m d) ns) (hn : n ≤ 1048576) (hm : m ≤ 1048576) (HF : Hid (Fine ss ns))
  (hby : Hid (∀ nd ∈ ns, Byt nd.path ∧ nd.path.length ≤ 1048576 ∧ nd.value.length ≤ 1048576 ∧ nd.holders.length ≤ 1048576 ∧ nd.watchers.length ≤ 1048576))
  (hnu : Hid (∀ nd ∈ ns, (∀ i ∈ nd.holders, 0 ≤ i ∧ i < 18446744073709551616) ∧ ∀ i ∈ nd.watchers, 0 ≤ i ∧ i < 18446744073709551616)) :
  Calls Tryz.prog 53 #[stV e g x t (.slice p n c) (.slice q m d)] w fun r w' => ∃ p' c' q' d', r = .returned (stV e g x 0 (.slice p' n c') (.slice q' m d')) ∧ StOwn w.heap.size w' p' n c' q' m d' (ss.map sesF) (ns.map nodF) ∧ Below w.heap.size w w' := by
 have H1 : Hid (∀ s ∈ ss, 0 ≤ s.1 ∧ s.1 < 18446744073709551616) := fun s hs => ((uh HF).s2 s hs).1
 have hby1 : Hid (∀ nd ∈ ns, Byt nd.path) := fun nd hnd => (uh hby nd hnd).1
 have HR := hide fun (w' : World) (hb : Below w.heap.size w w') => And.intro (h.below hb) (hN.below hb)
 clear h hN
 go_enter Tryz.func53, Tryz.ntmps53
 go_wp2_with fail
 obtain ⟨W, hW⟩ : ∃ W, W = (w.alloc (.cells #[.int .u64 e, .int .u64 g, .int .u64 x, .int .i64 t, .slice p n c, .slice q m d] 27)) := ⟨_, rfl⟩
 have bW : Below w.heap.size w W := by rw [hW]; exact (Below.refl _ _).alloc (Nat.le_refl _) _
 obtain ⟨W2, hW2⟩ : ∃ W2, W2 = (W.alloc (.cells #[.int .u64 0, .int .u64 0, .int .u64 0, .int .i64 0, .slice none 0 0, .slice none 0 0] 27)) := ⟨_, rfl⟩
 have zW : W.heap.size = w.heap.size + 1 := by rw [hW]; simp
 have bW2 : Below W.heap.size W W2 := by rw [hW2]; exact (Below.refl _ _).alloc (Nat.le_refl _) _
 have hR3 : CellsAre W2 (w.heap.size + 1) [.int .u64 0, .int .u64 0, .int .u64 0, .int .i64 0, .slice none 0 0, .slice none 0 0] := by
  rw [hW2, show w.heap.size + 1 = W.heap.size by omega]; exact CellsAre.alloc W #[.int .u64 0, .int .u64 0, .int .u64 0, .int .i64 0, .slice none 0 0, .slice none 0 0] _
 have zW2 : W2.heap.size = w.heap.size + 2 := by rw [hW2]; simp; omega
 rw [← hW, ← hW2]
 have b2 := Below.step bW bW2
 have R2 := hide hR3
 clear hW hW2 bW hR3 bW2 zW
 refine (storeOf_any e g x t p q c n d m ss ns en em _ (uh HR _ b2).1 (uh HR _ b2).2 hn hm H1 (uh HF).s3 hby hnu (uh HF).n3).mono ?_
 rintro r w4 ⟨b, bs, bn, SB, NB, HB, UB, rfl, hst, hb4⟩
 have b4 := Below.step b2 hb4
 have hlo := hst.lo
 have z4 := hb4.size
 have HST := hide hst
 have HB4 := hide hb4
 clear hst hb4
 go_wp2_with fail
 refine (forget_any _ HST z4 hby1 (uh HF).s3 (uh HF).n3 m em n en).mono ?_
 rintro r w5 ⟨hst5, hb5, v5, rfl⟩
 have z5 := hb5.size
 have b5 : Below w.heap.size w w5 := b4.trans (hb5.mono (by omega))
 have ST5 : Hid (Sto w5 b bs bn e g x 0 (ss.map sesF) (ns.map nodF) SB NB) := sto_of hst5 ((uh HB4).trans hb5) (by rw [List.length_map, uh en]; exact hn) (by rw [List.length_map, uh em]; exact hm)
 have R4 := hide ((uh R2).below (by omega) ((uh HB4).trans hb5))
 have HF5 := hide ((uh HF).dur)
 have L1 := hide (show (ss.map sesF).length = n by rw [List.length_map, uh en])
 have L2 := hide (show (ns.map nodF).length = m by rw [List.length_map, uh em])
 obtain ⟨sl, esl⟩ : ∃ sl, Hid (sl = ss.map sesF) := ⟨_, (by show _ = _; rfl)⟩
 obtain ⟨nl, enl⟩ : ∃ nl, Hid (nl = ns.map nodF) := ⟨_, (by show _ = _; rfl)⟩
 rw [← uh esl, ← uh enl] at ST5 HF5
 rw [← uh esl] at L1
 rw [← uh enl] at L2
 clear hst5 hb5 HST HB4
 go_wp2_with fail
 refine (state_any b bs bn e g x 0 sl nl SB NB _ (uh ST5) (uh HF5).s1 (uh HF5).n1 (by rw [uh L1]; exact hn) (by rw [uh L2]; exact hm) (uh HF5).s2 (uh HF5).n2).mono ?_
 rintro r w6 ⟨ps, cs, pn, cn, A1, A2, rfl, f1, f2, f3, f4, f5, hb6⟩
 have b6 := Below.step b5 hb6
 have R5 := (uh R4).below (by omega) hb6
 have r0 := R5.1 0 _ rfl
 have r1 := R5.1 1 _ rfl
 have r2 := R5.1 2 _ rfl
 have r3 := R5.1 3 _ rfl
 have r4 := R5.1 4 _ rfl
 have r5 := R5.1 5 _ rfl
 have rf := R5.2
 have FF := hide (show StOwn w5.heap.size w6 ps sl.length cs pn nl.length cn sl nl from ⟨A1, A2, f1, f2, f3, f4, f5⟩)
 clear f1 f2 f3 f4 f5 hb6 R5
 go_wp2
 obtain ⟨Z, hZ⟩ : ∃ Z, Z = ((((((w6.setCell ⟨w.heap.size + 1, 0, none⟩ (.int .u64 e)).setCell ⟨w.heap.size + 1, 1, none⟩ (.int .u64 g)).setCell ⟨w.heap.size + 1, 2, none⟩ (.int .u64 x)).setCell ⟨w.heap.size + 1, 3, none⟩ (.int .i64 0)).setCell ⟨w.heap.size + 1, 4, none⟩ (.slice ps sl.length cs)).setCell ⟨w.heap.size + 1, 5, none⟩ (.slice pn nl.length cn)) := ⟨_, rfl⟩
 have hkZ : ∀ z, z ≠ w.heap.size + 1 → Z.heap[z]? = w6.heap[z]? := fun z hz => by
  rw [hZ]
  iterate 6 rw [RowKit.Below.heap_setCell _ _ _ _ hz]
 refine bodyPost_ret (v := stV e g x 0 (.slice ps sl.length cs) (.slice pn nl.length cn)) (by simp [results, Tryz.results53, go_sem, r0, r1, r2, r3, r4, r5]) rfl ?_
 rw [← hZ]
 have hbZ : Below w.heap.size w Z := by
  rw [hZ]
  exact (((((b6.setCell (by simp) _).setCell (by simp) _).setCell (by simp) _).setCell (by simp) _).setCell (by simp) _).setCell (by simp) _
 have f := ((uh FF).keep (w' := Z) (fun z hz _ => hkZ z (by omega))).mono (B' := w.heap.size) (by omega)
 rw [uh L1, uh L2, uh esl, uh enl] at f
 exact ⟨ps, cs, pn, cn, by rw [uh L1, uh L2], f, hbZ⟩
end Go.Proofs.YtnbgnhhnpmmloaaGreatDoor
namespace Go.Proofs.YtnbgnhhnpmmloaaGreatDoor
open Go.ChangeShapes Go.WideShapes Go.ChangeAt Go.RowKit
set_option linter.unusedVariables false
set_option linter.unusedSimpArgs false
set_option maxRecDepth 100000
set_option maxHeartbeats 800000 in
theorem concatC_any (g C : Nat) (vs : List Value) (ls : List (List Int)) (w : World) (h : Parts w g vs ls) (hl : (cat ls).length ≤ 4194304) (hk : ls.length ≤ 1000) :
  Calls Tryz.prog 100 #[.slice (some ⟨g, 0, none⟩) ls.length C] w fun e w' => ∃ p' c', e = .returned (.slice p' (cat ls).length c') ∧ Own w.heap.size w' (.slice p' (cat ls).length c') (cat ls) ∧ Below w.heap.size w w' := by
 obtain ⟨i, hi, hz0, hz1, hz2⟩ := info_parts Tryz.infoByte
 go_enter Tryz.func100, Tryz.ntmps100
 go_wp2
 go_loopw [3, 11] (fun s i wr => ∃ k : Nat, k ≤ ls.length ∧ i = .int .i64 k ∧ s = .int .i64 ((cat (ls.take k)).length : Nat) ∧ Below w.heap.size w wr) (fun _ i _ => ls.length - (intOf i).toNat)
 case atStart => exact ⟨0, Nat.zero_le _, rfl, by simp [cat], Below.refl _ _⟩
 case round =>
  obtain ⟨k, hk1, rfl, rfl, hbr⟩ := hrel
  have hfl := flat_le ls k
  by_cases hlt : k < ls.length
  ·obtain ⟨p, c, l, e1, e2, e3⟩ := (h.below hbr).get k hlt
   have hst := flat_step ls k l e1
   have hln : (cat (ls.take k)).length + l.length = (cat (ls.take (k + 1))).length := by rw [hst]; simp
   have hfl2 := flat_le ls (k + 1)
   have hle : (cat (ls.take k)).length + l.length ≤ 4194304 := by omega
   have HL := hide hln
   clear hln hst hfl2 e3 e1
   generalize (cat (ls.take k)).length = a at *
   go_wp2
   go_roundw
   case rel => exact ⟨k + 1, by omega, by go_num, by rw [← uh HL]; go_num, hbr⟩
   case measure => simp [intOf]; omega
  ·have e : k = ls.length := by omega
   subst e
   rw [List.take_length]
   rw [List.take_length] at hfl
   go_wp2_with fail
   refine (growNil_any _ _ hl).mono ?_
   rintro e w1 ⟨p1, c1, rfl, o1, hb1⟩
   replace o1 : Own w.heap.size w1 (.slice p1 0 c1) [] := o1.mono hbr.size
   have b1 := Below.step hbr hb1
   clear hb1 hbr hfl
   go_wp2
   go_loopw [6, 27] (fun v i wr => ∃ k : Nat, k ≤ ls.length ∧ i = .int .i64 k ∧ (∃ p c, v = .slice p (cat (ls.take k)).length c ∧ Own w.heap.size wr v (cat (ls.take k))) ∧ Below w.heap.size w wr) (fun _ i _ => ls.length - (intOf i).toNat)
   case atStart => exact ⟨0, Nat.zero_le _, rfl, ⟨p1, c1, by simp [cat], by simpa [cat] using o1⟩, b1⟩
   case round =>
    obtain ⟨k, hk1, rfl, ⟨pv, cv, rfl, ho⟩, hbr⟩ := hrel
    have hfl := flat_le ls k
    by_cases hlt : k < ls.length
    ·obtain ⟨p, c, l, e1, e2, e3⟩ := (h.below hbr).get k hlt
     have hst := flat_step ls k l e1
     have hfl2 := flat_le ls (k + 1)
     have hle : (cat (ls.take k)).length + l.length ≤ 4194304 := by have := congrArg List.length hst; simp only [List.length_append] at this; omega
     have HS := hide hst
     clear hst hfl2 e1 o1 b1
     generalize (cat (ls.take k)) = a at *
     cases p with
     | none =>
      have e := e3.none_nil
      subst e
      have HA := hide (run_append_none_any (P := Tryz.prog) wr w.heap.size 22 22 5 i 1 Tryz.underlying22 hi _ _ _ c ho)
      go_wp2_with (at_builtin; refine Lib.wpList_append_run _ rfl _ _ _ _ rfl _ _ rfl rfl _ _ (by exact uh HA) ?_)
      go_roundw
      case rel => exact ⟨k + 1, by omega, by go_num, ⟨pv, cv, by rw [uh HS]; simp, by rw [uh HS]; simpa using ho⟩, hbr⟩
      case measure => simp [intOf]; omega
     | some ad =>
      obtain ⟨n1, n2, n3⟩ := e3.news
      clear e3
      go_wp2_with (at_builtin; refine wpList_append_own _ rfl _ _ 22 rfl w.heap.size 5 i (.int .u8 0) 1 1 Tryz.underlying22 hi hz0 hz1 hz2 rfl (by decide) _ _ _ rfl ho ad _ c (U l) rfl n1 n2 n3 (by unfold maxLen; omega) (by omega) hbr.size ?_)
      intro v' w2 hown hg _
      have b2 : Below w.heap.size w w2 := hbr.grown hg hbr.size (fun k hk => (ho.lt k hk).1)
      have ho2 : Own w.heap.size w2 v' (a ++ l) := by unfold Own; rw [List.length_append, U, List.map_append]; exact hown
      obtain ⟨p', c', rfl⟩ := ho2.form
      clear hown hg n2
      go_wp2
      go_roundw
      case rel => exact ⟨k + 1, by omega, by go_num, ⟨p', c', by rw [uh HS], by rw [uh HS]; exact ho2⟩, b2⟩
      case measure => simp [intOf]; omega
    ·have e : k = ls.length := by omega
     subst e
     rw [List.take_length] at ho
     clear o1 b1 hfl
     go_wp2
     go_ret
     exact ⟨pv, cv, by rw [List.take_length]; rfl, ho, hbr⟩
theorem joinedC_any (g C : Nat) (vs : List Value) (ls : List (List Int)) (lm : List Int) (n k : Nat) (ek : Hid (k = ls.length)) (e : Hid (lm = cat ls)) (en : Hid (lm.length = n)) (w : World) (h : Parts w g vs ls) (hl : n ≤ 4194304) (hk : k ≤ 1000) :
  Calls Tryz.prog 54 #[.slice (some ⟨g, 0, none⟩) k C] w fun e w' => ∃ p' c', e = .returned (.slice p' n c') ∧ Own w.heap.size w' (.slice p' n c') lm ∧ Below w.heap.size w w' := by
 have e1 := uh ek
 have e2 := uh e
 have e3 := uh en
 subst e1 e3 e2
 go_enter Tryz.func54, Tryz.ntmps54
 go_wp2_with fail
 refine (concatC_any g C vs ls _ h hl (by omega)).mono ?_
 rintro e w1 ⟨p1, c1, rfl, o1, hb1⟩
 go_wp2
 go_ret
 exact ⟨p1, c1, rfl, o1, hb1⟩
def elBy (w : World) (x : List Int) (c : List Value) (l : List Lf) : Prop := ∃ p cc, c = [.slice p x.length cc] ∧ Rd w (.slice p x.length cc) x ∧ LvB (.slice p x.length cc) x l
theorem elBy.keep (w w' : World) (x : List Int) (c : List Value) (l : List Lf) (h : elBy w x c l) (hk : ∀ a ∈ l, w'.heap[a.b]? = w.heap[a.b]?) : elBy w' x c l := by
 obtain ⟨p, cc, h1, h2, h3⟩ := h
 exact ⟨p, cc, h1, h2.keepLv h3 hk, h3⟩
abbrev PartsO (B : Nat) (w : World) (v : Value) (xs : List (List Int)) (Ls : List (List Lf)) : Prop := OwnT elBy 22 1 B w v xs Ls
theorem PartsO.one {B : Nat} {w : World} {p : Option Addr} {c : Nat} {l : List Int} (h : Own B w (.slice p l.length c) l) (hB : B ≤ w.heap.size) : ∃ Ls, PartsO B (w.alloc (.cells #[.slice p l.length c] 22)) (.slice (some ⟨w.heap.size, 0, none⟩) 1 1) [l] Ls := by
 have hb : Below w.heap.size w (w.alloc (.cells #[.slice p l.length c] 22)) := (Below.refl _ _).alloc (Nat.le_refl _) _
 have h' := Own.below h hb
 obtain ⟨A, q1, q2, -, q4⟩ := row_lv (kd := .u8) h'
 refine ⟨[A], [[.slice p l.length c]], rfl, rfl, fun c hc => by simp at hc; subst hc; rfl, ?_, fun i x cc ll hx hc hl => ?_, by simpa using q2, fun a ha => ?_⟩
 ·have := World.ownsRow_lit (base := B) (e := 22) (size := 1) w #[.slice p l.length c] 1 hB (by decide) rfl
  simpa using this
 ·have : i = 0 := by have := (List.getElem?_eq_some_iff.1 hx).1; simpa using this
  subst this
  simp at hx hc hl
  subst hx hc hl
  exact ⟨p, c, rfl, h'.rd, q1⟩
 ·have ha' : a ∈ A := by simpa using ha
  have e := q4 a ha'
  have := (h.lt a.b e).2
  intro e2
  simp only [Value.ownBlock, Option.some.injEq] at e2
  omega
theorem PartsO.parts {B : Nat} {w : World} {p : Option Addr} {n c : Nat} {xs : List (List Int)} {Ls : List (List Lf)} (h : PartsO B w (.slice p n c) xs Ls) (hn : xs.length = n) (h0 : 0 < n) : ∃ g vs, p = some ⟨g, 0, none⟩ ∧ Parts w g vs xs := by
 obtain ⟨g, rfl, -⟩ := h.ptr hn h0
 obtain ⟨cs, h1, h2, h3, h4, h5, h6, h7⟩ := h
 rw [hn] at h4
 refine ⟨g, cs.flatten, rfl, ?_, fun j v x hv hx => ?_⟩
 ·have := h4.1
  omega
 ·have hj := (List.getElem?_eq_some_iff.1 hx).1
  obtain ⟨cc, hc⟩ : ∃ x, cs[j]? = some x := ⟨_, List.getElem?_eq_getElem (by omega)⟩
  obtain ⟨l, hl⟩ : ∃ x, Ls[j]? = some x := ⟨_, List.getElem?_eq_getElem (by omega)⟩
  obtain ⟨p', c', rfl, r1, -⟩ := h5 j x cc l hx hc hl
  have e := flat_get h3 hc (j := 0) (by decide)
  rw [Nat.mul_one, Nat.add_zero, hv] at e
  simp at e
  subst e
  have e2 := h4.cellAt j (by omega)
  rw [hv] at e2
  exact ⟨e2, r1⟩
def liB {α : Type} (f : α → List Int) (l : List α) : List Int := cat (vi l.length :: l.map f)
def viI (i : Int) : List Int := vi i.toNat
set_option maxHeartbeats 3200000 in
theorem listU_any (p : Option Addr) (c n : Nat) (l : List Int) (en : Hid (l.length = n)) (w : World) (h : RdU w (.slice p n c) l) (hn : n ≤ 900) (hu : Hid (∀ i ∈ l, 0 ≤ i ∧ i < 18446744073709551616)) (N : Nat) (eN : Hid ((liB viI l).length = N)) (hN : N ≤ 4194304) :
  Calls Tryz.prog 101 #[.slice p n c, .func (.func 55) #[] #[]] w fun e w' => ∃ p' c', e = .returned (.slice p' N c') ∧ Own w.heap.size w' (.slice p' N c') (liB viI l) ∧ Below w.heap.size w w' := by
 obtain ⟨ib, hib, hz0, hz1, hz2⟩ := info_parts Tryz.infoSl
 have HR := hide fun (w' : World) (hb : Below w.heap.size w w') => h.below hb
 clear h
 have wn : IntKind.u64.wrap (n : Int) = (n : Int) := by rw [IntKind.wrap_u64]; omega
 go_enter Tryz.func101, Tryz.ntmps101
 go_wp2_with fail
 refine (varint_any n w (by omega)).mono ?_
 rintro r w1 ⟨p1, c1, rfl, o1, b1⟩
 obtain ⟨Ls0, hP⟩ := PartsO.one o1 b1.size
 obtain ⟨v0, hv0⟩ : ∃ V, V = w1.alloc (.cells #[.slice p1 (vi n).length c1] 22) := ⟨_, rfl⟩
 have hb0 : Below w.heap.size w v0 := by rw [hv0]; exact b1.alloc b1.size _
 rw [← hv0] at hP
 have HP := hide hP
 clear hP o1
 generalize (vi n).length = M at *
 go_wp2
 rw [← hv0]
 clear hv0 b1
 go_loopw [5, 15] (fun pv iv wr => ∃ (k : Nat) (p2 : Option Addr) (c2 : Nat) (Ls : List (List Lf)), k ≤ n ∧ pv = .slice p2 (k + 1) c2 ∧ iv = .int .i64 k ∧ Hid (PartsO w.heap.size wr (.slice p2 (k + 1) c2) (vi n :: (l.take k).map viI) Ls) ∧ Below w.heap.size w wr) (fun _ iv _ => n - (intOf iv).toNat)
 case atStart => exact ⟨0, _, _, _, Nat.zero_le _, rfl, rfl, uh HP, hb0⟩
 case round =>
  obtain ⟨k, p2, c2, Ls, hk, rfl, rfl, ho, hbr⟩ := hrel
  by_cases hlt : k < n
  ·have hlt' : (k : Int) < (n : Int) := by omega
   have hkl : k < l.length := by rw [uh en]; exact hlt
   obtain ⟨i, hy⟩ : ∃ y, l[k]? = some y := ⟨_, List.getElem?_eq_getElem hkl⟩
   have hi := uh hu i (List.mem_of_getElem? hy)
   obtain ⟨v, rfl⟩ : ∃ v : Nat, i = (v : Int) := ⟨i.toNat, by omega⟩
   obtain ⟨b, o, rfl, hc⟩ : ∃ b o, p = some ⟨b, o, none⟩ ∧ wr.cell? ⟨b, o + k, none⟩ = some (.int .u64 v) := by
    obtain ⟨p', c', ev, hd⟩ := uh HR _ hbr
    simp only [Value.slice.injEq] at ev
    obtain ⟨rfl, -, -⟩ := ev
    rcases hd with h0 | ⟨b, o, h1, h2⟩
    ·rw [h0] at hkl; simp at hkl
    ·refine ⟨b, o, h1, ?_⟩
     have := h2 k hkl
     rw [List.getD_eq_getElem?_getD, hy, Option.getD_some] at this
     exact this
   have HY := hide hy
   clear hkl hy
   have wk : IntKind.i64.wrap ((k : Int) + 1) = ((k + 1 : Nat) : Int) := by rw [IntWalk.i64_in _ (by omega)]; omega
   go_wp2_with fail
   refine (varint_any v wr (by omega)).mono ?_
   rintro r w3 ⟨p3, c3, rfl, o3, hb3⟩
   have b3 := Below.step hbr hb3
   have hA : Below w3.heap.size w3 (w3.alloc (.cells #[.slice p3 (vi v).length c3] 22)) := (Below.refl _ _).alloc (Nat.le_refl _) _
   have OZ := (uh ho).below elBy.keep (Below.step hb3 hA)
   have hlV := (uh ho).lt
   obtain ⟨lb, q1, q2, -, q4⟩ := row_lv (kd := .u8) (Own.below o3 hA)
   have elz : elBy (w3.alloc (.cells #[.slice p3 (vi v).length c3] 22)) (vi v) [.slice p3 (vi v).length c3] lb := ⟨p3, c3, rfl, (Own.below o3 hA).rd, q1⟩
   obtain ⟨cs, g1, g2, g3, g4, g5, g6, g7⟩ := id OZ
   have lenX : (vi n :: (l.take k).map viI).length = k + 1 := by rw [List.length_cons, List.length_map, List.length_take, uh en]; omega
   rw [lenX] at g4
   have z3 := hb3.size
   have zr := hbr.size
   have EL := hide elz
   have Q2 := hide q2
   have GG := hide (And.intro g1 (And.intro g2 (And.intro g3 (And.intro g5 (And.intro g6 g7)))))
   have HLV := hide hlV
   have LX := hide lenX
   clear hc o3 OZ q1 q2 q4 elz g1 g2 g3 g5 g6 g7 hlV lenX ho
   obtain ⟨M3, eM3⟩ : ∃ M, (vi v).length = M := ⟨_, rfl⟩
   rw [eM3] at g4 EL Q2 GG hA ⊢
   have EM3 := hide eM3
   clear eM3
   have hcZ : ∀ j u, [Value.slice p3 M3 c3][j]? = some u → (w3.alloc (.cells #[.slice p3 M3 c3] 22)).cell? ⟨w3.heap.size, j, none⟩ = some u := fun j u hu => by
    have := (CellsAre.alloc w3 #[.slice p3 M3 c3] 22).1 j u (by simpa using hu)
    exact this
   go_wp2_with (at_builtin; refine wpList_append_fr rfl _ _ 126 rfl w.heap.size 22 ib _ 1 24 Tryz.underlying126 hib hz0 hz1 hz2 rfl (by decide) (.slice p2 (k + 1) c2) (k + 1) _ rfl g4 w3.heap.size 1 1 [.slice p3 M3 c3] rfl rfl hcZ (fun u hu => by simp at hu; subst hu; rfl) (by unfold maxLen; omega) (by omega) (by simp; omega) ?_)
   intro v' w9 hrow hg hfr
   obtain ⟨p9, c9, rfl⟩ : ∃ p9 c9, v' = .slice p9 (k + 1 + 1) c9 := by
    rcases hrow.2 with ⟨rfl, h0⟩ | ⟨g, cap, cur, rfl, -⟩
    ·omega
    ·exact ⟨_, _, rfl⟩
   obtain ⟨g1, g2, g3, g5, g6, g7⟩ := uh GG
   have hlV := uh HLV
   have hrow' : w9.ownsRow w.heap.size 22 1 (.slice p9 (k + 1 + 1) c9) ((vi n :: (l.take k).map viI).length + 1) (cs.flatten ++ [.slice p3 M3 c3]) := by rw [uh LX]; exact hrow
   have sn := OwnT.snoc g1 g2 g3 g5 g6 g7 elBy.keep (uh EL) rfl (uh Q2) (by omega) (fun a ha => (hlV.2 a ha).2) (fun b hb => (hlV.1 b hb).2) hrow' hg (fun g hg' => by
    have := hfr g hg'
    simpa using this)
   have eL : (vi n :: (l.take k).map viI) ++ [vi v] = vi n :: (l.take (k + 1)).map viI := by
    rw [List.take_add_one, uh HY, List.map_append]
    simp [viI]
   rw [eL] at sn
   have hb9 : Below w.heap.size w w9 := (b3.alloc b3.size _).grown hg (by simp; omega) (fun b hb => (hlV.1 b hb).1)
   have SN := hide sn
   clear sn eL hrow hrow' hg hfr g1 g2 g3 g4 g5 g6 g7 hlV hcZ GG EL Q2
   go_wp2
   go_roundw
   case rel => exact ⟨k + 1, _, _, _, by omega, rfl, by go_num, uh SN, hb9⟩
   case measure => simp [intOf]; omega
  ·have hlt' : ¬ (k : Int) < (n : Int) := by omega
   have ekn : n = k := by omega
   subst ekn
   have hO := uh ho
   rw [List.take_of_length_le (by rw [uh en]; exact Nat.le_refl _)] at hO
   have lenX : (vi n :: l.map viI).length = n + 1 := by rw [List.length_cons, List.length_map, uh en]
   obtain ⟨G, vs, rfl, hPa⟩ := hO.parts lenX (by omega)
   have HPA := hide hPa
   have EE : Hid (liB viI l = cat (vi n :: l.map viI)) := by show _ = _; rw [liB, uh en]
   have LX := hide lenX.symm
   clear hO hPa lenX ho hk hlt
   go_wp2_with fail
   refine (joinedC_any G c2 vs (vi n :: l.map viI) (liB viI l) N (n + 1) LX EE eN _ (uh HPA) hN (by omega)).mono ?_
   rintro r w5 ⟨p5, c5, rfl, o5, hb5⟩
   have b5 := Below.step hbr hb5
   have O5 := hide (Own.mono (B' := w.heap.size) o5 hbr.size)
   clear o5 hb5
   go_wp2
   go_ret
   exact ⟨p5, c5, rfl, uh O5, b5⟩
end Go.Proofs.YtnbgnhhnpmmloaaGreatDoor
