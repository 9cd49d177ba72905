import Derived.Test.YtnbgnhhnpmmloaaGreatDoorST2
import Derived.Test.YtnbgnhhnpmmloaaGreatDoorK35
import Derived.Test.YtnbgnhhnpmmloaaGreatDoorK13
namespace Go.Proofs.YtnbgnhhnpmmloaaGreatDoor
open Go.ChangeShapes Go.WideShapes Go.ChangeAt Go.RowKit Go.Maps
set_option linter.unusedVariables false
set_option linter.unusedSimpArgs false
set_option maxRecDepth 100000
structure SesM (w : World) (bs : Nat) (ss : List Ses) (SB : List Nat) : Prop where
 len : SB.length = ss.length
 own : ∃ D n, w.ownsMap Tryz.prog 23 ptrElem bs n D ∧ n ≤ 1048576 ∧ MapTo D (List.zipWith (fun (s : Ses) g => (Lit.int .u64 s.1, g)) ss SB)
 blk : ∀ (i : Nat) (s : Ses) (g : Nat), ss[i]? = some s → SB[i]? = some g → ∃ u, w.heap[g]? = some (.cells #[.int .u64 s.1, .int .i64 s.2.1, u] 59) ∧ RdEc w u s.2.2
structure NodM (w : World) (bn : Nat) (ns : List Nod) (NB : List Nat) : Prop where
 len : NB.length = ns.length
 own : ∃ D n, w.ownsMap Tryz.prog 9 ptrElem bn n D ∧ n ≤ 1048576 ∧ MapTo D (List.zipWith (fun (nd : Nod) g => (litS nd.path, g)) ns NB)
 blk : ∀ (i : Nat) (nd : Nod) (g : Nat), ns[i]? = some nd → NB[i]? = some g → ∃ V h u, KN w g h u V nd
theorem KN.below {w w' : World} {g h u : Nat} {V : Value} {nd : Nod} (k : KN w g h u V nd) (hb : Below w.heap.size w w') : KN w' g h u V nd := by
 obtain ⟨h1, h2, ⟨D1, o1, s1⟩, ⟨D2, o2, s2⟩⟩ := k
 exact ⟨(hb.block g (heap_lt h1)).trans h1, h2.below hb, ⟨D1, o1.kept (grown_of_below hb none) (by simp), s1⟩, ⟨D2, o2.kept (grown_of_below hb none) (by simp), s2⟩⟩
theorem SesM.below {w w' : World} {bs : Nat} {ss : List Ses} {SB : List Nat} (h : SesM w bs ss SB) (hb : Below w.heap.size w w') : SesM w' bs ss SB := by
 obtain ⟨h1, ⟨D, n, o, hn, m⟩, h3⟩ := h
 refine ⟨h1, ⟨D, n, o.kept (grown_of_below hb none) (by simp), hn, m⟩, fun i s g hs hg => ?_⟩
 obtain ⟨u, q1, q2⟩ := h3 i s g hs hg
 exact ⟨u, (hb.block g (heap_lt q1)).trans q1, q2.below hb⟩
theorem NodM.below {w w' : World} {bn : Nat} {ns : List Nod} {NB : List Nat} (h : NodM w bn ns NB) (hb : Below w.heap.size w w') : NodM w' bn ns NB := by
 obtain ⟨h1, ⟨D, n, o, hn, m⟩, h3⟩ := h
 refine ⟨h1, ⟨D, n, o.kept (grown_of_below hb none) (by simp), hn, m⟩, fun i s g hs hg => ?_⟩
 obtain ⟨V, h, u, q⟩ := h3 i s g hs hg
 exact ⟨V, h, u, q.below hb⟩
structure Sto (w : World) (b bs bn : Nat) (e g x t : Int) (ss : List Ses) (ns : List Nod) (SB NB : List Nat) : Prop where
 hd : w.heap[b]? = some (.cells #[.int .u64 e, .int .u64 g, .int .u64 x, .int .i64 t, .map (some bs), .map (some bn)] 161)
 ses : SesM w bs ss SB
 nod : NodM w bn ns NB
theorem Sto.below {w w' : World} {b bs bn : Nat} {e g x t : Int} {ss : List Ses} {ns : List Nod} {SB NB : List Nat} (h : Sto w b bs bn e g x t ss ns SB NB) (hb : Below w.heap.size w w') : Sto w' b bs bn e g x t ss ns SB NB :=
 ⟨(hb.block b (heap_lt h.hd)).trans h.hd, h.ses.below hb, h.nod.below hb⟩
theorem key_at_ses {w : World} {bs : Nat} {ss : List Ses} {SB : List Nat} (h : SesM w bs ss SB) {i : Nat} {s : Ses} (hs : ss[i]? = some s) : ∃ g, SB[i]? = some g ∧ (Lit.int .u64 s.1, g) ∈ List.zipWith (fun (s : Ses) g => (Lit.int .u64 s.1, g)) ss SB := by
 have hi := (List.getElem?_eq_some_iff.1 hs).1
 obtain ⟨g, hg⟩ : ∃ g, SB[i]? = some g := ⟨_, List.getElem?_eq_getElem (by rw [h.len]; exact hi)⟩
 refine ⟨g, hg, List.mem_of_getElem? (i := i) ?_⟩
 rw [List.getElem?_zipWith, hs, hg]
theorem key_at_nod {w : World} {bn : Nat} {ns : List Nod} {NB : List Nat} (h : NodM w bn ns NB) {i : Nat} {nd : Nod} (hs : ns[i]? = some nd) : ∃ g, NB[i]? = some g ∧ (litS nd.path, g) ∈ List.zipWith (fun (nd : Nod) g => (litS nd.path, g)) ns NB := by
 have hi := (List.getElem?_eq_some_iff.1 hs).1
 obtain ⟨g, hg⟩ : ∃ g, NB[i]? = some g := ⟨_, List.getElem?_eq_getElem (by rw [h.len]; exact hi)⟩
 refine ⟨g, hg, List.mem_of_getElem? (i := i) ?_⟩
 rw [List.getElem?_zipWith, hs, hg]
theorem mem_zip {α β γ : Type} {f : α → β → γ} {l : List α} {m : List β} {z : γ} (h : z ∈ List.zipWith f l m) : ∃ a ∈ l, ∃ b, z = f a b := by
 induction l generalizing m with
 | nil => simp at h
 | cons a l ih =>
  cases m with
  | nil => simp at h
  | cons b m =>
   simp only [List.zipWith_cons_cons, List.mem_cons] at h
   rcases h with rfl | h
   ·exact ⟨a, by simp, b, rfl⟩
   ·obtain ⟨a', ha, b', e⟩ := ih h
    exact ⟨a', by simp [ha], b', e⟩
theorem ses_sorted {w : World} {bs : Nat} {ss : List Ses} {SB : List Nat} (h : SesM w bs ss SB) (hs : ss.Pairwise (fun s s' => s.1 < s'.1)) {D : DataW Unit} (m : MapTo D (List.zipWith (fun (s : Ses) g => (Lit.int .u64 s.1, g)) ss SB)) {ids : List Int} (ha : Q.Asc D ids) : ids = ss.map (·.1) := by
 refine asc_unique ha.lt (List.pairwise_map.2 hs) fun x => ?_
 rw [ha.mem x, m.hs]
 constructor
 ·rintro ⟨p, hp, e⟩
  obtain ⟨s, hs', g, rfl⟩ := mem_zip hp
  simp only [Lit.int.injEq, true_and] at e
  exact List.mem_map.2 ⟨s, hs', e⟩
 ·intro hx
  obtain ⟨s, hs', rfl⟩ := List.mem_map.1 hx
  obtain ⟨i, hi, e⟩ := List.getElem_of_mem hs'
  obtain ⟨g, hg, hm⟩ := key_at_ses h (i := i) (s := s) (by rw [List.getElem?_eq_getElem hi, e])
  exact ⟨_, hm, rfl⟩
def byS (l : List Int) : List UInt8 := l.map fun n => UInt8.ofNat n.toNat
theorem pw_unique {α : Type} [LT α] (irr : ∀ a : α, ¬ a < a) (tr : ∀ a b c : α, a < b → b < c → a < c) : ∀ {l m : List α}, l.Pairwise (· < ·) → m.Pairwise (· < ·) → (∀ x, x ∈ l ↔ x ∈ m) → l = m
 | [], [], _, _, _ => rfl
 | [], b :: m, _, _, h => absurd ((h b).2 (by simp)) (by simp)
 | a :: l, [], _, _, h => absurd ((h a).1 (by simp)) (by simp)
 | a :: l, b :: m, h1, h2, h => by
  rw [List.pairwise_cons] at h1 h2
  have hab : a = b := by
   rcases List.mem_cons.1 ((h a).1 (by simp)) with e | e
   ·exact e
   ·rcases List.mem_cons.1 ((h b).2 (by simp)) with e' | e'
    ·exact e'.symm
    ·exact absurd (tr _ _ _ (h2.1 a e) (h1.1 b e')) (irr _)
  subst hab
  rw [pw_unique irr tr h1.2 h2.2 (fun x => ?_)]
  constructor
  ·intro hx
   rcases List.mem_cons.1 ((h x).1 (by simp [hx])) with e | e
   ·subst e; exact absurd (h1.1 _ hx) (irr _)
   ·exact e
  ·intro hx
   rcases List.mem_cons.1 ((h x).2 (by simp [hx])) with e | e
   ·subst e; exact absurd (h2.1 _ hx) (irr _)
   ·exact e
theorem nod_sorted {w : World} {bn : Nat} {ns : List Nod} {NB : List Nat} (h : NodM w bn ns NB) (hs : (ns.map fun nd => byS nd.path).Pairwise (· < ·)) {D : DataW Unit} (m : MapTo D (List.zipWith (fun (nd : Nod) g => (litS nd.path, g)) ns NB)) {ks : List (List UInt8)} (ha : T.Asc D ks) : ks = ns.map fun nd => byS nd.path := by
 refine pw_unique (fun a => List.lt_irrefl a) (fun a b c => List.lt_trans) ha.lt hs fun x => ?_
 rw [ha.mem x, m.hs]
 constructor
 ·rintro ⟨p, hp, e⟩
  obtain ⟨s, hs', g, rfl⟩ := mem_zip hp
  simp only [litS, Lit.string.injEq] at e
  exact List.mem_map.2 ⟨s, hs', e⟩
 ·intro hx
  obtain ⟨s, hs', rfl⟩ := List.mem_map.1 hx
  obtain ⟨i, hi, e⟩ := List.getElem_of_mem hs'
  obtain ⟨g, hg, hm⟩ := key_at_nod h (i := i) (nd := s) (by rw [List.getElem?_eq_getElem hi, e])
  exact ⟨_, hm, rfl⟩
theorem zeroSesP (w : World) : (zeroValue 162).run Tryz.prog w = .ok (.pointer none) w := by kernel_rfl
theorem look_ses {w : World} {bs n : Nat} {D : DataW Unit} {l : List (Lit × Nat)} (o : w.ownsMap Tryz.prog 23 ptrElem bs n D) (m : MapTo D l) {I : Int} {g : Nat} (hp : (Lit.int .u64 I, g) ∈ l) (hI : 0 ≤ I ∧ I < 18446744073709551616) :
  (Instr.lookup 158 (.map (some bs)) (.int .u64 I) false).run Tryz.prog w = .ok (.pointer (some ⟨g, 0, none⟩)) w := by
 obtain ⟨v, ps, hr, hv⟩ := o.lookup keyU Tryz.underlying158 (zeroSesP w) (zd := .nil) (zp := []) rfl (key := .int .u64 I) (keyOf_int_mk Tryz.underlying23 (u64_wf hI))
 rw [m.at' _ hp] at hv
 obtain rfl := ptrElem_inv hv
 exact hr
theorem look_nod {w : World} {bn n : Nat} {D : DataW Unit} {l : List (Lit × Nat)} (o : w.ownsMap Tryz.prog 9 ptrElem bn n D) (m : MapTo D l) {P : List Int} {g : Nat} (hp : (litS P, g) ∈ l) (hP : P.length ≤ 1048576) :
  (Instr.lookup 159 (.map (some bn)) (.string (bstr P)) false).run Tryz.prog w = .ok (.pointer (some ⟨g, 0, none⟩)) w := by
 obtain ⟨v, ps, hr, hv⟩ := o.lookup keyT Tryz.underlying159 (zeroNodeP w) (zd := .nil) (zp := []) rfl (key := .string (bstr P)) (kl := litS P) (by
  rw [WideMaps.keyOf_string_mk Tryz.underlying9 (by rw [bstr_size]; unfold maxLen; omega), bstr_litS])
 rw [m.at' _ hp] at hv
 obtain rfl := ptrElem_inv hv
 exact hr
theorem grown_step {w w1 w2 : World} {sb : Nat} {row : Option Nat} (h : w.grownBy w1 (some sb)) (k : w1.grownBy w2 row) (hr : ∀ b, row = some b → w.heap.size ≤ b ∨ b = sb) : w.grownBy w2 (some sb) :=
 ⟨k.os.trans h.os, k.tape.trans h.tape, k.output.trans h.output, Nat.le_trans h.size k.size, fun i hi hne => (k.block i (Nat.lt_of_lt_of_le hi h.size) (fun e => by
  rcases hr i e.symm with h' | h'
  ·omega
  ·exact hne (by rw [h']))).trans (h.block i hi hne)⟩
theorem grown_set (w : World) (a : Addr) (v : Value) : w.grownBy (w.setCell a v) (some a.block) :=
 ⟨rfl, rfl, rfl, by simp, fun k _ hk => RowKit.Below.heap_setCell _ _ _ _ (fun e => hk (by rw [e]))⟩
theorem below_grow {w w1 w2 : World} {sb : Nat} (h : Below w.heap.size w w1) (k : w1.grownBy w2 (some sb)) (hs : w.heap.size ≤ sb) : Below w.heap.size w w2 := h.grown k h.size (fun b e => by cases e; exact hs)
theorem ownsMap_same {w w' : World} {k : TypeId} {R : Value → Option (DataW Unit × List MemPlace)} {b n : Nat} {D : DataW Unit} (h : w.ownsMap Tryz.prog k R b n D) (hh : w'.heap[b]? = w.heap[b]?) : w'.ownsMap Tryz.prog k R b n D := by
 obtain ⟨es, clock, h1, h2⟩ := h
 exact ⟨es, clock, hh.trans h1, h2⟩
theorem CellsAre.grown {w w' : World} {b : Nat} {vs : List Value} {row : Option Nat} (h : CellsAre w b vs) (hb : b < w.heap.size) (hg : w.grownBy w' row) (hne : some b ≠ row) : CellsAre w' b vs := by
 have hh := hg.block b hb hne
 refine ⟨fun i v hi => (cell_at_heap hh _).trans (h.1 i v hi), fun o => ?_⟩
 have : w'.frozen? ⟨b, o, none⟩ = w.frozen? ⟨b, o, none⟩ := World.frozen?_of_block hh
 rw [this]
 exact h.2 o
theorem bstr_byS (l : List Int) : (⟨(byS l).toArray⟩ : ByteArray) = bstr l := by
 have h : (bstr l).data = (byS l).toArray := by
  rw [← Array.toList_inj]
  simpa [byS] using bstr_data' l
 cases hb : bstr l with
 | mk d => rw [hb] at h; simp only at h; rw [h]
theorem rdK_str {B : Nat} {w : World} {v : Value} {ns : List Nod} (h : T.RdK B w v (ns.map fun nd => byS nd.path)) : ∃ p c, v = .slice p ns.length c ∧ (ns = [] ∨ ∃ g, p = some ⟨g, 0, none⟩ ∧ B ≤ g ∧ g < w.heap.size ∧ ∀ (j : Nat) (nd : Nod), ns[j]? = some nd → w.cell? ⟨g, 0 + j, none⟩ = some (.string (bstr nd.path))) := by
 rcases h with ⟨rfl, h0⟩ | ⟨g, cap, rfl, hb, hl, hH⟩
 ·have : ns = [] := by simpa using h0
  subst this
  exact ⟨none, 0, rfl, .inl rfl⟩
 ·refine ⟨some ⟨g, 0, none⟩, cap, by rw [List.length_map], .inr ⟨g, rfl, hb, hl, fun j nd hj => ?_⟩⟩
  have hjl := (List.getElem?_eq_some_iff.1 hj).1
  have := (hH j (by simpa using hjl)).1
  rw [this, ← bstr_byS]
  have e : (ns.map fun nd => byS nd.path).toArray[j]! = byS nd.path := by
   have e2 : ns[j] = nd := (List.getElem?_eq_some_iff.1 hj).2
   simp [hjl, e2]
  rw [e]
theorem elNo.cells {w : World} {nd : Nod} {c : Array Value} {l : List Lf} (h : elNo w nd c.toList l) : ∃ q0 q1 q2 q3 q4 q5 q6 q7, c = #[q0, q1, q2, q3, q4, q5, q6, q7] ∧ ∀ u ∈ [q0, q1, q2, q3, q4, q5, q6, q7], u.oneCell' = true := by
 obtain ⟨p0, c0, p1, c1, p4, c4, p7, c7, l0, l1, l4, l7, -, h2, -⟩ := h
 refine ⟨_, _, _, _, _, _, _, _, by rw [← Array.toList_inj, h2], fun u hu => ?_⟩
 simp only [List.mem_cons, List.not_mem_nil, or_false] at hu
 rcases hu with rfl | rfl | rfl | rfl | rfl | rfl | rfl | rfl <;> rfl
end Go.Proofs.YtnbgnhhnpmmloaaGreatDoor
