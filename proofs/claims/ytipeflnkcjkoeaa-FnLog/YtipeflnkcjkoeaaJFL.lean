import Derived.Test.YtipeflnkcjkoeaaJLm
namespace Go.Proofs.Ytipeflnkcjkoeaa
open Go.ChangeShapes Go.WideShapes Go.ChangeAt Go.RowKit
set_option linter.unusedVariables false
set_option linter.unusedSimpArgs false

theorem enc_byt {rs : List R1} (h : ∀ r ∈ rs, Byt r.2) : Byt (enc rs) := by
  induction rs with
  | nil => intro z hz; simp [enc] at hz
  | cons r rs ih => exact (recB_byt (h r (by simp))).append (ih fun r hr => h r (by simp [hr]))
theorem rr_byt {s : Int} {b : List Int} (hb : Byt b) (n : Nat) : ∀ i, i + n ≤ 256 → ∀ r ∈ rr s b i n, Byt r.2 := by
  induction n with
  | zero => intro i _ r hr; simp [rr] at hr
  | succ n ih =>
    intro i hi r hr
    rcases List.mem_cons.1 hr with rfl | hr
    · intro z hz
      rcases List.mem_cons.1 hz with rfl | hz
      · omega
      · exact hb z hz
    · exact ih (i + 1) (by omega) r hr
theorem OwnR.at {B n c : Nat} {w : World} {p : Option Addr} {rs : List R1} {vs : List Value} (h : OwnR B w (.slice p n c) rs vs) (i : Nat) (r : R1) (hi : rs[i]? = some r) :
    ∃ (g : Nat) (q : Option Addr) (d : Nat), p = some ⟨g, 0, none⟩ ∧ w.cell? ⟨g, i * 2, none⟩ = some (.int .u64 r.1) ∧ w.cell? ⟨g, i * 2 + 1, none⟩ = some (.slice q r.2.length d) ∧ Own B w (.slice q r.2.length d) r.2 := by
  have hv : ∃ u, vs[i]? = some u := by
    have : i < vs.length := by rw [h.len]; exact (List.getElem?_eq_some_iff.1 hi).1
    exact ⟨_, List.getElem?_eq_getElem this⟩
  obtain ⟨u, hu⟩ := hv
  have ho := h.own i r u hi hu
  obtain ⟨q, d, rfl⟩ := ho.form
  have hlt : i < rs.length := (List.getElem?_eq_some_iff.1 hi).1
  obtain ⟨e1, e2⟩ := recCells_get rs vs i r _ hi hu
  rcases h.row.2 with ⟨e, h0⟩ | ⟨g, cap, cur, e, _⟩
  · omega
  · simp only [Value.slice.injEq] at e
    obtain ⟨rfl, rfl, rfl⟩ := e
    have c1 := World.ownsRow.cellAt (w := w) (base := B) h.row (2 * i) (by omega)
    have c2 := World.ownsRow.cellAt (w := w) (base := B) h.row (2 * i + 1) (by omega)
    rw [Nat.mul_comm 2 i] at c1 c2 e1 e2
    exact ⟨g, q, d, rfl, c1.trans e1, c2.trans e2, ho⟩
theorem sameB_same2 (p q : Option Addr) (c d n : Nat) (l : List Int) (en : Hid (l.length = n)) (w : World) (h1 : Rd w (.slice p n c) l) (h2 : Rd w (.slice q n d) l) (hl : n ≤ 2097152) :
    Calls Try.prog 32 #[.slice p n c, .slice q n d] w fun e w' => e = .returned (.bool true) ∧ Below w.heap.size w w' := by
  have e := unhide en
  subst e
  exact sameB_same p q c d l w h1 h2 hl
theorem Own.neOf {B b : Nat} {w : World} {v : Value} {l : List Int} {a : Array Value} (h : Own B w v l) (hb : w.heap[b]? = some (.cells a 38)) : v.ownBlock ≠ some b := by
  intro e
  rcases h.2 with ⟨rfl, _⟩ | ⟨g, cap, cur, rfl, _, hg, _⟩
  · simp [Value.ownBlock] at e
  · simp [Value.ownBlock] at e
    subst e
    rw [hb] at hg
    simp at hg
theorem step_append_rdn {w : World} {ops : Array Oper} {o : Oper} {a : Act} {K : Act → World → Prop} {Q : Exit → Act → World → Prop} {E : Prop} (hgd : o.guard = none) (s x : Operand)
    (ho : o.op = .call { callee := .builtin .append, args := #[s, x], argTypes := #[22, 22] })
    (B : Nat) (v : Value) (l m lm : List Int) (elm : Hid (lm = l ++ m)) (p : Option Addr) (c k N : Nat) (hk : Hid (m.length = k)) (hN : Hid (lm.length = N)) (hs : a.eval s = v) (hx : a.eval x = .slice p k c) (hown : Own B w v l) (hr : Rd w (.slice p k c) m)
    (hl : l.length + k ≤ 4194304) (hB : B ≤ w.heap.size)
    (hK : ∀ p' c' w', Own B w' (.slice p' N c') lm → w.grownBy w' v.ownBlock → K (a.put o.dst (.slice p' N c')) w') :
    if Region.wanted o (yielded ops a.tmps) = true then Oper.wp Try.prog o a w K Q else E := by
  have e := unhide hk
  subst e
  have e := unhide hN
  subst e
  exact step_append_rd hgd s x ho B v l m lm elm p c hs hx hown hr hl hB hK

theorem len_tk (rs : List R1) : rs.length ≤ tkR rs := by
  induction rs with
  | nil => simp
  | cons r rs ih => simp [tkR]; omega

set_option maxHeartbeats 40000000 in
set_option maxRecDepth 100000 in
theorem lawLog (p : Option Addr) (c : Nat) (code : List Int) (q : Option Addr) (d m : Nat) (more : List Int) (w : World) (h : Rd w (.slice p code.length c) code) (hB : Byt code) (hl : code.length ≤ 1048576) (hc : code.length ≤ c) (hm : Rd w (.slice q m d) more) (em : Hid (more.length = m)) (hmB : Hid (Byt more)) (hml : m ≤ 1048576) :
    Calls Try.prog 8 #[.slice p code.length c, .slice q m d] w fun e w' => e = .returned (.bool true) ∧ Below w.heap.size w w' := by
  obtain ⟨cd, ecd0⟩ : ∃ cd, code.take 500 = cd := ⟨_, rfl⟩
  have hBt : Byt cd := by rw [← ecd0]; exact fun z hz => hB z (List.mem_of_mem_take hz)
  have ecd := hide ecd0
  have HBt := hide hBt
  have HB := hide hB
  clear ecd0 hBt hB
  have hl' : ¬ (1048576 : Int) < (code.length : Int) := by omega
  have hml' : ¬ (1048576 : Int) < (m : Int) := by omega
  have hc1' : decide ((1048576 : Int) < (code.length : Int)) = false := by simp; omega
  have hc2' : decide ((1048576 : Int) < (m : Int)) = false := by simp; omega
  go_enter Try.func8, Try.ntmps8
  go_wp2_with fail
  refine (drawRec_any p c code _ h (unhide HB) hl hc cd ecd).mono ?_
  rintro e w1 ⟨p1, c1, rfl, o1, b1⟩
  have hq := dSeq_range (cd.getD 1 0) (getD_range cd (unhide HBt) 1).1
  obtain ⟨s, es⟩ : ∃ s, dSeq (cd.getD 1 0) = s := ⟨_, rfl⟩
  rw [es] at hq ⊢
  obtain ⟨bd, ebd⟩ : ∃ bd, dBody cd = bd := ⟨_, rfl⟩
  have hbd : Byt bd ∧ bd.length ≤ 1001 := by
    rw [← ebd, dBody]
    have h0 := getD_range cd (unhide HBt) 0
    split
    · exact ⟨fun z hz => by have := List.eq_of_mem_replicate hz; omega, by rw [List.length_replicate]; omega⟩
    · exact ⟨dB_byt (unhide HBt) 2, by have := dB_le cd 2; omega⟩
  obtain ⟨hbB, hbl⟩ := hbd
  rw [ebd] at o1 ⊢
  obtain ⟨nb, enb⟩ : ∃ nb, bd.length = nb := ⟨_, rfl⟩
  rw [enb] at hbl o1 ⊢
  have ENB := hide enb
  have HbB := hide hbB
  have r1 := o1.rd
  have hcap1 := o1.cap
  have hz1 := b1.size
  have m1 := hm.below b1
  have h1 := h.below b1
  clear es ebd enb hbB h hm
  go_wp2_with fail
  have bA : Below w1.heap.size w1 (w1.alloc (.cells #[.int .u64 s, .slice p1 nb c1] 38)) := (Below.refl _ _).alloc (Nat.le_refl _) _
  have hA : At2 (w1.alloc (.cells #[.int .u64 s, .slice p1 nb c1] 38)) w1.heap.size (.int .u64 s) (.slice p1 nb c1) := by simp [At2]
  refine (take_any q d m 0 (by omega) more em _ (m1.below bA) (unhide hmB) hml).mono ?_
  rintro e w2 ⟨y0, hy0, rfl, hb2⟩
  have hA2 := hA.below hb2
  have r2 := (r1.below bA).below hb2
  have m2 := (m1.below bA).below hb2
  have h2 := (h1.below bA).below hb2
  have b2 := Below.step (Below.step b1 bA) hb2
  have z2 : w1.heap.size + 1 ≤ w2.heap.size := by have := hb2.size; simpa using this
  clear hA r1 m1 h1 o1 hb2 bA
  obtain ⟨n, en⟩ : ∃ n : Nat, 1 + y0 % 5 = (n : Int) := ⟨(1 + y0 % 5).toNat, by omega⟩
  have hn : 1 ≤ n ∧ n ≤ 5 := by omega
  obtain ⟨c20, c21⟩ := hA2
  by_cases hbig : 1000 < nb
  · have hx : (1000 : Int) < (nb : Int) := by omega
    go_wp2
    go_ret
    exact ⟨rfl, b2⟩
  by_cases hsb : 1000000000000 < s
  · have hx : ¬ (1000 : Int) < (nb : Int) := by omega
    have hx' : decide ((1000 : Int) < (nb : Int)) = false := by simp; omega
    go_wp2
    go_ret
    exact ⟨rfl, b2⟩
  have hx : ¬ (1000 : Int) < (nb : Int) := by omega
  have hx' : decide ((1000 : Int) < (nb : Int)) = false := by simp; omega
  have hx2 : decide ((1000000000000 : Int) < s) = false := by simp; omega
  go_wp2_with fail
  go_loopw [7, 8] (fun lv i wr => ∃ (k N : Nat) (lg : List Int) (pv : Option Addr) (cv : Nat), k ≤ n + 1 ∧ i = .int .i64 k ∧ lv = .slice pv N cv ∧ Hid (lg.length = N) ∧ N ≤ 1015 * k ∧ Hid ((k ≤ n → lg = enc (rr s bd 0 k)) ∧ (n < k → ∃ j, j < nb + 15 ∧ lg = enc (rr s bd 0 n) ++ (recB (s + n) ((n : Int) :: bd)).take j)) ∧ (0 < k → nb < 1000) ∧ Own w2.heap.size wr (.slice pv N cv) lg ∧ Below w2.heap.size w2 wr) (fun _ i _ => n + 1 - (intOf i).toNat)
  case atStart => exact ⟨0, 0, [], none, 0, Nat.zero_le _, rfl, rfl, rfl, by omega, ⟨fun _ => rfl, fun h => by omega⟩, fun h => by omega, World.ownsRow_nil _ _ _ _, Below.refl _ _⟩
  case round =>
    obtain ⟨k, N, lg, pv, cv, hk, rfl, rfl, eN, hN, eLG, hk0, ho, hbr⟩ := hrel
    have hzr := hbr.size
    by_cases hkn : k ≤ n
    · have hkn' : (k : Int) ≤ (n : Int) := by omega
      have d0 := cell_below c20 hbr
      have d1 := cell_below c21 hbr
      have rr2 := r2.below hbr
      have elm : Hid ((k : Int) :: bd = [(k : Int)] ++ bd) := rfl
      have elN : Hid (((k : Int) :: bd).length = nb + 1) := by show _ = _; rw [List.length_cons, unhide ENB]
      have A1 : ∀ o : Obj, Below wr.heap.size wr (wr.alloc o) := fun o => (Below.refl _ _).alloc (Nat.le_refl _) _
      have A2 : ∀ o o' : Obj, Below wr.heap.size wr ((wr.alloc o).alloc o') := fun o o' => (A1 o).alloc (A1 o).size _
      have d0A : ∀ o : Obj, (wr.alloc o).cell? ⟨w1.heap.size, 0, none⟩ = some (.int .u64 s) := fun o => cell_below d0 (A1 o)
      have d1A : ∀ o : Obj, (wr.alloc o).cell? ⟨w1.heap.size, 1, none⟩ = some (.slice p1 nb c1) := fun o => cell_below d1 (A1 o)
      have d0B : ∀ o o' : Obj, ((wr.alloc o).alloc o').cell? ⟨w1.heap.size, 0, none⟩ = some (.int .u64 s) := fun o o' => cell_below d0 (A2 o o')
      have d1B : ∀ o o' : Obj, ((wr.alloc o).alloc o').cell? ⟨w1.heap.size, 1, none⟩ = some (.slice p1 nb c1) := fun o o' => cell_below d1 (A2 o o')
      have wk8 : IntKind.u8.wrap (k : Int) = (k : Int) := by rw [IntKind.wrap_u8]; omega
      have wk64 : IntKind.u64.wrap (k : Int) = (k : Int) := by rw [IntKind.wrap_u64]; omega
      have wsk : IntKind.u64.wrap (s + (k : Int)) = s + (k : Int) := by rw [IntKind.wrap_u64]; omega
      go_upto_region 11 with fail
      go_cut [9] (fun rv wc => ∃ (R : Nat) (p' : Option Addr) (c' : Nat), rv = .pointer (some ⟨R, 0, none⟩) ∧ wr.heap.size ≤ R ∧ At2 wc R (.int .u64 (s + k)) (.slice p' (nb + 1) c') ∧ Own wr.heap.size wc (.slice p' (nb + 1) c') ((k : Int) :: bd) ∧ Below wr.heap.size wr wc)
      case first =>
        have own1 : ∀ o : Obj, Own wr.heap.size ((wr.alloc o).alloc (.cells #[.int .u8 (k : Int)] 5)) (.slice (some ⟨wr.heap.size + 1, 0, none⟩) 1 1) [(k : Int)] := by
          intro o
          have h := Own.mono (B' := wr.heap.size) (Own.one (wr.alloc o) (k : Int)) (by simp)
          simpa using h
        have hp1 : ∀ o o' : Obj, ((wr.alloc o).alloc o').drew.heap[wr.heap.size + 1]? = some o' := fun o o' => by
          have h := World.alloc_heap_new (wr.alloc o) o'
          have e : (wr.alloc o).heap.size = wr.heap.size + 1 := by simp
          rw [e] at h
          exact h
        have hp0 : ∀ o o' : Obj, ((wr.alloc o).alloc o').drew.heap[wr.heap.size]? = some o := fun o o' => (Below.heap_alloc (wr.alloc o) o' wr.heap.size (by simp)).trans (World.alloc_heap_new wr o)
        go_region_law (first
          | (refine step_append_rdn (by rfl) _ _ (by rfl) wr.heap.size (.slice (some ⟨wr.heap.size, 0, none⟩) 1 1) [(k : Int)] bd ((k : Int) :: bd) elm p1 c1 nb (nb + 1) ENB elN (by rfl) (by rfl) (by exact Own.below (Own.one wr k) (Below.refl _ _).drew) (by exact rr2.below (A1 _).drew) (by simp; omega) (by simp) ?_; intro pt ct wt ot gt; have bt : Below wr.heap.size wr wt := below_grown ((A1 _).drew) gt (by exact Own.below (Own.one wr k) (Below.refl _ _).drew) (Nat.le_refl _) (by simp); have zt := gt.size; have d0t := cell_below d0 bt; have d0tA : ∀ o : Obj, (wt.alloc o).cell? ⟨w1.heap.size, 0, none⟩ = some (.int .u64 s) := fun o => cell_below d0t ((Below.refl _ _).alloc (Nat.le_refl _) _))
          | (refine step_append_rdn (by rfl) _ _ (by rfl) wr.heap.size (.slice (some ⟨wr.heap.size, 0, none⟩) 1 1) [(k : Int)] bd ((k : Int) :: bd) elm p1 c1 nb (nb + 1) ENB elN (by rfl) (by rfl) (by exact Own.below (Own.below (Own.one wr k) ((Below.refl _ _).alloc (Nat.le_refl _) _)) (Below.refl _ _).drew) (by exact rr2.below (A2 _ _).drew) (by simp; omega) (by simp; omega) ?_; intro pt ct wt ot gt; have bt : Below wr.heap.size wr wt := below_grown ((A2 _ _).drew) gt (by exact Own.below (Own.below (Own.one wr k) ((Below.refl _ _).alloc (Nat.le_refl _) _)) (Below.refl _ _).drew) (Nat.le_refl _) (by simp; omega); have zt := gt.size; have d0t := cell_below d0 bt; have d0tA : ∀ o : Obj, (wt.alloc o).cell? ⟨w1.heap.size, 0, none⟩ = some (.int .u64 s) := fun o => cell_below d0t ((Below.refl _ _).alloc (Nat.le_refl _) _); have f00 : wt.cell? ⟨wr.heap.size + 1, 0, none⟩ = some (.int .u64 0) := (World.cell?_of_block (gt.block (wr.heap.size + 1) (by simp) (by simp [Value.ownBlock]))).trans (by simp); have f01 : wt.cell? ⟨wr.heap.size + 1, 1, none⟩ = some (.slice none 0 0) := (World.cell?_of_block (gt.block (wr.heap.size + 1) (by simp) (by simp [Value.ownBlock]))).trans (by simp); have f02 : ∀ o, wt.frozen? ⟨wr.heap.size + 1, o, none⟩ = false := fun o => (World.frozen?_of_block (gt.block (wr.heap.size + 1) (by simp) (by simp [Value.ownBlock]))).trans (by simp); have net := Own.neOf (b := wr.heap.size + 1) ot ((gt.block (wr.heap.size + 1) (by simp) (by simp [Value.ownBlock])).trans (hp1 _ _)))
          | (refine step_append_rdn (by rfl) _ _ (by rfl) wr.heap.size (.slice (some ⟨wr.heap.size + 1, 0, none⟩) 1 1) [(k : Int)] bd ((k : Int) :: bd) elm p1 c1 nb (nb + 1) ENB elN (by rfl) (by rfl) (by exact Own.below (own1 _) (Below.refl _ _).drew) (by exact rr2.below (A2 _ _).drew) (by simp; omega) (by simp; omega) ?_; intro pt ct wt ot gt; have bt : Below wr.heap.size wr wt := below_grown ((A2 _ _).drew) gt (by exact Own.below (own1 _) (Below.refl _ _).drew) (Nat.le_refl _) (by simp; omega); have zt := gt.size; have d0t := cell_below d0 bt; have d0tA : ∀ o : Obj, (wt.alloc o).cell? ⟨w1.heap.size, 0, none⟩ = some (.int .u64 s) := fun o => cell_below d0t ((Below.refl _ _).alloc (Nat.le_refl _) _); have f00 : wt.cell? ⟨wr.heap.size, 0, none⟩ = some (.int .u64 0) := (World.cell?_of_block (gt.block (wr.heap.size) (by simp; omega) (by simp [Value.ownBlock]))).trans (by simp); have f01 : wt.cell? ⟨wr.heap.size, 1, none⟩ = some (.slice none 0 0) := (World.cell?_of_block (gt.block (wr.heap.size) (by simp; omega) (by simp [Value.ownBlock]))).trans (by simp); have f02 : ∀ o, wt.frozen? ⟨wr.heap.size, o, none⟩ = false := fun o => (World.frozen?_of_block (gt.block (wr.heap.size) (by simp; omega) (by simp [Value.ownBlock]))).trans (by simp); have net := Own.neOf (b := wr.heap.size) ot ((gt.block (wr.heap.size) (by simp; omega) (by simp [Value.ownBlock])).trans (hp0 _ _))))
        all_goals (
          go_wp2_with fail
          go_meet
          first
          | exact ⟨wt.heap.size, pt, ct, rfl, bt.size, by simp [At2], Own.below ot ((Below.refl _ _).alloc (Nat.le_refl _) _), bt.alloc bt.size _⟩
          | exact ⟨wr.heap.size + 1, pt, ct, rfl, by omega, by simp [At2, go_sem, f00, f01], (by refine ownsRow_setCell_other (ownsRow_setCell_other ot ?_ _) ?_ _ <;> exact net), (by (repeat (refine Below.setCell ?_ (by simp) _)); exact bt)⟩
          | exact ⟨wr.heap.size, pt, ct, rfl, by omega, by simp [At2, go_sem, f00, f01], (by refine ownsRow_setCell_other (ownsRow_setCell_other ot ?_ _) ?_ _ <;> exact net), (by (repeat (refine Below.setCell ?_ (by simp) _)); exact bt)⟩)
      case rest =>
        obtain ⟨R, p', c', rfl, hR, ⟨hA0, hA1⟩, hoB, hbc⟩ := hcut
        have bc : Below w2.heap.size w2 wc := hbr.trans (hbc.mono hzr)
        clear d0A d1A d0B d1B A1 A2 d0 d1 rr2
        by_cases hnb : nb = 1000
        · have hy : (1000 : Int) < (nb : Int) + 1 := by omega
          clear hx hx'
          go_wp2
          go_ret
          exact ⟨rfl, Below.step b2 bc⟩
        have hy : ¬ (1000 : Int) < (nb : Int) + 1 := by omega
        have hkB : Byt ((k : Int) :: bd) := by
          intro z hz
          rcases List.mem_cons.1 hz with rfl | hz
          · omega
          · exact unhide HbB z hz
        have HkB := hide hkB
        clear hkB
        have hoL := Own.below (ho.mono (Nat.le_refl _)) hbc
        go_wp2_with fail
        refine (implEncRec (s + k) p' c' (nb + 1) ((k : Int) :: bd) elN _ hoB.rd (unhide HkB) (by omega) (by omega) (by omega)).mono ?_
        rintro e w5 ⟨p5, c5, rfl, o5, hb5⟩
        have hA15 := cell_below hA1 hb5
        have ho5 := Own.below hoL hb5
        have b5 := Below.step bc hb5
        have r5 := o5.rd
        have z5 := b5.size
        have hc5 := o5.cap
        have m5 := m2.below b5
        have t5 := o5.btw
        have zc := hbc.size
        have hRlt : R < wc.heap.size := World.block_lt_of_cell? wc _ hA1
        clear hA0 hA1 hoB hb5 hbc hoL o5 ho bc
        have elr : (recB (s + k) ((k : Int) :: bd)).length = nb + 1 + 14 := by rw [recB_length, unhide elN]
        have ELR := hide elr
        clear elr
        have hne : (((nb : Int) + 1 + 14) != 14 + ((nb : Int) + 1)) = false := by simp; omega
        by_cases hkn2 : k = n
        · have hke : ((k : Int) == (n : Int)) = true := by simp; omega
          go_wp2_with fail
          refine (take_any q d m 1 (by omega) more em _ m5 (unhide hmB) hml).mono ?_
          rintro e w6 ⟨y1, hy1, rfl, hb6⟩
          obtain ⟨J, eJ⟩ : ∃ J : Nat, y1 % ((nb : Int) + 1 + 14) = (J : Int) := ⟨(y1 % ((nb : Int) + 1 + 14)).toNat, by have := Int.emod_nonneg y1 (show ((nb : Int) + 1 + 14) ≠ 0 by omega); omega⟩
          have hJ : J < nb + 1 + 14 := by have := Int.emod_lt_of_pos y1 (show (0 : Int) < ((nb : Int) + 1 + 14) by omega); omega
          have ho6 := Own.below ho5 hb6
          have b6 := Below.step b5 hb6
          have r6 := Rd.pre (r5.below hb6) (unhide ELR) J (by omega)
          have z6 := b6.size
          have hJc : (J : Int) ≤ (c5 : Int) := by omega
          have hmx : max (J : Int) 0 = (J : Int) := by omega
          have elt : ((recB (s + k) ((k : Int) :: bd)).take J).length = J := by rw [List.length_take, unhide ELR]; omega
          have ELT := hide elt
          obtain ⟨tk, etk⟩ : ∃ tk, (recB (s + k) ((k : Int) :: bd)).take J = tk := ⟨_, rfl⟩
          rw [etk] at r6 ELT
          have ETK := hide etk
          clear etk elt ho5 r5 m5 b5 hb6
          go_wp2_with (at_builtin; refine wpList_append_rdn rfl _ _ rfl w2.heap.size (.slice pv N cv) lg tk (lg ++ tk) (by show _ = _; rfl) p5 c5 J ELT rfl rfl ho6 r6 (by rw [unhide eN, unhide ELT]; omega) (by omega) ?_)
          intro p7 c7 w7 ho7 hg7
          have e7 : lg.length + tk.length = N + J := by rw [unhide eN, unhide ELT]
          have EL7 : Hid ((lg ++ tk).length = N + J) := by show _ = _; rw [List.length_append, e7]
          first | rw [e7] at ho7 ⊢ | rw [unhide EL7] at ho7 ⊢
          have b7 : Below w2.heap.size w2 w7 := below_grown b6 hg7 ho6 (Nat.le_refl _) (by omega)
          have eLG7 : Hid ((k + 1 ≤ n → lg ++ tk = enc (rr s bd 0 (k + 1))) ∧ (n < k + 1 → ∃ j, j < nb + 15 ∧ lg ++ tk = enc (rr s bd 0 n) ++ (recB (s + n) ((n : Int) :: bd)).take j)) := by
            refine ⟨fun h => by omega, fun h => ⟨J, by omega, ?_⟩⟩
            rw [(unhide eLG).1 hkn, ← unhide ETK, hkn2]
          clear e7 hg7 ho6 r6 t5 hc5 hA15 b6
          go_wp2
          go_roundw
          case rel => exact ⟨k + 1, N + J, lg ++ tk, p7, c7, by omega, by go_num, rfl, EL7, by omega, eLG7, fun _ => by omega, ho7, b7⟩
          case measure => simp [intOf]; omega
        · have hke : ((k : Int) == (n : Int)) = false := by simp; omega
          have el6 : (lg ++ recB (s + k) ((k : Int) :: bd)).length = N + (nb + 1 + 14) := by rw [List.length_append, unhide eN, unhide ELR]
          have EL6 := hide el6
          clear el6
          go_wp2_with (at_builtin; refine wpList_append_rdn rfl _ _ rfl w2.heap.size (.slice pv N cv) lg (recB (s + k) ((k : Int) :: bd)) (lg ++ recB (s + k) ((k : Int) :: bd)) (by show _ = _; rfl) p5 c5 (nb + 1 + 14) ELR rfl rfl ho5 r5 (by rw [unhide eN, unhide ELR]; omega) (by omega) ?_)
          intro p6 c6 w6 ho6 hg6
          have e6 : lg.length + (recB (s + k) ((k : Int) :: bd)).length = N + (nb + 1 + 14) := by rw [unhide eN, unhide ELR]
          first | rw [e6] at ho6 ⊢ | rw [unhide EL6] at ho6 ⊢
          have b6 : Below w2.heap.size w2 w6 := below_grown b5 hg6 ho5 (Nat.le_refl _) (by omega)
          have eLG6 : Hid ((k + 1 ≤ n → lg ++ recB (s + k) ((k : Int) :: bd) = enc (rr s bd 0 (k + 1))) ∧ (n < k + 1 → ∃ j, j < nb + 15 ∧ lg ++ recB (s + k) ((k : Int) :: bd) = enc (rr s bd 0 n) ++ (recB (s + n) ((n : Int) :: bd)).take j)) := by
            refine ⟨fun _ => ?_, fun h => by omega⟩
            rw [rr_snoc, enc_append, (unhide eLG).1 hkn]
            simp [enc]
          clear e6 hg6 ho5 r5 m5 t5 hc5 hA15 b5
          go_wp2
          go_roundw
          case rel => exact ⟨k + 1, N + (nb + 1 + 14), lg ++ recB (s + k) ((k : Int) :: bd), p6, c6, by omega, by go_num, rfl, EL6, by omega, eLG6, fun _ => by omega, ho6, b6⟩
          case measure => simp [intOf]; omega
    · have ekn : k = n + 1 := by omega
      subst ekn
      have hkn' : ¬ ((n : Int) + 1) ≤ (n : Int) := by omega
      have hnb := hk0 (by omega)
      obtain ⟨j, hj, eJ⟩ := (unhide eLG).2 (by omega)
      have hlgB : Byt lg := by
        rw [eJ]
        refine Byt.append ?_ (fun z hz => recB_byt (s := s + n) (l := (n : Int) :: bd) ?_ z (List.mem_of_mem_take hz))
        · exact enc_byt (rr_byt (unhide HbB) n 0 (by omega))
        · intro z hz
          rcases List.mem_cons.1 hz with rfl | hz
          · omega
          · exact unhide HbB z hz
      have hrl : rl lg = rr s bd 0 n := by
        rw [eJ]
        exact rl_rr s bd _ (by rw [unhide ENB]; omega) hq.1 n (by omega) (rec1_pre (by rw [List.length_cons, unhide ENB]; omega) (by rw [List.length_cons, unhide ENB]; omega))
      have htk : tkR (rr s bd 0 n) = n * (15 + nb) := by rw [rr_tk, unhide ENB]
      obtain ⟨T, eT⟩ : ∃ T, n * (15 + nb) = T := ⟨_, rfl⟩
      rw [eT] at htk
      have eTi : (n : Int) * (15 + (nb : Int)) = (T : Int) := by rw [← eT]; push_cast; rfl
      have hTb : T ≤ 5 * 1015 := by rw [← eT]; exact Nat.mul_le_mul hn.2 (by omega)
      have wT : wrap64 (T : Int) = (T : Int) := by unfold wrap64; omega
      have HTK := hide htk
      have HRL := hide hrl
      have HLB := hide hlgB
      clear eT htk hrl hlgB eJ eLG
      go_wp2_with fail
      refine (implReadLog N cv pv lg _ ho.rd (unhide HLB) (unhide eN) (by omega) ho.cap ho.capMax ho.addr).mono ?_
      rintro e w4 ⟨p4, c4, vs4, rfl, hR4, hb4⟩
      rw [unhide HRL, rr_length, unhide HTK] at *
      have b4 := Below.step hbr hb4
      have c40 := cell_below c20 b4
      have c41 := cell_below c21 b4
      have r4 := r2.below b4
      have h4 := h2.below b4
      have hne1 : ((n : Int) != (n : Int)) = false := by simp
      have hne2 : ((T : Int) != (T : Int)) = false := by simp
      have z4 := b4.size
      clear hb4 ho hbr
      go_wp2_with fail
      try rw [wT]
      go_loopw [13] (fun i wr => ∃ k : Nat, k ≤ n ∧ i = .int .i64 k ∧ Below w4.heap.size w4 wr) (fun i _ => n - (intOf i).toNat)
      case atStart => exact ⟨0, Nat.zero_le _, rfl, Below.refl _ _⟩
      case round =>
        obtain ⟨k, hk, rfl, hbr⟩ := hrel
        by_cases hlt : k < n
        · have hget := rr_get s bd n 0 k hlt
          rw [Nat.zero_add] at hget
          obtain ⟨g, qb, db, rfl, a1, a2, a3⟩ := OwnR.at (OwnR.below hR4 hbr) k _ hget
          dsimp only at a1 a2 a3
          rw [List.length_cons, unhide ENB] at a2 a3
          have hcb := a3.cap
          obtain ⟨gb, rfl⟩ : ∃ gb, qb = some ⟨gb, 0, none⟩ := by
            rcases a3.2 with ⟨e, h0⟩ | ⟨g, cap, cur, e, _⟩
            · simp at h0
            · simp at e; exact ⟨g, e.1⟩
          have a4 : wr.cell? ⟨gb, 0, none⟩ = some (.int .u8 (k : Int)) := by
            obtain ⟨b', o', e, _, hcc⟩ := a3.rd.at (by simp)
            simp only [Option.some.injEq, Addr.mk.injEq] at e
            obtain ⟨rfl, rfl, -⟩ := e
            simpa using hcc 0 (by simp)
          have a5 := cell_below c40 hbr
          have a6 := cell_below c41 hbr
          have rb := r4.below hbr
          have HRB := hide rb
          have HA3 := hide a3.rd
          have hlti : (k : Int) < (n : Int) := by omega
          have wk8 : IntKind.u8.wrap (k : Int) = (k : Int) := by rw [IntKind.wrap_u8]; omega
          have wk64 : IntKind.u64.wrap (k : Int) = (k : Int) := by rw [IntKind.wrap_u64]; omega
          have wsk : IntKind.u64.wrap (s + (k : Int)) = s + (k : Int) := by rw [IntKind.wrap_u64]; omega
          obtain ⟨M, eM⟩ : ∃ M, nb + 1 = M := ⟨_, rfl⟩
          have eM1 : 1 + (nb : Int) = (M : Int) := by omega
          have eM2 : M - 1 = nb := by omega
          obtain ⟨S, eS⟩ : ∃ S, s + (k : Int) = S := ⟨_, rfl⟩
          rw [eM] at a2 hcb HA3
          rw [eS] at a1 wsk
          have hn1 : (S != S) = false := by simp
          have hn2 : ((M : Int) != (M : Int)) = false := by simp
          have hn3 : ((k : Int) != (k : Int)) = false := by simp
          have hd1 : (1 : Int) ≤ (db : Int) := by omega
          have hd2 : (1 : Int) ≤ (M : Int) := by omega
          have hd4 : (0 : Int) < (M : Int) := by omega
          have wM : IntKind.i64.wrap (M : Int) = (M : Int) := IntWalk.i64_in _ (by omega)
          have hd5 : 0 < M := by omega
          have hd6 : max (M : Int) 0 = (M : Int) := by omega
          have hd3 : (M : Int) ≤ (db : Int) := by omega
          have HM := hide eM
          clear a3 rb eM
          have k0 := And.intro a1 (And.intro a2 (And.intro a4 (And.intro a5 a6)))
          have hS1 : ∀ w' : World, Below wr.heap.size wr w' → Rd w' (.slice (some ⟨gb, 1, none⟩) nb (db - 1)) bd := by
            intro w' hb'
            have h := ((unhide HA3).below hb').cut 1 M (by omega) (by rw [List.length_cons, unhide ENB, unhide HM]; omega) (some ⟨gb, 1, none⟩) (.inr (by simp)) (db - 1) bd (by rw [List.take_of_length_le (by rw [List.length_cons, unhide ENB, unhide HM]; omega)]; rfl)
            rw [eM2] at h
            exact h
          have HS1 := hide hS1
          clear hS1
          by_cases hdb : db = 1
          · clear HS1 k0 hd1
            subst hdb
            have hd3' : (M : Int) ≤ 1 := by omega
            have hnb0 : nb = 0 := by omega
            have hS2 : ∀ w' : World, Rd w' (.slice (some ⟨gb, 0, none⟩) nb 0) bd := fun w' => ⟨_, _, by rw [unhide ENB], .inl (List.length_eq_zero_iff.1 ((unhide ENB).trans hnb0))⟩
            have HS1 := hide hS2
            clear hS2 hd3 hcb hnb0
            have k0 := And.intro a1 (And.intro a2 (And.intro a4 (And.intro a5 a6)))
            go_upto_region 26 with fail
            go_region_held3 (fun w' => w'.cell? ⟨g, k * 2, none⟩ = some (.int .u64 S) ∧ w'.cell? ⟨g, k * 2 + 1, none⟩ = some (.slice (some ⟨gb, 0, none⟩) M 1) ∧ w'.cell? ⟨gb, 0, none⟩ = some (.int .u8 (k : Int)) ∧ w'.cell? ⟨w1.heap.size, 0, none⟩ = some (.int .u64 s) ∧ w'.cell? ⟨w1.heap.size, 1, none⟩ = some (.slice p1 nb c1)) (first | exact k0 | exact k1)
              (first | (go_at_call 32; refine (sameB_same2 _ _ _ _ nb bd ENB _ (by exact unhide HS1 _) (by exact (unhide HRB).below (Below.refl _ _).drew) (by omega)).mono ?_; rintro e w5 ⟨rfl, hb5⟩; have hb' : Below wr.heap.size wr w5 := Below.step (Below.refl wr.heap.size wr).drew hb5; have k1 := And.intro (cell_below a1 hb') (And.intro (cell_below a2 hb') (And.intro (cell_below a4 hb') (And.intro (cell_below a5 hb') (cell_below a6 hb'))))))
            have b5 := Below.step hbr hb'
            clear a1 a2 a4 a5 a6 hb5 hb' hbr k0 k1
            go_wp2
            go_roundw
            case rel => exact ⟨k + 1, by omega, by go_num, b5⟩
            case measure => simp [intOf]; omega
          · go_upto_region 26 with fail
            go_region_held3 (fun w' => w'.cell? ⟨g, k * 2, none⟩ = some (.int .u64 S) ∧ w'.cell? ⟨g, k * 2 + 1, none⟩ = some (.slice (some ⟨gb, 0, none⟩) M db) ∧ w'.cell? ⟨gb, 0, none⟩ = some (.int .u8 (k : Int)) ∧ w'.cell? ⟨w1.heap.size, 0, none⟩ = some (.int .u64 s) ∧ w'.cell? ⟨w1.heap.size, 1, none⟩ = some (.slice p1 nb c1)) (first | exact k0 | exact k1)
              (first | (go_at_call 32; refine (sameB_same2 _ _ _ _ nb bd ENB _ (by exact unhide HS1 _ (Below.refl _ _).drew) (by exact (unhide HRB).below (Below.refl _ _).drew) (by omega)).mono ?_; rintro e w5 ⟨rfl, hb5⟩; have hb' : Below wr.heap.size wr w5 := Below.step (Below.refl wr.heap.size wr).drew hb5; have k1 := And.intro (cell_below a1 hb') (And.intro (cell_below a2 hb') (And.intro (cell_below a4 hb') (And.intro (cell_below a5 hb') (cell_below a6 hb'))))))
            have b5 := Below.step hbr hb'
            clear a1 a2 a4 a5 a6 hb5 hb' hbr k0 k1
            go_wp2
            go_roundw
            case rel => exact ⟨k + 1, by omega, by go_num, b5⟩
            case measure => simp [intOf]; omega
        · have hlt' : ¬ (k : Int) < (n : Int) := by omega
          have hr := h4.below hbr
          have bb := Below.step (Below.step b2 b4) hbr
          clear hR4 c40 c41 r4 h4 b4 hbr m2 r2 h2 c20 c21
          obtain ⟨L, eL0⟩ : ∃ L, dLog cd = L := ⟨_, rfl⟩
          have EL := hide eL0
          have hL : Byt L ∧ L.length ≤ 10000 := by rw [← eL0]; exact dLog_ok (unhide HBt)
          have HLB2 := hide hL.1
          have hl2 := hL.2
          have hbnd := rl_bounds hL.1
          have henc := enc_rl hL.1
          obtain ⟨rs, ers⟩ : ∃ rs, rl L = rs := ⟨_, rfl⟩
          rw [ers] at hbnd henc
          obtain ⟨T2, eT2⟩ : ∃ T2, tkR rs = T2 := ⟨_, rfl⟩
          obtain ⟨K, eK⟩ : ∃ K, rs.length = K := ⟨_, rfl⟩
          obtain ⟨ln, eln⟩ : ∃ ln, L.length = ln := ⟨_, rfl⟩
          rw [eT2] at henc
          have hT2 : T2 ≤ ln := by rw [← eT2, ← eln]; exact hbnd.1
          rw [eln] at hl2
          have hKT : K ≤ T2 := by rw [← eK, ← eT2]; exact len_tk rs
          have HBN := hide hbnd.2
          have HENC := hide henc
          have ELN := hide eln
          have EK := hide eK
          have ET2 := hide eT2
          have hrl2 : rl L = rs := ers
          have HR2 := hide hrl2
          clear eL0 hL hbnd henc hrl2
          go_wp2_with fail
          refine (drawLog_any p c code _ hr (unhide HB) hl hc cd ecd L EL).mono ?_
          rintro e w5 ⟨p5, c5, rfl, r5, hc5, hm5, ha5, hb5⟩
          rw [eln] at r5 hc5 ⊢
          have bb5 := Below.step bb hb5
          have hr5 := hr.below hb5
          go_wp2_with fail
          refine (specReadLog ln c5 p5 L _ r5 (unhide HLB2) ELN (by omega) hc5 hm5).mono ?_
          rintro e w6 ⟨p6, c6, vs6, rfl, o6, hb6⟩
          rw [ers, eK] at o6 ⊢
          rw [eT2]
          have bb6 := Below.step bb5 hb6
          have hr6 := hr5.below hb6
          have r6 := r5.below hb6
          clear o6 hb5 hb6 r5 hr hr5 bb bb5
          go_wp2_with fail
          refine (drawLog_any p c code _ hr6 (unhide HB) hl hc cd ecd L EL).mono ?_
          rintro e w7 ⟨p7, c7, rfl, r7, hc7, hm7, ha7, hb7⟩
          rw [eln] at r7 hc7 ⊢
          have bb7 := Below.step bb6 hb7
          have r67 := r6.below hb7
          go_wp2_with fail
          refine (implReadLog ln c7 p7 L _ r7 (unhide HLB2) (unhide ELN) (by omega) hc7 hm7 ha7).mono ?_
          rintro e w8 ⟨p8, c8, vs8, rfl, o8, hb8⟩
          rw [unhide HR2, unhide EK] at o8 ⊢
          rw [unhide ET2]
          have bb8 := Below.step bb7 hb8
          have r8 := r67.below hb8
          have hneK : ((K : Int) != (K : Int)) = false := by simp
          have hneT : ((T2 : Int) != (T2 : Int)) = false := by simp
          have z8 := bb8.size
          clear hb7 hb8 r6 r67 r7 hr6 bb6 bb7
          go_wp2_with fail
          go_loopw [19, 20] (fun lv i wr => ∃ (k N : Nat) (lg : List Int) (pv : Option Addr) (cv : Nat), k ≤ K ∧ i = .int .i64 k ∧ lv = .slice pv N cv ∧ Hid (lg.length = N) ∧ N ≤ T2 ∧ Hid (lg = enc (rs.take k)) ∧ Own w8.heap.size wr (.slice pv N cv) lg ∧ Below w8.heap.size w8 wr) (fun _ i _ => K - (intOf i).toNat)
          case atStart => exact ⟨0, 0, [], none, 0, Nat.zero_le _, rfl, rfl, rfl, by omega, (by show _ = _; simp [enc]), World.ownsRow_nil _ _ _ _, Below.refl _ _⟩
          case round =>
            obtain ⟨k3, N3, lg3, pv3, cv3, hk3, rfl, rfl, eN3, hN3, eL3, ho3, hb3⟩ := hrel
            have z3 := hb3.size
            by_cases hlt3 : k3 < K
            · obtain ⟨r, hget⟩ : ∃ r, rs[k3]? = some r := ⟨_, List.getElem?_eq_getElem (by rw [unhide EK]; exact hlt3)⟩
              have hgb := unhide HBN r (List.mem_of_getElem? hget)
              obtain ⟨g3, q3, d3, rfl, a1, a2, a3⟩ := OwnR.at (OwnR.below o8 hb3) k3 _ hget
              obtain ⟨s3, b3⟩ := r
              dsimp only at a1 a2 a3 hgb
              obtain ⟨n3, en3⟩ : ∃ n3, b3.length = n3 := ⟨_, rfl⟩
              rw [en3] at a2 a3 hgb
              obtain ⟨hgl, hgB, hg0, hg1⟩ := hgb
              have HG := hide hgB
              have EN3 := hide en3
              have hlti3 : (k3 : Int) < (K : Int) := by omega
              have ELR : Hid ((recB s3 b3).length = n3 + 14) := by show _ = _; rw [recB_length, en3]
              have hst := enc_step hget
              have htk : N3 + (n3 + 14) ≤ T2 := by
                have h1 : (enc (rs.take (k3 + 1))).length ≤ (enc rs).length := by
                  conv => rhs; rw [← List.take_append_drop (k3 + 1) rs, enc_append, List.length_append]
                  omega
                rw [hst, List.length_append, ← unhide eL3, unhide eN3, unhide ELR, enc_length, unhide ET2] at h1
                exact h1
              have HST := hide hst
              clear hst hgB en3
              go_wp2_with fail
              refine (implEncRec s3 q3 d3 n3 b3 EN3 _ a3.rd (unhide HG) hgl hg0 hg1).mono ?_
              rintro e w9 ⟨p9, c9, rfl, o9, hb9⟩
              have ho9 := Own.below ho3 hb9
              have bb9 := Below.step hb3 hb9
              have r9 := o9.rd
              have z9 := bb9.size
              have EL9 : Hid ((lg3 ++ recB s3 b3).length = N3 + (n3 + 14)) := by show _ = _; rw [List.length_append, unhide eN3, unhide ELR]
              have eLG9 : Hid (lg3 ++ recB s3 b3 = enc (rs.take (k3 + 1))) := by show _ = _; rw [unhide HST, unhide eL3]
              clear hb9 o9 ho3 hb3 a1 a2 a3
              go_wp2_with (at_builtin; refine wpList_append_rdn rfl _ _ rfl w8.heap.size (.slice pv3 N3 cv3) lg3 (recB s3 b3) (lg3 ++ recB s3 b3) (by show _ = _; rfl) p9 c9 (n3 + 14) ELR rfl rfl ho9 r9 (by rw [unhide eN3, unhide ELR]; omega) (by omega) ?_)
              intro p10 c10 w10 ho10 hg10
              have e10 : lg3.length + (recB s3 b3).length = N3 + (n3 + 14) := by rw [unhide eN3, unhide ELR]
              first | rw [e10] at ho10 ⊢ | rw [unhide EL9] at ho10 ⊢
              have b10 : Below w8.heap.size w8 w10 := below_grown bb9 hg10 ho9 (Nat.le_refl _) (by omega)
              clear e10 hg10 ho9 r9 bb9
              go_wp2
              go_roundw
              case rel => exact ⟨k3 + 1, N3 + (n3 + 14), lg3 ++ recB s3 b3, p10, c10, by omega, by go_num, rfl, EL9, htk, eLG9, ho10, b10⟩
              case measure => simp [intOf]; omega
            · have hlt3' : ¬ (k3 : Int) < (K : Int) := by omega
              have eEnd : lg3 = L.take T2 := by
                rw [unhide eL3, List.take_of_length_le (by rw [unhide EK]; omega)]
                exact unhide HENC
              have eT3 : (L.take T2).length = T2 := by rw [List.length_take, unhide ELN]; omega
              have eNT : N3 = T2 := by rw [← unhide eN3, eEnd, eT3]
              have r3 := Rd.pre (r8.below hb3) (unhide ELN) T2 hT2
              have hT2c : (T2 : Int) ≤ (c5 : Int) := by omega
              have hmxT : max (T2 : Int) 0 = (T2 : Int) := by omega
              have h3r := ho3.rd
              rw [eEnd, eNT] at h3r
              subst eNT
              have ET3 := hide eT3
              have BB := Below.step bb8 hb3
              clear ho3 eEnd eT3 hb3
              go_wp2_with fail
              refine (sameB_same2 _ _ _ _ _ (L.take N3) ET3 _ h3r r3 (by omega)).mono ?_
              rintro e w11 ⟨rfl, hb11⟩
              go_wp2
              go_ret
              exact ⟨rfl, Below.step BB hb11⟩
end Go.Proofs.Ytipeflnkcjkoeaa
