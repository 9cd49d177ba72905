import Derived.Test.YtpbppdeleijhkaaGreatDoorVM3
namespace Go.Proofs.YtpbppdeleijhkaaGreatDoor
open Go.ChangeShapes Go.WideShapes Go.ChangeAt Go.RowKit Go.Maps
set_option linter.unusedVariables false
set_option linter.unusedSimpArgs false
set_option maxRecDepth 100000

theorem NodL.step {w0 w w1 w2 : World} {bn : Nat} {ns : List Nod} {NB HB UB : List Nat} (h : NodL w0 w bn ns NB HB UB) (nd : Nod) (g hb ub : Nat) (hg : w.grownBy w1 none) (hgn : w.heap.size ≤ g) (hhn : w.heap.size ≤ hb) (hun : w.heap.size ≤ ub) (hne : hb ≠ ub) (hw : w0.heap.size ≤ w.heap.size) (V : Value) (hV : Rd w0 V nd.value)
    (hbk : w1.heap[g]? = some (.cells #[V, .int .u64 nd.owner, .int .i64 nd.mode, .map (some hb), .int .u64 nd.epoch, .int .u64 nd.gen, .map (some ub)] 145))
    {D1 D2 : DataW Unit} (hH : w1.ownsMap Tryz.prog 23 unitElem hb nd.holders.length D1) (hHs : SetTo D1 nd.holders) (hU : w1.ownsMap Tryz.prog 23 unitElem ub nd.watchers.length D2) (hUs : SetTo D2 nd.watchers)
    (hid : ∀ z ∈ ns, litS z.path ≠ litS nd.path) {D : DataW Unit} (hM : MapTo D (List.zipWith (fun (nd : Nod) g => (litS nd.path, g)) ns NB)) (hD : IsMap D)
    (hown : w2.ownsMap Tryz.prog 9 ptrElem bn (ns.length + 1) (D.put (litS nd.path) (.lit (.int .i64 g)))) (hg2 : w1.grownBy w2 (some bn)) : NodL w0 w2 bn (ns ++ [nd]) (NB ++ [g]) (HB ++ [hb]) (UB ++ [ub]) := by
  have hbn : bn < w.heap.size := by obtain ⟨D, hD, _⟩ := h.own; exact hD.lt
  have hlt := h.lt
  refine ⟨by simp [h.len], by simp [h.lenH], by simp [h.lenU], ⟨_, by rw [List.length_append]; exact hown, ?_⟩, fun i z g' h' u' hi hgi hhi hui => ?_, nodup_snoc h.nod (fun y hy => by have := hlt.1 y hy; omega), ?_⟩
  · rw [zip_snoc _ h.len]
    refine hM.put hD (by trivial) (fun p hp => ?_) g
    obtain ⟨i, x, y, hx, hy, rfl⟩ := zip_mem hp
    exact fun e => hid x (List.mem_of_getElem? hx) e
  · rcases getElem?_snoc hi with hi' | ⟨e1, rfl⟩
    · have hl := (List.getElem?_eq_some_iff.1 hi').1
      rw [List.getElem?_append_left (by rw [h.len]; exact hl)] at hgi
      rw [List.getElem?_append_left (by rw [h.lenH]; exact hl)] at hhi
      rw [List.getElem?_append_left (by rw [h.lenU]; exact hl)] at hui
      obtain ⟨a1, a2, a3, ⟨V', a4, a5⟩, ⟨E1, a6, a7⟩, ⟨E2, a8, a9⟩⟩ := h.blk i z g' h' u' hi' hgi hhi hui
      have hdis := h.dis
      rw [List.nodup_cons] at hdis
      have n1 : some h' ≠ some bn := by
        intro e
        cases e
        exact hdis.1 (List.mem_append.2 (.inl (List.mem_of_getElem? hhi)))
      have n2 : some u' ≠ some bn := by
        intro e
        cases e
        exact hdis.1 (List.mem_append.2 (.inr (List.mem_of_getElem? hui)))
      have b1 := (hg.block g' (heap_lt a4) (by simp)).trans a4
      refine ⟨a1, a2, a3, ⟨V', (hg2.block g' (heap_lt b1) ?_).trans b1, a5⟩, ⟨E1, (a6.kept hg (by simp)).kept hg2 n1, a7⟩, ⟨E2, (a8.kept hg (by simp)).kept hg2 n2, a9⟩⟩
      obtain ⟨D', hD', _⟩ := h.own
      have := ownsMap_cells hD' a4
      simpa using this
    · rw [e1, ← h.len, List.getElem?_append_right (Nat.le_refl _)] at hgi
      rw [e1, ← h.lenH, List.getElem?_append_right (Nat.le_refl _)] at hhi
      rw [e1, ← h.lenU, List.getElem?_append_right (Nat.le_refl _)] at hui
      simp at hgi hhi hui
      subst hgi hhi hui
      exact ⟨by omega, by omega, by omega, ⟨V, (hg2.block _ (heap_lt hbk) (by simp; omega)).trans hbk, hV⟩, ⟨D1, hH.kept hg2 (by simp; omega), hHs⟩, ⟨D2, hU.kept hg2 (by simp; omega), hUs⟩⟩
  · have hp : ((HB ++ [hb]) ++ (UB ++ [ub])).Perm ((HB ++ UB) ++ [hb, ub]) := by
      rw [List.append_assoc, List.append_assoc]
      exact List.Perm.append_left HB (show (hb :: (UB ++ [ub])).Perm (UB ++ hb :: [ub]) from List.perm_middle.symm)
    have hq : (bn :: ((HB ++ [hb]) ++ (UB ++ [ub]))).Perm ((bn :: (HB ++ UB)) ++ [hb, ub]) := hp.cons bn
    rw [hq.nodup_iff, List.nodup_append]
    refine ⟨h.dis, by simp [hne], fun a ha c hc => ?_⟩
    have hal : a < w.heap.size := by
      rcases List.mem_cons.1 ha with rfl | ha
      · exact hbn
      · exact hlt.2 a ha
    simp at hc
    rcases hc with rfl | rfl <;> omega

theorem step_mapUpdate {P : Program} {w : World} {ops : Array Oper} {o : Oper} {a : Act} {K : Act → World → Prop} {Q : Exit → Act → World → Prop} {E : Prop} (hgd : o.guard = none) (m x v : Operand) (t : TypeId) (hop : o.op = Op.mapUpdate t m x v)
    (k e : TypeId) (KK : Keyed P k) (ht : P.underlying t = some (.map k e)) (R : Value → Option (DataW Unit × List MemPlace)) (b n : Nat) (D : DataW Unit)
    (hm : a.eval m = .map (some b)) (hown : w.ownsMap P k R b n D) (hn : n < maxLen) (key val : Value) (kl : Lit) (hx : a.eval x = key) (hv : a.eval v = val) (hkey : keyOf P k key = some kl)
    (d : DataW Unit) (ps : List MemPlace) (hval : R val = some (d, ps)) (hK : ∀ w', w'.ownsMap P k R b (n + 1) (D.put kl d) → w.grownBy w' (some b) → K (a.put o.dst undef) w') :
    if Region.wanted o (yielded ops a.tmps) = true then Oper.wp P o a w K Q else E := by
  have hw : Region.wanted o (yielded ops a.tmps) = true := by simp [Region.wanted, hgd]
  rw [if_pos hw]
  obtain ⟨w', hrun, r1, r2⟩ := hown.update KK ht hn hkey hval
  unfold Oper.wp
  simp [execOp, hop, hm, hx, hv, hrun, Result.andThen]
  exact hK w' r1 r2
theorem step_box {P : Program} {w : World} {ops : Array Oper} {o : Oper} {a : Act} {K : Act → World → Prop} {Q : Exit → Act → World → Prop} {E : Prop} (hgd : o.guard = none) (t : TypeId) (x : Operand) (hop : o.op = Op.box t x) (v : Value) (hx : a.eval x = v) (r : Value) (w' : World) (hrun : (Instr.box t v).run P w = .ok r w')
    (hK : K (a.put o.dst r) w') : if Region.wanted o (yielded ops a.tmps) = true then Oper.wp P o a w K Q else E := by
  have hw : Region.wanted o (yielded ops a.tmps) = true := by simp [Region.wanted, hgd]
  rw [if_pos hw]
  unfold Oper.wp
  simp [execOp, hop, hx, hrun, Result.andThen]
  exact hK
theorem run_boxNode (w : World) (V : Value) (ow mo ep ge : Int) (h u : Nat) : (Instr.box 145 (.agg #[V, .int .u64 ow, .int .i64 mo, .map (some h), .int .u64 ep, .int .u64 ge, .map (some u)])).run Tryz.prog w = .ok (.pointer (some ⟨w.heap.size, 0, none⟩)) (w.alloc (.cells #[V, .int .u64 ow, .int .i64 mo, .map (some h), .int .u64 ep, .int .u64 ge, .map (some u)] 145)) := by
  go_simp
end Go.Proofs.YtpbppdeleijhkaaGreatDoor
