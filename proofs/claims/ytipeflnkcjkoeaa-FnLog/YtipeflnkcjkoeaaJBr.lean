import Derived.Test.YtipeflnkcjkoeaaJIt
import Derived.OrdersHeld
import Derived.Deep.RegionHeld3
namespace Go.Proofs.Ytipeflnkcjkoeaa
open Go.ChangeShapes Go.WideShapes Go.ChangeAt Go.RowKit Go.Shelf
set_option linter.unusedVariables false
set_option linter.unusedSimpArgs false

/-- an operation that is no defer statement is carried out in a round as everywhere -/
theorem oper_inRound {l n : Nat} {P : Program} {o : Oper} {a : Act} {w : World} {K : Act → World → Prop} {Q : Exit → Act → World → Prop} (hd : ∀ c, o.op ≠ .defer c) (h : o.wp P a w K Q) : o.wpIn (Fence.wide.inRound l) n P a w K Q := by
  refine ⟨fun _ _ => trivial, ?_⟩
  have e : o.semAt (Fence.wide.inRound l).round a.eval = execOp a.eval o := Oper.semAt_eq _ _ _ hd
  rw [e]
  unfold Oper.wp at h
  generalize (execOp a.eval o).run P w = r at *
  cases r with
  | ok x w' =>
    cases x <;> simp only [Oper.uponIn, Oper.upon] at h ⊢
    case value => exact h
    case skip => exact h
    case defer => exact h
    case enter f args => exact ⟨fun h0 => (by cases h0), CallsIn.inRound l (callsIn_wide.2 h)⟩
    case row row args => exact ⟨fun h0 => (by cases h0), fun c cs _ => let ⟨v, w2, r, s⟩ := h c cs; ⟨v, w2, r, stepsIn_wide.2 s⟩⟩
  | halt x w' => cases x <;> simp only [Oper.uponIn, Oper.upon] at h ⊢ <;> exact h

/-- no operation asks: all that may be asked is what it yields -/
theorem wpAnyIn_of_any {l n : Nat} {P : Program} {md : Region.Mode} {ops : Array Oper} {Q : Exit → Act → World → Prop} (hd : ∀ o ∈ ops.toList, ∀ c, o.op ≠ .defer c) (hl : ¬ LetsOut Q) : ∀ (fuel : Nat) (listed : Array Bool) (a : Act) (w : World),
    wpAny P md ops Q fuel listed a w → wpAnyIn (Fence.wide.inRound l) n P md ops Q fuel listed a w
  | 0, _, _, _, h => h
  | fuel + 1, listed, a, w, h => by
    refine ⟨h.1, fun i hi => ?_⟩
    have h1 := h.2 i hi
    unfold wpOp at h1
    unfold wpOpIn
    cases ho : ops[i]? with
    | none =>
      simp only [ho] at h1 ⊢
      exact wpAnyIn_of_any hd hl fuel _ a w h1
    | some o =>
      simp only [ho] at h1 ⊢
      split
      · rename_i hw
        rw [if_pos hw] at h1
        rcases h1 with h1 | ⟨_, h1⟩
        · exact Oper.wpIn_mono (fun a w h => wpAnyIn_of_any hd hl fuel _ a w h) (oper_inRound (hd o (by rw [Array.mem_toList_iff]; exact Array.mem_of_getElem? ho)) h1)
        · exact absurd h1 hl
      · rename_i hw
        rw [if_neg hw] at h1
        exact ⟨fun _ _ => trivial, wpAnyIn_of_any hd hl fuel _ _ w h1⟩

def noDefer (ops : Array Oper) : Bool := ops.toList.all fun o => match o.op with | .defer _ => false | _ => true
theorem noDefer_spec {ops : Array Oper} (h : noDefer ops = true) : ∀ o ∈ ops.toList, ∀ c, o.op ≠ .defer c := by
  intro o ho c e
  have := List.all_eq_true.1 h o ho
  rw [e] at this
  cases this

/-- a region that draws its order, in a round -/
theorem wpIn_region_round {l n : Nat} {P : Program} (S : World → Prop) {id : Nat} {ops : Array Oper} {Q : Exit → Act → World → Prop} {a : Act} {w : World} (hm : P.follows .mixedOrders = true) (hd : noDefer ops = true) (hl : ¬ LetsOut Q)
    (hS : S w.drew) (h : S w.drew → wpAnyH P .any ops Q S ops.size (Array.replicate ops.size false) a w.drew) : (Code.region id ops true).wpIn (Fence.wide.inRound l) n P Q a w :=
  wpIn_region_any hm (wpAnyIn_of_any (noDefer_spec hd) hl _ _ _ _ (wpAny_of_held _ _ _ _ (h hS)))

/-- what has been yielded and follows -/
def okN : Option Int → Int → Bool
  | none, _ => true
  | some t, s => decide (t ≠ 18446744073709551615) && decide (s = t + 1)
def fol : Option Int → List (Option R1) → List R1
  | _, [] => []
  | _, none :: _ => []
  | t, some r :: rest => if okN t r.1 then r :: fol (some r.1) rest else []
def lastS (rs : List R1) : Option Int := rs.getLast?.map (·.1)
def tkR : List R1 → Nat
  | [] => 0
  | r :: rs => r.2.length + 14 + tkR rs
theorem tkR_append (a b : List R1) : tkR (a ++ b) = tkR a + tkR b := by induction a with | nil => simp [tkR] | cons r a ih => simp [tkR, ih]; omega
theorem lastS_snoc (rs : List R1) (r : R1) : lastS (rs ++ [r]) = some r.1 := by simp [lastS]

set_option maxHeartbeats 400000 in
theorem follows_any (s t : Int) (w : World) (s0 : 0 ≤ s) (s1 : s < 18446744073709551616) (t0 : 0 ≤ t) (t1 : t < 18446744073709551616) :
    Calls Try.prog 45 #[.int .u64 s, .int .u64 t] w fun e w' => e = .returned (.bool (okN (some t) s)) ∧ w' = w := by
  by_cases h : t = 18446744073709551615
  · have e : okN (some t) s = false := by simp [okN, h]
    rw [e]
    have hb : (t != 18446744073709551615) = false := by simp [h]
    clear e
    subst h
    go_enter Try.func45, Try.ntmps45
    go_wp2
    go_ret
    exact ⟨rfl, rfl⟩
  · have e : okN (some t) s = decide (s = t + 1) := by simp [okN, h]
    rw [e]
    have hb : (t != 18446744073709551615) = true := by simp [h]
    have hw : IntKind.u64.wrap (t + 1) = t + 1 := u64_wrap_id _ (by omega) (by omega)
    by_cases hs : s = t + 1
    · have h2 : (s == t + 1) = true := by simp [hs]
      have h3 : decide (s = t + 1) = true := by simp [hs]
      rw [h3]
      clear e h hs h3
      go_enter Try.func45, Try.ntmps45
      go_wp2
      go_ret
      exact ⟨rfl, rfl⟩
    · have h2 : (s == t + 1) = false := by simp [hs]
      have h3 : decide (s = t + 1) = false := by simp [hs]
      rw [h3]
      clear e h hs h3
      go_enter Try.func45, Try.ntmps45
      go_wp2
      go_ret
      exact ⟨rfl, rfl⟩

theorem Try.infoRec : (Try.prog.info? 38).map (fun i => (i.zero, i.size, i.bytes)) = some (some (.agg #[.int .u64 0, .slice none 0 0]), 2, 32) := by kernel_rfl

/-- a record appended to a row of records of the call's own -/
theorem appendedR {B : Nat} {w w' : World} {v v' u : Value} {rs : List R1} {vs : List Value} {r : R1} (h : OwnR B w v rs vs) (hu : Own B w u r.2) (hap : ∀ u' ∈ vs, Apart u' u) (h1 : w'.ownsRow B 38 2 v' (rs.length + 1) (recCells rs vs ++ [.int .u64 r.1, u])) (hg : w.grownBy w' v.ownBlock) : OwnR B w' v' (rs ++ [r]) (vs ++ [u]) := by
  have kp : ∀ {x : Value} {m : List Int}, Own B w x m → Own B w' x m := fun {x m} hx => Own.keptBy (vs := [v]) hx (Kept.of_grown hg (by simp)) (fun y hy b e1 e2 => by simp only [List.mem_singleton] at hy; subst hy; exact h.apart hx b e2 e1)
  refine ⟨by simp [h.len], ?_, ?_, ?_⟩
  · rw [recCells_snoc rs vs r u h.len, List.length_append]; exact h1
  · intro i r' x hr hx
    by_cases hi : i < rs.length
    · rw [List.getElem?_append_left hi] at hr
      rw [List.getElem?_append_left (by rw [h.len]; exact hi)] at hx
      exact kp (h.own i r' x hr hx)
    · have hi' : i = rs.length := by
        have := (List.getElem?_eq_some_iff.1 hr).1
        simp at this
        omega
      subst hi'
      rw [List.getElem?_append_right (Nat.le_refl _), Nat.sub_self] at hr
      rw [List.getElem?_append_right (by rw [h.len]; exact Nat.le_refl _), h.len, Nat.sub_self] at hx
      simp at hr hx
      subst hr hx
      exact kp hu
  · rw [List.pairwise_append]
    exact ⟨h.ap, List.pairwise_singleton _ _, fun a ha b hb => by simp only [List.mem_singleton] at hb; subst hb; exact hap a ha⟩
theorem news_rec {w : World} {g : Nat} {s : Int} {u : Value} (hc0 : w.cell? ⟨g, 0, none⟩ = some (.int .u64 s)) (hc1 : w.cell? ⟨g, 1, none⟩ = some u) : ∀ j x, ([Value.int .u64 s, u] : List Value)[j]? = some x → w.cell? ((⟨g, 0, none⟩ : Addr).add j) = some x := by
  intro j x hj
  match j, hj with
  | 0, hj => simp at hj; subst hj; simpa [Addr.add_lit] using hc0
  | 1, hj => simp at hj; subst hj; simpa [Addr.add_lit] using hc1
  | j + 2, hj => simp at hj
theorem step_appendR {w : World} {ops : Array Oper} {o : Oper} {a : Act} {K : Act → World → Prop} {Q : Exit → Act → World → Prop} {E : Prop} (hgd : o.guard = none) (s x : Operand)
    (ho : o.op = .call { callee := .builtin .append, args := #[s, x], argTypes := #[43, 43] })
    (B : Nat) (v : Value) (rs : List R1) (vs : List Value) (n : Nat) (en : Hid (rs.length = n)) (g : Nat) (hs : a.eval s = v) (hx : a.eval x = .slice (some ⟨g, 0, none⟩) 1 1) (h : OwnR B w v rs vs) (r : R1) (u : Value) (hc0 : w.cell? ⟨g, 0, none⟩ = some (.int .u64 r.1)) (hc1 : w.cell? ⟨g, 1, none⟩ = some u) (hu : Own B w u r.2) (hap : ∀ u' ∈ vs, Apart u' u)
    (hl : n ≤ 2097152) (hB : B ≤ w.heap.size)
    (hK : ∀ p' c' w', OwnR B w' (.slice p' (n + 1) c') (rs ++ [r]) (vs ++ [u]) → w.grownBy w' v.ownBlock → K (a.put o.dst (.slice p' (n + 1) c')) w') :
    if Region.wanted o (yielded ops a.tmps) = true then Oper.wp Try.prog o a w K Q else E := by
  have hw : Region.wanted o (yielded ops a.tmps) = true := by simp [Region.wanted, hgd]
  rw [if_pos hw]
  obtain ⟨i, hi, hz0, hz1, hz2⟩ := info_parts Try.infoRec
  have e := unhide en
  subst e
  obtain ⟨pu, cu, eu⟩ := hu.form
  refine wp_append_own w s x 43 ho B 38 i _ 2 32 Try.underlying43 hi hz0 hz1 hz2 rfl (by decide) v _ _ hs h.row ⟨g, 0, none⟩ 1 1 [.int .u64 r.1, u] hx rfl (news_rec hc0 hc1) ?_ (by unfold maxLen; omega) (by omega) hB ?_
  · intro y hy
    simp only [List.mem_cons, List.not_mem_nil, or_false] at hy
    rcases hy with rfl | rfl
    · rfl
    · rw [eu]; rfl
  · intro v' w' h1 h2 _
    have hR := appendedR h hu hap h1 h2
    obtain ⟨p', c', rfl⟩ := hR.form
    have := hK p' c' w'
    rw [List.length_append] at hR
    exact (by simpa using this hR h2)

theorem step_call2w {P : Program} {w : World} {ops : Array Oper} {o : Oper} {a : Act} {K : Act → World → Prop} {Q : Exit → Act → World → Prop} {E : Prop} {R : Ending → World → Prop} (hw : Region.wanted o (yielded ops a.tmps) = true) (f : FuncId) (x1 x2 : Operand) (tys : Array TypeId)
    (ho : o.op = .call { callee := .value (.func f), args := #[x1, x2], argTypes := tys }) (v1 v2 : Value) (h1 : a.eval x1 = v1) (h2 : a.eval x2 = v2) (hcf : ∀ vs, (callFunc f vs).run P w = .ok (.enter f vs) w) (hc : Calls P f #[v1, v2] w R) (hR : ∀ e w', R e w' → ∃ v, e = .returned v ∧ K (a.put o.dst v) w') :
    if Region.wanted o (yielded ops a.tmps) = true then Oper.wp P o a w K Q else E := by
  rw [if_pos hw]
  have hrun : (execOp a.eval o).run P w = .ok (.enter f #[v1, v2]) w := by
    subst h1 h2
    unfold execOp
    simp [go_sem, ho, resolve, invoke, hcf]
  show o.upon P a K Q _
  rw [hrun, Oper.upon_enter]
  refine hc.mono ?_
  intro e w' h
  obtain ⟨v, rfl, hk⟩ := hR e w' h
  exact hk
theorem OwnR.lt {B : Nat} {w : World} {v : Value} {rs : List R1} {vs : List Value} (h : OwnR B w v rs vs) : ∀ u ∈ vs, ∀ b, u.ownBlock = some b → b < w.heap.size := by
  intro u hu b e
  obtain ⟨i, hi⟩ := List.getElem?_of_mem hu
  obtain ⟨r, hr⟩ : ∃ r, rs[i]? = some r := ⟨_, List.getElem?_eq_getElem (by rw [← h.len]; exact (List.getElem?_eq_some_iff.1 hi).1)⟩
  exact (Own.lt (h.own i r u hr hi) b e).2
theorem OwnR.rowLt {B : Nat} {w : World} {v : Value} {rs : List R1} {vs : List Value} (h : OwnR B w v rs vs) : ∀ b, v.ownBlock = some b → B ≤ b ∧ b < w.heap.size := World.ownsRow.lt h.row
theorem OwnR.rowCells {B : Nat} {w : World} {v : Value} {rs : List R1} {vs : List Value} (h : OwnR B w v rs vs) : ∀ (j : Nat) (o : Obj), v.ownBlock = some j → w.heap[j]? = some o → o.isCells = true := by
  intro j o e ho
  rcases h.row.2 with ⟨rfl, _⟩ | ⟨g, cap, cur, rfl, _, hg, _⟩
  · simp [Value.ownBlock] at e
  · simp [Value.ownBlock] at e
    subst e
    rw [hg] at ho
    cases ho
    rfl

theorem wpList_appendR {w : World} {ops : Array Oper} {rest : List Oper} {o : Oper} {a : Act} {Q : Exit → Act → World → Prop} (hgd : o.guard = none) (s x : Operand)
    (ho : o.op = .call { callee := .builtin .append, args := #[s, x], argTypes := #[43, 43] })
    (B : Nat) (v : Value) (rs : List R1) (vs : List Value) (n : Nat) (en : Hid (rs.length = n)) (g : Nat) (hs : a.eval s = v) (hx : a.eval x = .slice (some ⟨g, 0, none⟩) 1 1) (h : OwnR B w v rs vs) (r : R1) (u : Value) (hc0 : w.cell? ⟨g, 0, none⟩ = some (.int .u64 r.1)) (hc1 : w.cell? ⟨g, 1, none⟩ = some u) (hu : Own B w u r.2) (hap : ∀ u' ∈ vs, Apart u' u)
    (hl : n ≤ 2097152) (hB : B ≤ w.heap.size)
    (hK : ∀ p' c' w', OwnR B w' (.slice p' (n + 1) c') (rs ++ [r]) (vs ++ [u]) → w.grownBy w' v.ownBlock → wpList Try.prog ops Q rest (a.put o.dst (.slice p' (n + 1) c')) w') : wpList Try.prog ops Q (o :: rest) a w := by
  obtain ⟨i, hi, hz0, hz1, hz2⟩ := info_parts Try.infoRec
  have e := unhide en
  subst e
  obtain ⟨pu, cu, eu⟩ := hu.form
  refine wpList_append_own w hgd s x 43 ho B 38 i _ 2 32 Try.underlying43 hi hz0 hz1 hz2 rfl (by decide) v _ _ hs h.row ⟨g, 0, none⟩ 1 1 [.int .u64 r.1, u] hx rfl (news_rec hc0 hc1) ?_ (by unfold maxLen; omega) (by omega) hB ?_
  · intro y hy
    simp only [List.mem_cons, List.not_mem_nil, or_false] at hy
    rcases hy with rfl | rfl
    · rfl
    · rw [eu]; rfl
  · intro v' w' h1 h2 _
    have hR := appendedR h hu hap h1 h2
    obtain ⟨p', c', rfl⟩ := hR.form
    have := hK p' c' w'
    rw [List.length_append] at hR
    exact (by simpa using this hR h2)

theorem KeepsOthers.of_below {W W' : World} (h : Below W.heap.size W W') : KeepsOthers W W' := ⟨h.size, fun k o hk _ => (h.block k (Array.getElem?_eq_some_iff.1 hk).1).trans hk⟩

theorem Own.keptNC {B : Nat} {W W' : World} {v : Value} {l : List Int} {row : Option Nat} (h : Own B W v l) (hg : W.grownBy W' row) (hr : ∀ r, row = some r → ∃ o : Obj, W.heap[r]? = some o ∧ o.isCells = false) : Own B W' v l := by
  refine World.ownsRow.kept h hg ?_
  rcases h.2 with ⟨rfl, _⟩ | ⟨g, cap, cur, rfl, _, hgg, _⟩
  · exact .inl rfl
  · refine .inr fun e => ?_
    obtain ⟨o, ho, hc⟩ := hr g e.symm
    rw [hgg] at ho
    cases ho
    cases hc
theorem OwnR.keptNC {B : Nat} {W W' : World} {v : Value} {rs : List R1} {vs : List Value} {row : Option Nat} (h : OwnR B W v rs vs) (hg : W.grownBy W' row) (hr : ∀ r, row = some r → ∃ o : Obj, W.heap[r]? = some o ∧ o.isCells = false) : OwnR B W' v rs vs := by
  refine ⟨h.len, World.ownsRow.kept h.row hg ?_, fun i r u h1 h2 => Own.keptNC (h.own i r u h1 h2) hg hr, h.ap⟩
  rcases h.row.2 with ⟨rfl, _⟩ | ⟨g, cap, cur, rfl, _, hgg, _⟩
  · exact .inl rfl
  · refine .inr fun e => ?_
    obtain ⟨o, ho, hc⟩ := hr g e.symm
    rw [hgg] at ho
    cases ho
    cases hc
/-- a store below the base leaves the row as it is -/
theorem OwnR.set {B : Nat} {w : World} {v : Value} {rs : List R1} {vs : List Value} (h : OwnR B w v rs vs) {a : Addr} (ha : a.block < B) (u : Value) : OwnR B (w.setCell a u) v rs vs :=
  ⟨h.len, ownsRow_setCell_below h.row ha u, fun i r x h1 h2 => Own.set (h.own i r x h1 h2) ha u, h.ap⟩
end Go.Proofs.Ytipeflnkcjkoeaa
