import Derived.Test.YtipeflnkcjkoeaaJBr
import Derived.Maps.AppendAt
import Derived.Scope
import Derived.WalkMore
namespace Go.Proofs.Ytipeflnkcjkoeaa
open Go.ChangeShapes Go.WideShapes Go.ChangeAt Go.RowKit Go.Shelf
set_option linter.unusedVariables false
set_option linter.unusedSimpArgs false
attribute [local go_sem] Oper.semAt_some

/-- what ReadLog hands back -/
def RlRes (w : World) (rs : List R1) (e : Ending) (w' : World) : Prop :=
  ∃ p c vs, e = .returned (.tuple #[.slice p rs.length c, .int .i64 (tkR rs : Nat)]) ∧ OwnR w.heap.size w' (.slice p rs.length c) rs vs ∧ Below w.heap.size w w'
/-- the records of a log -/
def rl (l : List Int) : List R1 := fol none (yl (l.length + 1) l)

abbrev keys {w : World} (pre : List (Itw w)) : List (Option R1) := pre.map fun x => key x.1

/-- what lies between two rounds: the two boxes, the records -/
def InvD (w W : World) (rs : List R1) (v : Value) (vs : List Value) : Prop :=
  W.cell? ⟨w.heap.size, 0, none⟩ = some v ∧ W.frozen? ⟨w.heap.size, 0, none⟩ = false ∧ W.cell? ⟨w.heap.size + 1, 0, none⟩ = some (.int .i64 (tkR rs : Nat)) ∧ W.frozen? ⟨w.heap.size + 1, 0, none⟩ = false ∧ OwnR (w.heap.size + 3) W v rs vs
def Inv (w : World) (pre : List (Itw w)) (W : World) : Prop :=
  ∃ rs v vs, InvD w W rs v vs ∧ (∀ rest, fol none (keys pre ++ rest) = rs ++ fol (lastS rs) rest) ∧ (∀ x ∈ pre, x.1.z ≠ 0) ∧ rs.length = pre.length ∧ tkR rs ≤ 1014 * pre.length ∧ (∀ r ∈ rs, r.2.length ≤ 1000 ∧ 0 ≤ r.1 ∧ r.1 < 18446744073709551616)
def InvX (w : World) (c : Code) (ys : List (Itw w)) (W : World) : Prop :=
  c = .exit 0 ∧ ∃ rs v vs, InvD w W rs v vs ∧ (∀ rest, fol none (keys ys ++ rest) = rs)
theorem InvD.keptNC {w W W' : World} {rs : List R1} {v : Value} {vs : List Value} {row : Option Nat} (h : InvD w W rs v vs) (hg : W.grownBy W' row) (hr : ∀ r, row = some r → ∃ o : Obj, W.heap[r]? = some o ∧ o.isCells = false) : InvD w W' rs v vs :=
  ⟨cell_kept h.1 hg hr, (frozen_kept h.1 hg hr).trans h.2.1, cell_kept h.2.2.1 hg hr, (frozen_kept h.2.2.1 hg hr).trans h.2.2.2.1, h.2.2.2.2.keptNC hg hr⟩
theorem InvD.below {w W W' : World} {rs : List R1} {v : Value} {vs : List Value} (h : InvD w W rs v vs) (hb : Below W.heap.size W W') : InvD w W' rs v vs :=
  h.keptNC (row := none) (grown_of_below hb) (fun r e => by cases e)
theorem Inv.own (w : World) (B : Nat) : OwnFrom B (Inv w) := by
  rintro s W W' row ⟨rs, v, vs, hd, hp⟩ hg hr
  exact ⟨rs, v, vs, hd.keptNC hg (fun r e => (hr r e).2), hp⟩
theorem InvX.own (w : World) (c : Code) (B : Nat) : OwnFrom B (InvX w c) := by
  rintro s W W' row ⟨hc, rs, v, vs, hd, hp⟩ hg hr
  exact ⟨hc, rs, v, vs, hd.keptNC hg (fun r e => (hr r e).2), hp⟩
theorem Inv.below {w W W' : World} {pre : List (Itw w)} (h : Inv w pre W) (hb : Below W.heap.size W W') : Inv w pre W' := by
  obtain ⟨rs, v, vs, hd, hp⟩ := h
  exact ⟨rs, v, vs, hd.below hb, hp⟩

/-- the end of a round that goes on -/
theorem bodyEnd (w W V w9 : World) (W0s : Nat) (x : It) (hgx : Good w x) (pre : List (Itw w)) (rs : List R1) (vs : List Value) (v u : Value) (p9 : Option Addr) (c9 K : Nat) (z0 : W0s = w.heap.size + 3) (hz : W0s ≤ W.heap.size) (KV : KeepsOthers W V) (BV : Below W.heap.size W V) (hb : Below w.heap.size w V)
    (c0 : V.cell? ⟨w.heap.size, 0, none⟩ = some v) (c1 : V.frozen? ⟨w.heap.size, 0, none⟩ = false) (c2 : V.cell? ⟨w.heap.size + 1, 0, none⟩ = some (.int .i64 (tkR rs : Nat))) (c3 : V.frozen? ⟨w.heap.size + 1, 0, none⟩ = false) (ho : OwnR (w.heap.size + 3) V v rs vs)
    (hB9 : Below (w.heap.size + 3) V w9) (KO9 : KeepsOthers V w9) (hR9 : OwnR (w.heap.size + 3) w9 (.slice p9 (K + 1) c9) (rs ++ [(x.s, x.b)]) (vs ++ [u])) (eK : Hid (rs.length = K))
    (HX : Hid (x.z = x.b.length + 14 ∧ Byt x.b ∧ key x = some (x.s, x.b))) (HF : Hid ((∀ rest, fol none (keys pre ++ rest) = rs ++ fol (lastS rs) rest) ∧ (∀ y ∈ pre, y.1.z ≠ 0) ∧ K = pre.length ∧ tkR rs ≤ 1014 * pre.length ∧ (∀ r ∈ rs, r.2.length ≤ 1000 ∧ 0 ≤ r.1 ∧ r.1 < 18446744073709551616))) (HOK : Hid (okN (lastS rs) x.s = true)) (hxl : x.b.length ≤ 1000) (xs0 : 0 ≤ x.s) (xs1 : x.s < 18446744073709551616) :
    KeepsFrom W0s W ((w9.setCell ⟨w.heap.size, 0, none⟩ (.slice p9 (K + 1) c9)).setCell ⟨w.heap.size + 1, 0, none⟩ (.int .i64 ((tkR rs : Int) + (x.z : Int)))) ∧
    KpB w.heap.size (w.heap.size + 2) W ((w9.setCell ⟨w.heap.size, 0, none⟩ (.slice p9 (K + 1) c9)).setCell ⟨w.heap.size + 1, 0, none⟩ (.int .i64 ((tkR rs : Int) + (x.z : Int)))) ∧
    Inv w (pre ++ [⟨x, hgx⟩]) ((w9.setCell ⟨w.heap.size, 0, none⟩ (.slice p9 (K + 1) c9)).setCell ⟨w.heap.size + 1, 0, none⟩ (.int .i64 ((tkR rs : Int) + (x.z : Int)))) ∧
    Below w.heap.size w ((w9.setCell ⟨w.heap.size, 0, none⟩ (.slice p9 (K + 1) c9)).setCell ⟨w.heap.size + 1, 0, none⟩ (.int .i64 ((tkR rs : Int) + (x.z : Int)))) ∧ W0s ≤ ((w9.setCell ⟨w.heap.size, 0, none⟩ (.slice p9 (K + 1) c9)).setCell ⟨w.heap.size + 1, 0, none⟩ (.int .i64 ((tkR rs : Int) + (x.z : Int)))).heap.size := by
  obtain ⟨hxz, hxB, hkx⟩ := unhide HX
  obtain ⟨hfol, hnz, hrl, htk, hbl⟩ := unhide HF
  have hok := unhide HOK
  have eK' := unhide eK
  have hV3 : w.heap.size + 3 ≤ V.heap.size := by have := BV.size; omega
  have q0 := (hB9.cell (p := ⟨w.heap.size, 0, none⟩) (by show w.heap.size < _; omega)).trans c0
  have q1 := (hB9.frozen (p := ⟨w.heap.size, 0, none⟩) (by show w.heap.size < _; omega)).trans c1
  have q2 := (hB9.cell (p := ⟨w.heap.size + 1, 0, none⟩) (by show w.heap.size + 1 < _; omega)).trans c2
  have q3 := (hB9.frozen (p := ⟨w.heap.size + 1, 0, none⟩) (by show w.heap.size + 1 < _; omega)).trans c3
  have q4 := hB9.cell (p := ⟨w.heap.size + 2, 0, none⟩) (by show w.heap.size + 2 < _; omega)
  have hbW : Below w.heap.size W w9 := (BV.mono (by omega)).trans (hB9.mono (by omega))
  have hb9 : Below w.heap.size w w9 := hb.trans (hB9.mono (by omega))
  refine ⟨((KV.trans KO9).trans ((KeepsOthers.setCell _ _ _).trans (KeepsOthers.setCell _ _ _))).from _, ⟨(hbW.setCell (Nat.le_refl _) _).setCell (by simp) _, ?_⟩, ⟨rs ++ [(x.s, x.b)], .slice p9 (K + 1) c9, vs ++ [u], ⟨?_, ?_, ?_, ?_, ?_⟩, ?_, ?_, ?_, ?_, ?_⟩, (hb9.setCell (Nat.le_refl _) _).setCell (by simp) _, ?_⟩
  · rw [World.cell?_setCell_far _ _ _ _ (by simp), World.cell?_setCell_far _ _ _ _ (by simp), q4]
    exact World.cell?_of_block (a := ⟨w.heap.size + 2, 0, none⟩) (BV.block _ (by show w.heap.size + 2 < _; omega))
  · rw [World.cell?_setCell_far _ _ _ _ (by simp)]
    exact World.cell?_setCell_same' _ _ _ (by rw [q0]; rfl)
  · rw [World.frozen?_setCell, World.frozen?_setCell]; exact q1
  · have : ((tkR (rs ++ [(x.s, x.b)]) : Nat) : Int) = (tkR rs : Int) + (x.z : Int) := by rw [tkR_append]; simp [tkR]; omega
    rw [this]
    refine World.cell?_setCell_same' _ _ _ ?_
    rw [World.cell?_setCell_far _ _ _ _ (by simp), q2]; rfl
  · rw [World.frozen?_setCell, World.frozen?_setCell]; exact q3
  · exact (hR9.set (by show w.heap.size < _; omega) _).set (by show w.heap.size + 1 < _; omega) _
  · intro rest
    simp only [List.map_append, List.map_cons, List.map_nil, List.append_assoc, List.cons_append, List.nil_append]
    rw [hkx, hfol (some (x.s, x.b) :: rest), lastS_snoc]
    simp [fol, hok]
  · intro y hy
    rcases List.mem_append.1 hy with h | h
    · exact hnz y h
    · simp at h; subst h; show x.z ≠ 0; omega
  · simp; omega
  · rw [tkR_append]; simp [tkR]; omega
  · intro r hr
    rcases List.mem_append.1 hr with h | h
    · exact hbl r h
    · simp at h; subst h; exact ⟨hxl, xs0, xs1⟩
  · show W0s ≤ _
    have := hbW.size
    have := hB9.size
    simp
    omega

set_option maxRecDepth 100000 in
set_option maxHeartbeats 4000000 in
theorem implReadLog_in (n : Nat) (hn : 3 ≤ n) (len cap : Nat) (p : Option Addr) (l : List Int) (w : World) (hR : Rd w (.slice p len cap) l) (hB : Byt l) (el : l.length = len) (hlen : len ≤ 1048576) (hcap : len ≤ cap) (hcm : cap ≤ maxLen) (hp : (p = none ∧ cap = 0) ∨ ∃ b o, p = some ⟨b, o, none⟩) :
    CallsIn Fence.wide n Try.prog 26 #[.slice p len cap] w (RlRes w (rl l)) := by
  have h1 : 1 ≤ n := by omega
  refine callsIn_of_wp_marks Try.func26 rfl trivial ?_ rfl
  simp only [Try.ntmps26, List.size_toArray, List.length_cons, List.length_nil, Nat.reduceAdd, Nat.reduceSub, Array.replicate_succ, Array.replicate_zero, List.push_toArray, List.append_toArray, List.nil_append, List.cons_append]
  refine wpIn_wide.2 ?_
  go_wp2_with fail
  refine wp_scope_straight ?_
  go_wp2_with fail
  go_step3
  go_wp2_with fail
  refine (callsIn_wide.1 (recordsIn_in _ _ _ 0 _)).mono ?_
  rintro e w1 ⟨rfl, rfl⟩
  go_wp2_with fail
  obtain ⟨W0, hW0⟩ : ∃ W0, W0 = ((w.alloc (.cells #[.slice none 0 0] 43)).alloc (.cells #[.int .i64 0] 3)).alloc (.cells #[.slice p len cap] 22) := ⟨_, rfl⟩
  have z0 : W0.heap.size = w.heap.size + 3 := by rw [hW0]; simp
  have k0 : W0.cell? ⟨w.heap.size, 0, none⟩ = some (.slice none 0 0) := by rw [hW0]; simp [go_sem]
  have f0 : W0.frozen? ⟨w.heap.size, 0, none⟩ = false := by rw [hW0]; simp [go_sem]
  have k1 : W0.cell? ⟨w.heap.size + 1, 0, none⟩ = some (.int .i64 0) := by rw [hW0]; simp [go_sem]
  have f1 : W0.frozen? ⟨w.heap.size + 1, 0, none⟩ = false := by rw [hW0]; simp [go_sem]
  have k2 : W0.cell? ⟨w.heap.size + 2, 0, none⟩ = some (.slice p len cap) := by rw [hW0]; simp [go_sem]
  have hB0 : Below w.heap.size w W0 := by rw [hW0]; exact (((Below.refl _ _).alloc (Nat.le_refl _) _).alloc (by simp) _).alloc (by simp; omega) _
  rw [← hW0]
  clear hW0
  refine (wpIn_wide (n := n)).1 ?_
  refine wpIn_rangeFunc_ownH (F := Fence.wide) rfl h1 (gf := 53) (lb := #[.pointer (some ⟨w.heap.size + 2, 0, none⟩)]) rfl trivial (enters_of Try.func53 (by kernel_rfl) rfl)
    (α := Itw w) (encs := itEnc) (Kp := KpB w.heap.size (w.heap.size + 2)) (S := fun ys => ∃ pre x, ys = pre ++ [x] ∧ x.1.z = 0) (Sp := fun pre => keys pre <+: yl (len + 1) l) (N := len + 2) (w0 := W0) ?seq (fun h k => h.trans k) (KpB.put (by omega) (by omega)) (Below.refl _ _) (fun _ => rfl)
    (fun pre W => Inv w pre W ∧ Below w.heap.size w W ∧ W0.heap.size ≤ W.heap.size) (fun c pre W => InvX w c pre W ∧ Below w.heap.size w W)
    (OwnFrom.and (Inv.own w _) (OwnFrom.and (ownFrom_below (Nat.le_refl _) (by omega)) (fun _ _ _ _ h hg _ => Nat.le_trans h hg.size)))
    (fun c => OwnFrom.and (InvX.own w c _) (ownFrom_below (Nat.le_refl _) (by omega)))
    ⟨⟨[], _, [], ⟨k0, f0, k1, f1, OwnR.nil _ _⟩, by simp [lastS], by simp, rfl, by simp [tkR], by simp⟩, hB0, Nat.le_refl _⟩
    (fun x a' W => ∃ R, W0.heap.size ≤ R ∧ At2 W R (.int .u64 x.1.s) (.slice x.1.q x.1.b.length x.1.d) ∧ (∃ v0, W.cell? ⟨w.heap.size, 0, none⟩ = some v0 ∧ v0.ownBlock ≠ some R) ∧ a' = { tmps := #[.slice p len cap, undef, .slice none 0 0, .int .i64 0, .pointer (some ⟨w.heap.size, 0, none⟩), .pointer (some ⟨w.heap.size + 1, 0, none⟩), .pointer (some ⟨R, 0, none⟩), .int .i64 x.1.z, .slice p len cap, .func (.func 53) #[] #[.pointer (some ⟨w.heap.size + 2, 0, none⟩)], recV x.1.s (.slice x.1.q x.1.b.length x.1.d), .int .i64 x.1.z, undef, undef, undef, undef, undef, undef, undef, undef, undef, undef, undef, undef, undef, undef, undef, undef, undef, undef, undef, undef, undef, undef, undef, undef, undef, undef, undef, undef, undef, undef, undef, undef, undef, undef, undef], defers := [] })
    ?ax ?assign ?body ?done ?stop
  case seq =>
    intro L J Jx W hW hJ hJx hY h0
    refine (it_in (n - 1) (by omega) L (w.heap.size + 2) len cap p l w hR hB el hlen hcap hcm hp J Jx W hJ hY ((hW.cell (p := ⟨w.heap.size + 2, 0, none⟩) (by show w.heap.size + 2 < _; omega)).trans k2) (hB0.trans (hW.mono (by omega))) h0).mono ?_
    rintro e W' ⟨he, h⟩
    exact ⟨he, h⟩
  case ax =>
    rintro x a' _ W W' row ⟨R, hR1, hA, ⟨v0, hv0, hv1⟩, ha⟩ hg hr
    exact ⟨R, hR1, ⟨cell_kept hA.1 hg (fun r e => (hr r e).2), cell_kept hA.2 hg (fun r e => (hr r e).2)⟩, ⟨v0, cell_kept hv0 hg (fun r e => (hr r e).2), hv1⟩, ha⟩
  case assign =>
    rintro L pre x W K ⟨hi, hb, hz⟩ hK
    gi_wp2
    obtain ⟨rs, v, vs, ⟨c0, _, _, _, ho⟩, _⟩ := id hi
    exact hK _ _ ((KeepsOthers.alloc _ _).from _) ⟨(Below.refl _ W).alloc (by have := hb.size; omega) _, World.cell?_of_block (a := ⟨w.heap.size + 2, 0, none⟩) (Below.heap_alloc W _ _ (by show w.heap.size + 2 < _; omega))⟩ ⟨hi.below ((Below.refl _ _).alloc (Nat.le_refl _) _), hb.alloc hb.size _, by simp; omega⟩ ⟨W.heap.size, hz, by simp [At2], ⟨v, cell_below c0 ((Below.refl _ _).alloc (Nat.le_refl _) _), fun e => by have := (ho.rowLt _ e).2; omega⟩, rfl⟩
  case body =>
    rintro L pre ⟨x, hgx⟩ a' W hL ⟨r, hr⟩ ⟨⟨rs, v, vs, ⟨c0, c1, c2, c3, ho⟩, hfol, hnz, hrl, htk, hbl⟩, hb, hz⟩ ⟨R, hR1, hA, hAv0, rfl⟩ hpl
    obtain ⟨pv, cv, rfl⟩ := ho.form
    obtain ⟨v0, d0, hAv⟩ := hAv0
    rw [c0] at d0
    obtain rfl : .slice pv rs.length cv = v0 := by simpa using d0
    clear d0
    obtain ⟨K, eK⟩ : ∃ K, rs.length = K := ⟨_, rfl⟩
    rw [eK] at ho c0 hrl hAv
    dsimp only at *
    have hcf : ∀ (vs : Array Value) (w : World), (callFunc 38 vs).run Try.prog w = .ok (.enter 38 vs) w := fun vs w => by kernel_rfl
    have hcg : ∀ (vs : Array Value) (w : World), (callFunc 45 vs).run Try.prog w = .ok (.enter 45 vs) w := fun vs w => by kernel_rfl
    by_cases hx : x.z = 0
    · have hx' : ((x.z : Int) == 0) = true := by simp [hx]
      gi_wp2
      refine ⟨KeepsFrom.refl _ _, ⟨rfl, rs, _, vs, ⟨c0, c1, c2, c3, ho⟩, fun rest => ?_⟩, hb⟩
      have := hfol (none :: rest)
      simp only [List.map_append, List.map_cons, List.map_nil, List.append_assoc, List.cons_append, List.nil_append]
      rw [show key x = none by simp [key, hx], this]
      simp [fol]
    · have hx' : ((x.z : Int) == 0) = false := by simp [hx]
      have hkx : key x = some (x.s, x.b) := by simp [key, hx]
      obtain ⟨hxz, hxl, hxB, xs0, xs1, hRx⟩ : x.z = x.b.length + 14 ∧ x.b.length ≤ 1000 ∧ Byt x.b ∧ 0 ≤ x.s ∧ x.s < 18446744073709551616 ∧ Rd w (.slice x.q x.b.length x.d) x.b := by
        rcases hgx with h | h
        · exact absurd h hx
        · exact h
      gi_wp2_with fail
      have HX := hide (And.intro hxz (And.intro hxB hkx))
      have HF := hide (And.intro hfol (And.intro hnz (And.intro hrl (And.intro htk hbl))))
      have eKh := hide eK
      have hKn : K ≤ 1048578 := by omega
      have htk2 : (tkR rs : Int) ≤ 1100000000 := by omega
      have hxz2 : (x.z : Int) ≤ 1014 := by omega
      clear hfol hnz hrl htk hbl hxz hxB hkx
      by_cases hK0 : K = 0
      · subst hK0
        clear eK
        have hok : okN (lastS rs) x.s = true := by rw [List.eq_nil_of_length_eq_zero (unhide eKh)]; rfl
        have HOK := hide hok
        clear hok
        refine wpIn_region_round (fun w' => w'.cell? ⟨w.heap.size, 0, none⟩ = some (.slice pv 0 cv)) (by kernel_rfl) (by kernel_rfl) (by rintro ⟨_, _, h⟩; exact h) c0 (fun hS => ?_)
        refine wpAnyH_take (i := 0) (oi := _) (v := ?_) (by simp only [List.getElem?_toArray, List.getElem?_cons_succ, List.getElem?_cons_zero]; rfl) (by kernel_rfl) (by kernel_rfl) (by kernel_rfl) (fun _ _ _ h => h) (Or.inl ⟨by rfl, ?_⟩) hS ?_
        rotate_left
        · (intro w' hSw; (try dsimp only at hSw); go_simp; try with_reducible rfl)
        simp only [Act.put, List.setIfInBounds_toArray, List.set_cons_zero, List.set_cons_succ]
        refine wpAnyH_take (i := 1) (oi := _) (v := ?_) (by simp only [List.getElem?_toArray, List.getElem?_cons_succ, List.getElem?_cons_zero]; rfl) (by kernel_rfl) (by kernel_rfl) (by kernel_rfl) (fun _ _ _ h => h) (Or.inl ⟨by rfl, ?_⟩) hS ?_
        rotate_left
        · (intro w' hSw; (try dsimp only at hSw); go_simp; try with_reducible rfl)
        simp only [Act.put, List.setIfInBounds_toArray, List.set_cons_zero, List.set_cons_succ]
        refine wpAnyH_take (i := 2) (oi := _) (v := .bool false) (by simp only [List.getElem?_toArray, List.getElem?_cons_succ, List.getElem?_cons_zero]; rfl) (by kernel_rfl) (by kernel_rfl) (by kernel_rfl) (fun _ _ _ h => h) (Or.inl ⟨by rfl, ?_⟩) hS ?_
        · (intro w' hSw; (try dsimp only at hSw); go_simp; try with_reducible rfl)
        simp only [Act.put, List.setIfInBounds_toArray, List.set_cons_zero, List.set_cons_succ]
        refine wpAnyH_take (i := 3) (oi := _) (v := .bool false) (by simp only [List.getElem?_toArray, List.getElem?_cons_succ, List.getElem?_cons_zero]; rfl) (by kernel_rfl) (by kernel_rfl) (by kernel_rfl) (fun _ _ _ h => h) (Or.inl ⟨by rfl, ?_⟩) hS ?_
        · (intro w' hSw; (try dsimp only at hSw); go_simp; try with_reducible rfl)
        simp only [Act.put, List.setIfInBounds_toArray, List.set_cons_zero, List.set_cons_succ]
        refine wpAnyH_take (i := 4) (oi := _) (v := undef) (by simp only [List.getElem?_toArray, List.getElem?_cons_succ, List.getElem?_cons_zero]; rfl) (by kernel_rfl) (by kernel_rfl) (by kernel_rfl) (fun _ _ _ h => h) (Or.inr ⟨by rfl, rfl⟩) hS ?_
        simp only [Act.put, List.setIfInBounds_toArray, List.set_cons_zero, List.set_cons_succ]
        refine wpAnyH_take (i := 5) (oi := _) (v := undef) (by simp only [List.getElem?_toArray, List.getElem?_cons_succ, List.getElem?_cons_zero]; rfl) (by kernel_rfl) (by kernel_rfl) (by kernel_rfl) (fun _ _ _ h => h) (Or.inr ⟨by rfl, rfl⟩) hS ?_
        simp only [Act.put, List.setIfInBounds_toArray, List.set_cons_zero, List.set_cons_succ]
        refine wpAnyH_take (i := 6) (oi := _) (v := undef) (by simp only [List.getElem?_toArray, List.getElem?_cons_succ, List.getElem?_cons_zero]; rfl) (by kernel_rfl) (by kernel_rfl) (by kernel_rfl) (fun _ _ _ h => h) (Or.inr ⟨by rfl, rfl⟩) hS ?_
        simp only [Act.put, List.setIfInBounds_toArray, List.set_cons_zero, List.set_cons_succ]
        refine wpAnyH_take (i := 7) (oi := _) (v := undef) (by simp only [List.getElem?_toArray, List.getElem?_cons_succ, List.getElem?_cons_zero]; rfl) (by kernel_rfl) (by kernel_rfl) (by kernel_rfl) (fun _ _ _ h => h) (Or.inr ⟨by rfl, rfl⟩) hS ?_
        simp only [Act.put, List.setIfInBounds_toArray, List.set_cons_zero, List.set_cons_succ]
        refine wpAnyH_take (i := 8) (oi := _) (v := undef) (by simp only [List.getElem?_toArray, List.getElem?_cons_succ, List.getElem?_cons_zero]; rfl) (by kernel_rfl) (by kernel_rfl) (by kernel_rfl) (fun _ _ _ h => h) (Or.inr ⟨by rfl, rfl⟩) hS ?_
        simp only [Act.put, List.setIfInBounds_toArray, List.set_cons_zero, List.set_cons_succ]
        refine wpAnyH_take (i := 9) (oi := _) (v := undef) (by simp only [List.getElem?_toArray, List.getElem?_cons_succ, List.getElem?_cons_zero]; rfl) (by kernel_rfl) (by kernel_rfl) (by kernel_rfl) (fun _ _ _ h => h) (Or.inr ⟨by rfl, rfl⟩) hS ?_
        simp only [Act.put, List.setIfInBounds_toArray, List.set_cons_zero, List.set_cons_succ]
        refine wpAnyH_take (i := 10) (oi := _) (v := undef) (by simp only [List.getElem?_toArray, List.getElem?_cons_succ, List.getElem?_cons_zero]; rfl) (by kernel_rfl) (by kernel_rfl) (by kernel_rfl) (fun _ _ _ h => h) (Or.inr ⟨by rfl, rfl⟩) hS ?_
        simp only [Act.put, List.setIfInBounds_toArray, List.set_cons_zero, List.set_cons_succ]
        refine wpAnyH_take (i := 11) (oi := _) (v := undef) (by simp only [List.getElem?_toArray, List.getElem?_cons_succ, List.getElem?_cons_zero]; rfl) (by kernel_rfl) (by kernel_rfl) (by kernel_rfl) (fun _ _ _ h => h) (Or.inr ⟨by rfl, rfl⟩) hS ?_
        simp only [Act.put, List.setIfInBounds_toArray, List.set_cons_zero, List.set_cons_succ]
        refine wpAnyH_take (i := 12) (oi := _) (v := undef) (by simp only [List.getElem?_toArray, List.getElem?_cons_succ, List.getElem?_cons_zero]; rfl) (by kernel_rfl) (by kernel_rfl) (by kernel_rfl) (fun _ _ _ h => h) (Or.inr ⟨by rfl, rfl⟩) hS ?_
        simp only [Act.put, List.setIfInBounds_toArray, List.set_cons_zero, List.set_cons_succ]
        refine wpAnyH_take (i := 13) (oi := _) (v := undef) (by simp only [List.getElem?_toArray, List.getElem?_cons_succ, List.getElem?_cons_zero]; rfl) (by kernel_rfl) (by kernel_rfl) (by kernel_rfl) (fun _ _ _ h => h) (Or.inr ⟨by rfl, rfl⟩) hS ?_
        simp only [Act.put, List.setIfInBounds_toArray, List.set_cons_zero, List.set_cons_succ]
        refine wpAnyH_take (i := 14) (oi := _) (v := undef) (by simp only [List.getElem?_toArray, List.getElem?_cons_succ, List.getElem?_cons_zero]; rfl) (by kernel_rfl) (by kernel_rfl) (by kernel_rfl) (fun _ _ _ h => h) (Or.inr ⟨by rfl, rfl⟩) hS ?_
        simp only [Act.put, List.setIfInBounds_toArray, List.set_cons_zero, List.set_cons_succ]
        refine wpAnyH_take (i := 15) (oi := _) (v := ?_) (by simp only [List.getElem?_toArray, List.getElem?_cons_succ, List.getElem?_cons_zero]; rfl) (by kernel_rfl) (by kernel_rfl) (by kernel_rfl) (fun _ _ _ h => h) (Or.inl ⟨by rfl, ?_⟩) hS ?_
        rotate_left
        · (intro w' hSw; (try dsimp only at hSw); go_simp; try with_reducible rfl)
        simp only [Act.put, List.setIfInBounds_toArray, List.set_cons_zero, List.set_cons_succ]
        refine wpAnyH_take (i := 16) (oi := _) (v := ?_) (by simp only [List.getElem?_toArray, List.getElem?_cons_succ, List.getElem?_cons_zero]; rfl) (by kernel_rfl) (by kernel_rfl) (by kernel_rfl) (fun _ _ _ h => h) (Or.inl ⟨by rfl, ?_⟩) hS ?_
        rotate_left
        · (intro w' hSw; (try dsimp only at hSw); go_simp; try with_reducible rfl)
        simp only [Act.put, List.setIfInBounds_toArray, List.set_cons_zero, List.set_cons_succ]
        refine wpAnyH_done (by kernel_rfl) ?_ _
        gi_wp2_with fail
        clear hS
        try clear s7 d0
        replace c0 : W.drew.cell? ⟨w.heap.size, 0, none⟩ = some _ := c0
        replace c1 : W.drew.frozen? ⟨w.heap.size, 0, none⟩ = false := c1
        replace c2 : W.drew.cell? ⟨w.heap.size + 1, 0, none⟩ = some _ := c2
        replace c3 : W.drew.frozen? ⟨w.heap.size + 1, 0, none⟩ = false := c3
        replace ho := ho.below (Below.refl W.heap.size W).drew
        replace hA : At2 W.drew R (.int .u64 x.s) (.slice x.q x.b.length x.d) := hA
        replace hb : Below w.heap.size w W.drew := hb.drew
        have hzV : W0.heap.size ≤ W.drew.heap.size := hz
        have KV : KeepsOthers W W.drew := KeepsOthers.drew W
        have BV : Below W.heap.size W W.drew := (Below.refl _ _).drew
        generalize W.drew = V at *
        have B5 : Below V.heap.size V (V.alloc (.cells #[.slice x.q x.b.length x.d] 22)).drew := ((Below.refl V.heap.size V).alloc (Nat.le_refl _) _).drew
        have S5 := hA.below B5
        have X5 := cell_below c0 B5
        refine wpIn_region_round (fun w' => At2 w' R (.int .u64 x.s) (.slice x.q x.b.length x.d)) (by kernel_rfl) (by kernel_rfl) (by rintro ⟨_, _, h⟩; exact h) hA (fun hS => ?_)
        refine wpAnyH_take (i := 1) (oi := _) (v := ?_) (by simp only [List.getElem?_toArray, List.getElem?_cons_succ, List.getElem?_cons_zero]; rfl) (by kernel_rfl) (by kernel_rfl) (by kernel_rfl) (fun _ _ _ h => h) (Or.inl ⟨by rfl, ?_⟩) hS ?_
        rotate_left
        · (intro w' hSw; (try dsimp only at hSw); go_simp; try with_reducible rfl)
        simp only [Act.put, List.setIfInBounds_toArray, List.set_cons_zero, List.set_cons_succ]
        refine wpAnyH_take (i := 2) (oi := _) (v := ?_) (by simp only [List.getElem?_toArray, List.getElem?_cons_succ, List.getElem?_cons_zero]; rfl) (by kernel_rfl) (by kernel_rfl) (by kernel_rfl) (fun _ _ _ h => h) (Or.inl ⟨by rfl, ?_⟩) hS ?_
        rotate_left
        · (intro w' hSw; (try dsimp only at hSw); go_simp; try with_reducible rfl)
        simp only [Act.put, List.setIfInBounds_toArray, List.set_cons_zero, List.set_cons_succ]
        refine wpAnyH_take (i := 3) (oi := _) (v := ?_) (by simp only [List.getElem?_toArray, List.getElem?_cons_succ, List.getElem?_cons_zero]; rfl) (by kernel_rfl) (by kernel_rfl) (by kernel_rfl) (fun _ _ _ h => h) (Or.inl ⟨by rfl, ?_⟩) hS ?_
        rotate_left
        · (intro w' hSw; (try dsimp only at hSw); go_simp; try with_reducible rfl)
        simp only [Act.put, List.setIfInBounds_toArray, List.set_cons_zero, List.set_cons_succ]
        refine wpAnyH_take (i := 4) (oi := _) (v := ?_) (by simp only [List.getElem?_toArray, List.getElem?_cons_succ, List.getElem?_cons_zero]; rfl) (by kernel_rfl) (by kernel_rfl) (by kernel_rfl) (fun _ _ _ h => h) (Or.inl ⟨by rfl, ?_⟩) hS ?_
        rotate_left
        · (intro w' hSw; (try dsimp only at hSw); go_simp; try with_reducible rfl)
        simp only [Act.put, List.setIfInBounds_toArray, List.set_cons_zero, List.set_cons_succ]
        refine wpAnyH_ready (rs := [0, 5]) (by kernel_rfl) (by simp) ?_
        refine AllReadyH.cons (o := _) (by simp only [List.getElem?_toArray, List.getElem?_cons_succ, List.getElem?_cons_zero]; rfl) (fun KK hK => ?_) ?_
        · go_simp
          refine hK.out _ _ ?_ (fun hS => ?_)
          · exact hA
          clear hK KK
          try simp only [Act.put, List.setIfInBounds_toArray, List.set_cons_zero, List.set_cons_succ]
          refine wpAnyH_ready (rs := [5]) (by kernel_rfl) (by simp) ?_
          refine AllReadyH.cons (o := _) (by simp only [List.getElem?_toArray, List.getElem?_cons_succ, List.getElem?_cons_zero]; rfl) (fun KK hK => ?_) ?_
          · go_simp
            refine hK.out _ _ ?_ (fun hS => ?_)
            · exact S5
            clear hK KK
            try simp only [Act.put, List.setIfInBounds_toArray, List.set_cons_zero, List.set_cons_succ]
            refine wpAnyH_ready (rs := [6]) (by kernel_rfl) (by simp) ?_
            refine AllReadyH.cons (o := _) (by simp only [List.getElem?_toArray, List.getElem?_cons_succ, List.getElem?_cons_zero]; rfl) (fun KK hK => ?_) ?_
            · refine step_call1 (by rfl) 38 _ _ (by rfl) (.slice (some ⟨V.heap.size, 0, none⟩) 1 1) (by rfl) (fun _ => hcf _ _) (joined_any V.heap.size [.slice x.q x.b.length x.d] [x.b] x.b x.b.length 1 rfl (by show _ = _; rw [cat_one]) rfl _ (parts1 (by simp) (hRx.below (Below.trans hb (B5.mono (by omega))))) (by omega) (by omega)) ?_
              rintro e w6 ⟨p6, c6, rfl, o6, hb6⟩
              refine ⟨_, rfl, ?_⟩
              have B6 := Below.step B5 hb6
              have z6 := B6.size
              have z6' := hb6.size
              have S6 := hA.below B6
              have X6 := cell_below c0 B6
              have hap6 : ∀ u' ∈ vs, Apart u' (.slice p6 x.b.length c6) := fun u' hu' b e1 e2 => by
                have h1 := ho.lt u' hu' b e1
                have h2 := (Own.lt o6 b e2).1
                simp at h2
                omega
              refine hK.out _ _ ?_ (fun hS => ?_)
              · exact S6
              clear hK KK
              try simp only [Act.put, List.setIfInBounds_toArray, List.set_cons_zero, List.set_cons_succ]
              refine wpAnyH_take (i := 7) (oi := _) (v := ?_) (by simp only [List.getElem?_toArray, List.getElem?_cons_succ, List.getElem?_cons_zero]; rfl) (by kernel_rfl) (by kernel_rfl) (by kernel_rfl) (fun _ _ _ h => h) (Or.inl ⟨by rfl, ?_⟩) hS ?_
              rotate_left
              · (intro w' hSw; (try dsimp only at hSw); go_simp; try with_reducible rfl)
              simp only [Act.put, List.setIfInBounds_toArray, List.set_cons_zero, List.set_cons_succ]
              refine wpAnyH_ready (rs := [8]) (by kernel_rfl) (by simp) ?_
              refine AllReadyH.cons (o := _) (by simp only [List.getElem?_toArray, List.getElem?_cons_succ, List.getElem?_cons_zero]; rfl) (fun KK hK => ?_) ?_
              · go_simp
                refine hK.out _ _ ?_ (fun hS => ?_)
                · exact hA.below (B6.alloc (by omega) _)
                clear hK KK
                try simp only [Act.put, List.setIfInBounds_toArray, List.set_cons_zero, List.set_cons_succ]
                have B8 : Below V.heap.size V (w6.alloc (.cells #[.int .u64 x.s, .slice p6 x.b.length c6] 38)) := B6.alloc (by omega) _
                have S8 := hA.below B8
                have X8 := cell_below c0 B8
                refine wpAnyH_ready (rs := [9]) (by kernel_rfl) (by simp) ?_
                refine AllReadyH.cons (o := _) (by simp only [List.getElem?_toArray, List.getElem?_cons_succ, List.getElem?_cons_zero]; rfl) (fun KK hK => ?_) ?_
                · refine step_appendR (by rfl) _ _ (by rfl) (w.heap.size + 3) (.slice pv 0 cv) rs vs 0 eKh w6.heap.size (by rfl) (by rfl) (ho.below B8) (x.s, x.b) (.slice p6 x.b.length c6) (by simp) (by simp) (Own.mono (Own.below o6 ((Below.refl _ _).alloc (Nat.le_refl _) _)) (by simp; omega)) hap6 (by omega) (by have := B8.size; omega) ?_
                  intro p9 c9 w9 hR9 hg9
                  have hB9 : Below (w.heap.size + 3) V w9 := (B8.mono (by omega)).grown hg9 (by have := B8.size; omega) (fun b e => (ho.rowLt b e).1)
                  have hS9 : At2 w9 R (.int .u64 x.s) (.slice x.q x.b.length x.d) := ⟨hg9.cell S8.1 (fun e => hAv e.symm), hg9.cell S8.2 (fun e => hAv e.symm)⟩
                  refine hK.out _ _ ?_ (fun hS => ?_)
                  · exact hS9
                  clear hK KK
                  try simp only [Act.put, List.setIfInBounds_toArray, List.set_cons_zero, List.set_cons_succ]
                  refine wpAnyH_ready (rs := [10]) (by kernel_rfl) (by simp) ?_
                  refine AllReadyH.cons (o := _) (by simp only [List.getElem?_toArray, List.getElem?_cons_succ, List.getElem?_cons_zero]; rfl) (fun KK hK => ?_) ?_
                  · have q0 := (hB9.cell (p := ⟨w.heap.size, 0, none⟩) (by show w.heap.size < _; omega)).trans c0
                    have q1 : ∀ o, w9.frozen? ⟨w.heap.size, o, none⟩ = V.frozen? ⟨w.heap.size, o, none⟩ := fun o => hB9.frozen (p := ⟨w.heap.size, o, none⟩) (by show w.heap.size < _; omega)
                    go_simp
                    refine hK.out _ _ ?_ (fun hS => ?_)
                    · exact ⟨(World.cell?_setCell_far _ _ _ _ (by show w.heap.size ≠ R; omega)).trans hS9.1, (World.cell?_setCell_far _ _ _ _ (by show w.heap.size ≠ R; omega)).trans hS9.2⟩
                    clear hK KK
                    try simp only [Act.put, List.setIfInBounds_toArray, List.set_cons_zero, List.set_cons_succ]
                    refine wpAnyH_done (by kernel_rfl) ?_ _
                    have q2 := (hB9.cell (p := ⟨w.heap.size + 1, 0, none⟩) (by show w.heap.size + 1 < _; omega)).trans c2
                    have q3 := (hB9.frozen (p := ⟨w.heap.size + 1, 0, none⟩) (by show w.heap.size + 1 < _; omega)).trans c3
                    have KO9 := hide ((KeepsOthers.of_below B8).trans (KeepsOthers.of_grownBy hg9 (ho.below B8).rowCells))
                    gi_wp2
                    exact bodyEnd w W V w9 W0.heap.size x hgx pre rs vs _ _ p9 c9 0 z0 hz KV BV hb c0 c1 c2 c3 ho hB9 (unhide KO9) hR9 eKh HX HF HOK hxl xs0 xs1
                  exact AllReadyH.nil
                exact AllReadyH.nil
              exact AllReadyH.nil
            exact AllReadyH.nil
          exact AllReadyH.nil
        refine AllReadyH.cons (o := _) (by simp only [List.getElem?_toArray, List.getElem?_cons_succ, List.getElem?_cons_zero]; rfl) (fun KK hK => ?_) ?_
        · go_simp
          refine hK.out _ _ ?_ (fun hS => ?_)
          · exact S5
          clear hK KK
          try simp only [Act.put, List.setIfInBounds_toArray, List.set_cons_zero, List.set_cons_succ]
          refine wpAnyH_ready (rs := [0, 6]) (by kernel_rfl) (by simp) ?_
          refine AllReadyH.cons (o := _) (by simp only [List.getElem?_toArray, List.getElem?_cons_succ, List.getElem?_cons_zero]; rfl) (fun KK hK => ?_) ?_
          · go_simp
            refine hK.out _ _ ?_ (fun hS => ?_)
            · exact S5
            clear hK KK
            try simp only [Act.put, List.setIfInBounds_toArray, List.set_cons_zero, List.set_cons_succ]
            refine wpAnyH_ready (rs := [6]) (by kernel_rfl) (by simp) ?_
            refine AllReadyH.cons (o := _) (by simp only [List.getElem?_toArray, List.getElem?_cons_succ, List.getElem?_cons_zero]; rfl) (fun KK hK => ?_) ?_
            · refine step_call1 (by rfl) 38 _ _ (by rfl) (.slice (some ⟨V.heap.size, 0, none⟩) 1 1) (by rfl) (fun _ => hcf _ _) (joined_any V.heap.size [.slice x.q x.b.length x.d] [x.b] x.b x.b.length 1 rfl (by show _ = _; rw [cat_one]) rfl _ (parts1 (by simp) (hRx.below (Below.trans hb (B5.mono (by omega))))) (by omega) (by omega)) ?_
              rintro e w6 ⟨p6, c6, rfl, o6, hb6⟩
              refine ⟨_, rfl, ?_⟩
              have B6 := Below.step B5 hb6
              have z6 := B6.size
              have z6' := hb6.size
              have S6 := hA.below B6
              have X6 := cell_below c0 B6
              have hap6 : ∀ u' ∈ vs, Apart u' (.slice p6 x.b.length c6) := fun u' hu' b e1 e2 => by
                have h1 := ho.lt u' hu' b e1
                have h2 := (Own.lt o6 b e2).1
                simp at h2
                omega
              refine hK.out _ _ ?_ (fun hS => ?_)
              · exact S6
              clear hK KK
              try simp only [Act.put, List.setIfInBounds_toArray, List.set_cons_zero, List.set_cons_succ]
              refine wpAnyH_take (i := 7) (oi := _) (v := ?_) (by simp only [List.getElem?_toArray, List.getElem?_cons_succ, List.getElem?_cons_zero]; rfl) (by kernel_rfl) (by kernel_rfl) (by kernel_rfl) (fun _ _ _ h => h) (Or.inl ⟨by rfl, ?_⟩) hS ?_
              rotate_left
              · (intro w' hSw; (try dsimp only at hSw); go_simp; try with_reducible rfl)
              simp only [Act.put, List.setIfInBounds_toArray, List.set_cons_zero, List.set_cons_succ]
              refine wpAnyH_ready (rs := [8]) (by kernel_rfl) (by simp) ?_
              refine AllReadyH.cons (o := _) (by simp only [List.getElem?_toArray, List.getElem?_cons_succ, List.getElem?_cons_zero]; rfl) (fun KK hK => ?_) ?_
              · go_simp
                refine hK.out _ _ ?_ (fun hS => ?_)
                · exact hA.below (B6.alloc (by omega) _)
                clear hK KK
                try simp only [Act.put, List.setIfInBounds_toArray, List.set_cons_zero, List.set_cons_succ]
                have B8 : Below V.heap.size V (w6.alloc (.cells #[.int .u64 x.s, .slice p6 x.b.length c6] 38)) := B6.alloc (by omega) _
                have S8 := hA.below B8
                have X8 := cell_below c0 B8
                refine wpAnyH_ready (rs := [9]) (by kernel_rfl) (by simp) ?_
                refine AllReadyH.cons (o := _) (by simp only [List.getElem?_toArray, List.getElem?_cons_succ, List.getElem?_cons_zero]; rfl) (fun KK hK => ?_) ?_
                · refine step_appendR (by rfl) _ _ (by rfl) (w.heap.size + 3) (.slice pv 0 cv) rs vs 0 eKh w6.heap.size (by rfl) (by rfl) (ho.below B8) (x.s, x.b) (.slice p6 x.b.length c6) (by simp) (by simp) (Own.mono (Own.below o6 ((Below.refl _ _).alloc (Nat.le_refl _) _)) (by simp; omega)) hap6 (by omega) (by have := B8.size; omega) ?_
                  intro p9 c9 w9 hR9 hg9
                  have hB9 : Below (w.heap.size + 3) V w9 := (B8.mono (by omega)).grown hg9 (by have := B8.size; omega) (fun b e => (ho.rowLt b e).1)
                  have hS9 : At2 w9 R (.int .u64 x.s) (.slice x.q x.b.length x.d) := ⟨hg9.cell S8.1 (fun e => hAv e.symm), hg9.cell S8.2 (fun e => hAv e.symm)⟩
                  refine hK.out _ _ ?_ (fun hS => ?_)
                  · exact hS9
                  clear hK KK
                  try simp only [Act.put, List.setIfInBounds_toArray, List.set_cons_zero, List.set_cons_succ]
                  refine wpAnyH_ready (rs := [10]) (by kernel_rfl) (by simp) ?_
                  refine AllReadyH.cons (o := _) (by simp only [List.getElem?_toArray, List.getElem?_cons_succ, List.getElem?_cons_zero]; rfl) (fun KK hK => ?_) ?_
                  · have q0 := (hB9.cell (p := ⟨w.heap.size, 0, none⟩) (by show w.heap.size < _; omega)).trans c0
                    have q1 : ∀ o, w9.frozen? ⟨w.heap.size, o, none⟩ = V.frozen? ⟨w.heap.size, o, none⟩ := fun o => hB9.frozen (p := ⟨w.heap.size, o, none⟩) (by show w.heap.size < _; omega)
                    go_simp
                    refine hK.out _ _ ?_ (fun hS => ?_)
                    · exact ⟨(World.cell?_setCell_far _ _ _ _ (by show w.heap.size ≠ R; omega)).trans hS9.1, (World.cell?_setCell_far _ _ _ _ (by show w.heap.size ≠ R; omega)).trans hS9.2⟩
                    clear hK KK
                    try simp only [Act.put, List.setIfInBounds_toArray, List.set_cons_zero, List.set_cons_succ]
                    refine wpAnyH_done (by kernel_rfl) ?_ _
                    have q2 := (hB9.cell (p := ⟨w.heap.size + 1, 0, none⟩) (by show w.heap.size + 1 < _; omega)).trans c2
                    have q3 := (hB9.frozen (p := ⟨w.heap.size + 1, 0, none⟩) (by show w.heap.size + 1 < _; omega)).trans c3
                    have KO9 := hide ((KeepsOthers.of_below B8).trans (KeepsOthers.of_grownBy hg9 (ho.below B8).rowCells))
                    gi_wp2
                    exact bodyEnd w W V w9 W0.heap.size x hgx pre rs vs _ _ p9 c9 0 z0 hz KV BV hb c0 c1 c2 c3 ho hB9 (unhide KO9) hR9 eKh HX HF HOK hxl xs0 xs1
                  exact AllReadyH.nil
                exact AllReadyH.nil
              exact AllReadyH.nil
            exact AllReadyH.nil
          refine AllReadyH.cons (o := _) (by simp only [List.getElem?_toArray, List.getElem?_cons_succ, List.getElem?_cons_zero]; rfl) (fun KK hK => ?_) ?_
          · refine step_call1 (by rfl) 38 _ _ (by rfl) (.slice (some ⟨V.heap.size, 0, none⟩) 1 1) (by rfl) (fun _ => hcf _ _) (joined_any V.heap.size [.slice x.q x.b.length x.d] [x.b] x.b x.b.length 1 rfl (by show _ = _; rw [cat_one]) rfl _ (parts1 (by simp) (hRx.below (Below.trans hb (B5.mono (by omega))))) (by omega) (by omega)) ?_
            rintro e w6 ⟨p6, c6, rfl, o6, hb6⟩
            refine ⟨_, rfl, ?_⟩
            have B6 := Below.step B5 hb6
            have z6 := B6.size
            have z6' := hb6.size
            have S6 := hA.below B6
            have X6 := cell_below c0 B6
            have hap6 : ∀ u' ∈ vs, Apart u' (.slice p6 x.b.length c6) := fun u' hu' b e1 e2 => by
              have h1 := ho.lt u' hu' b e1
              have h2 := (Own.lt o6 b e2).1
              simp at h2
              omega
            refine hK.out _ _ ?_ (fun hS => ?_)
            · exact S6
            clear hK KK
            try simp only [Act.put, List.setIfInBounds_toArray, List.set_cons_zero, List.set_cons_succ]
            refine wpAnyH_take (i := 7) (oi := _) (v := ?_) (by simp only [List.getElem?_toArray, List.getElem?_cons_succ, List.getElem?_cons_zero]; rfl) (by kernel_rfl) (by kernel_rfl) (by kernel_rfl) (fun _ _ _ h => h) (Or.inl ⟨by rfl, ?_⟩) hS ?_
            rotate_left
            · (intro w' hSw; (try dsimp only at hSw); go_simp; try with_reducible rfl)
            simp only [Act.put, List.setIfInBounds_toArray, List.set_cons_zero, List.set_cons_succ]
            refine wpAnyH_ready (rs := [0, 8]) (by kernel_rfl) (by simp) ?_
            refine AllReadyH.cons (o := _) (by simp only [List.getElem?_toArray, List.getElem?_cons_succ, List.getElem?_cons_zero]; rfl) (fun KK hK => ?_) ?_
            · go_simp
              refine hK.out _ _ ?_ (fun hS => ?_)
              · exact S6
              clear hK KK
              try simp only [Act.put, List.setIfInBounds_toArray, List.set_cons_zero, List.set_cons_succ]
              refine wpAnyH_ready (rs := [8]) (by kernel_rfl) (by simp) ?_
              refine AllReadyH.cons (o := _) (by simp only [List.getElem?_toArray, List.getElem?_cons_succ, List.getElem?_cons_zero]; rfl) (fun KK hK => ?_) ?_
              · go_simp
                refine hK.out _ _ ?_ (fun hS => ?_)
                · exact hA.below (B6.alloc (by omega) _)
                clear hK KK
                try simp only [Act.put, List.setIfInBounds_toArray, List.set_cons_zero, List.set_cons_succ]
                have B8 : Below V.heap.size V (w6.alloc (.cells #[.int .u64 x.s, .slice p6 x.b.length c6] 38)) := B6.alloc (by omega) _
                have S8 := hA.below B8
                have X8 := cell_below c0 B8
                refine wpAnyH_ready (rs := [9]) (by kernel_rfl) (by simp) ?_
                refine AllReadyH.cons (o := _) (by simp only [List.getElem?_toArray, List.getElem?_cons_succ, List.getElem?_cons_zero]; rfl) (fun KK hK => ?_) ?_
                · refine step_appendR (by rfl) _ _ (by rfl) (w.heap.size + 3) (.slice pv 0 cv) rs vs 0 eKh w6.heap.size (by rfl) (by rfl) (ho.below B8) (x.s, x.b) (.slice p6 x.b.length c6) (by simp) (by simp) (Own.mono (Own.below o6 ((Below.refl _ _).alloc (Nat.le_refl _) _)) (by simp; omega)) hap6 (by omega) (by have := B8.size; omega) ?_
                  intro p9 c9 w9 hR9 hg9
                  have hB9 : Below (w.heap.size + 3) V w9 := (B8.mono (by omega)).grown hg9 (by have := B8.size; omega) (fun b e => (ho.rowLt b e).1)
                  have hS9 : At2 w9 R (.int .u64 x.s) (.slice x.q x.b.length x.d) := ⟨hg9.cell S8.1 (fun e => hAv e.symm), hg9.cell S8.2 (fun e => hAv e.symm)⟩
                  refine hK.out _ _ ?_ (fun hS => ?_)
                  · exact hS9
                  clear hK KK
                  try simp only [Act.put, List.setIfInBounds_toArray, List.set_cons_zero, List.set_cons_succ]
                  refine wpAnyH_ready (rs := [10]) (by kernel_rfl) (by simp) ?_
                  refine AllReadyH.cons (o := _) (by simp only [List.getElem?_toArray, List.getElem?_cons_succ, List.getElem?_cons_zero]; rfl) (fun KK hK => ?_) ?_
                  · have q0 := (hB9.cell (p := ⟨w.heap.size, 0, none⟩) (by show w.heap.size < _; omega)).trans c0
                    have q1 : ∀ o, w9.frozen? ⟨w.heap.size, o, none⟩ = V.frozen? ⟨w.heap.size, o, none⟩ := fun o => hB9.frozen (p := ⟨w.heap.size, o, none⟩) (by show w.heap.size < _; omega)
                    go_simp
                    refine hK.out _ _ ?_ (fun hS => ?_)
                    · exact ⟨(World.cell?_setCell_far _ _ _ _ (by show w.heap.size ≠ R; omega)).trans hS9.1, (World.cell?_setCell_far _ _ _ _ (by show w.heap.size ≠ R; omega)).trans hS9.2⟩
                    clear hK KK
                    try simp only [Act.put, List.setIfInBounds_toArray, List.set_cons_zero, List.set_cons_succ]
                    refine wpAnyH_done (by kernel_rfl) ?_ _
                    have q2 := (hB9.cell (p := ⟨w.heap.size + 1, 0, none⟩) (by show w.heap.size + 1 < _; omega)).trans c2
                    have q3 := (hB9.frozen (p := ⟨w.heap.size + 1, 0, none⟩) (by show w.heap.size + 1 < _; omega)).trans c3
                    have KO9 := hide ((KeepsOthers.of_below B8).trans (KeepsOthers.of_grownBy hg9 (ho.below B8).rowCells))
                    gi_wp2
                    exact bodyEnd w W V w9 W0.heap.size x hgx pre rs vs _ _ p9 c9 0 z0 hz KV BV hb c0 c1 c2 c3 ho hB9 (unhide KO9) hR9 eKh HX HF HOK hxl xs0 xs1
                  exact AllReadyH.nil
                exact AllReadyH.nil
              exact AllReadyH.nil
            refine AllReadyH.cons (o := _) (by simp only [List.getElem?_toArray, List.getElem?_cons_succ, List.getElem?_cons_zero]; rfl) (fun KK hK => ?_) ?_
            · go_simp
              refine hK.out _ _ ?_ (fun hS => ?_)
              · exact hA.below (B6.alloc (by omega) _)
              clear hK KK
              try simp only [Act.put, List.setIfInBounds_toArray, List.set_cons_zero, List.set_cons_succ]
              have B8 : Below V.heap.size V (w6.alloc (.cells #[.int .u64 x.s, .slice p6 x.b.length c6] 38)) := B6.alloc (by omega) _
              have S8 := hA.below B8
              have X8 := cell_below c0 B8
              refine wpAnyH_ready (rs := [0]) (by kernel_rfl) (by simp) ?_
              refine AllReadyH.cons (o := _) (by simp only [List.getElem?_toArray, List.getElem?_cons_succ, List.getElem?_cons_zero]; rfl) (fun KK hK => ?_) ?_
              · go_simp
                refine hK.out _ _ ?_ (fun hS => ?_)
                · exact S8
                clear hK KK
                try simp only [Act.put, List.setIfInBounds_toArray, List.set_cons_zero, List.set_cons_succ]
                refine wpAnyH_ready (rs := [9]) (by kernel_rfl) (by simp) ?_
                refine AllReadyH.cons (o := _) (by simp only [List.getElem?_toArray, List.getElem?_cons_succ, List.getElem?_cons_zero]; rfl) (fun KK hK => ?_) ?_
                · refine step_appendR (by rfl) _ _ (by rfl) (w.heap.size + 3) (.slice pv 0 cv) rs vs 0 eKh w6.heap.size (by rfl) (by rfl) (ho.below B8) (x.s, x.b) (.slice p6 x.b.length c6) (by simp) (by simp) (Own.mono (Own.below o6 ((Below.refl _ _).alloc (Nat.le_refl _) _)) (by simp; omega)) hap6 (by omega) (by have := B8.size; omega) ?_
                  intro p9 c9 w9 hR9 hg9
                  have hB9 : Below (w.heap.size + 3) V w9 := (B8.mono (by omega)).grown hg9 (by have := B8.size; omega) (fun b e => (ho.rowLt b e).1)
                  have hS9 : At2 w9 R (.int .u64 x.s) (.slice x.q x.b.length x.d) := ⟨hg9.cell S8.1 (fun e => hAv e.symm), hg9.cell S8.2 (fun e => hAv e.symm)⟩
                  refine hK.out _ _ ?_ (fun hS => ?_)
                  · exact hS9
                  clear hK KK
                  try simp only [Act.put, List.setIfInBounds_toArray, List.set_cons_zero, List.set_cons_succ]
                  refine wpAnyH_ready (rs := [10]) (by kernel_rfl) (by simp) ?_
                  refine AllReadyH.cons (o := _) (by simp only [List.getElem?_toArray, List.getElem?_cons_succ, List.getElem?_cons_zero]; rfl) (fun KK hK => ?_) ?_
                  · have q0 := (hB9.cell (p := ⟨w.heap.size, 0, none⟩) (by show w.heap.size < _; omega)).trans c0
                    have q1 : ∀ o, w9.frozen? ⟨w.heap.size, o, none⟩ = V.frozen? ⟨w.heap.size, o, none⟩ := fun o => hB9.frozen (p := ⟨w.heap.size, o, none⟩) (by show w.heap.size < _; omega)
                    go_simp
                    refine hK.out _ _ ?_ (fun hS => ?_)
                    · exact ⟨(World.cell?_setCell_far _ _ _ _ (by show w.heap.size ≠ R; omega)).trans hS9.1, (World.cell?_setCell_far _ _ _ _ (by show w.heap.size ≠ R; omega)).trans hS9.2⟩
                    clear hK KK
                    try simp only [Act.put, List.setIfInBounds_toArray, List.set_cons_zero, List.set_cons_succ]
                    refine wpAnyH_done (by kernel_rfl) ?_ _
                    have q2 := (hB9.cell (p := ⟨w.heap.size + 1, 0, none⟩) (by show w.heap.size + 1 < _; omega)).trans c2
                    have q3 := (hB9.frozen (p := ⟨w.heap.size + 1, 0, none⟩) (by show w.heap.size + 1 < _; omega)).trans c3
                    have KO9 := hide ((KeepsOthers.of_below B8).trans (KeepsOthers.of_grownBy hg9 (ho.below B8).rowCells))
                    gi_wp2
                    exact bodyEnd w W V w9 W0.heap.size x hgx pre rs vs _ _ p9 c9 0 z0 hz KV BV hb c0 c1 c2 c3 ho hB9 (unhide KO9) hR9 eKh HX HF HOK hxl xs0 xs1
                  exact AllReadyH.nil
                exact AllReadyH.nil
              exact AllReadyH.nil
            exact AllReadyH.nil
          exact AllReadyH.nil
        exact AllReadyH.nil
      · have hkr : K - 1 < rs.length := by omega
        obtain ⟨⟨t, bt⟩, hrt⟩ : ∃ r, rs[K - 1]? = some r := ⟨_, List.getElem?_eq_getElem hkr⟩
        have hlast : lastS rs = some t := by unfold lastS; rw [List.getLast?_eq_getElem?, eK, hrt]; rfl
        obtain ⟨t0, t1⟩ := (unhide HF).2.2.2.2 _ (List.mem_of_getElem? hrt) |>.2
        obtain ⟨u, hu⟩ : ∃ u, vs[K - 1]? = some u := ⟨_, List.getElem?_eq_getElem (by rw [ho.len]; exact hkr)⟩
        rcases id ho.row.2 with ⟨_, h0⟩ | ⟨g, cap', cur, ev, hgB, hgg, _, _, _, _⟩
        · omega
        · simp only [Value.slice.injEq] at ev
          obtain ⟨rfl, -, rfl⟩ := ev
          have row' := ho.row
          rw [eK] at row'
          have d0 := (row'.cellAt (2 * (K - 1)) (by omega)).trans (recCells_get rs vs (K - 1) _ u hrt hu).1
          rw [Nat.mul_comm] at d0
          dsimp only at d0
          obtain ⟨K1, eK1⟩ : ∃ K1, K - 1 = K1 := ⟨_, rfl⟩
          rw [eK1] at d0
          have hK1 : (K : Int) - 1 = (K1 : Int) := by omega
          have hK2 : (0 : Int) < (K : Int) := by omega
          have hK3 : (K1 : Int) < (K : Int) := by omega
          have hK4 : 0 < K := by omega
          have hK5 : K1 ≤ 1048578 := by omega
          have hK6 : (K1 : Int) ≤ 1048578 := by omega
          have hK7 : IntKind.i64.wrap (K1 : Int) = (K1 : Int) := IntWalk.i64_in _ (by omega)
          have HL := hide hlast
          clear eK hkr hrt hu row' hgg eK1 hlast
          have s7 := And.intro c0 (And.intro hA d0)
          refine wpIn_region_round (fun w' => w'.cell? ⟨w.heap.size, 0, none⟩ = some (.slice (some ⟨g, 0, none⟩) K cv) ∧ At2 w' R (.int .u64 x.s) (.slice x.q x.b.length x.d) ∧ w'.cell? ⟨g, K1 * 2, none⟩ = some (.int .u64 t)) (by kernel_rfl) (by kernel_rfl) (by rintro ⟨_, _, h⟩; exact h) s7 (fun hS => ?_)
          refine wpAnyH_take (i := 0) (oi := _) (v := ?_) (by simp only [List.getElem?_toArray, List.getElem?_cons_succ, List.getElem?_cons_zero]; rfl) (by kernel_rfl) (by kernel_rfl) (by kernel_rfl) (fun _ _ _ h => h) (Or.inl ⟨by rfl, ?_⟩) hS ?_
          rotate_left
          · (intro w' hSw; (try dsimp only at hSw); go_simp; try with_reducible rfl)
          simp only [Act.put, List.setIfInBounds_toArray, List.set_cons_zero, List.set_cons_succ]
          refine wpAnyH_take (i := 1) (oi := _) (v := ?_) (by simp only [List.getElem?_toArray, List.getElem?_cons_succ, List.getElem?_cons_zero]; rfl) (by kernel_rfl) (by kernel_rfl) (by kernel_rfl) (fun _ _ _ h => h) (Or.inl ⟨by rfl, ?_⟩) hS ?_
          rotate_left
          · (intro w' hSw; (try dsimp only at hSw); go_simp; try with_reducible rfl)
          simp only [Act.put, List.setIfInBounds_toArray, List.set_cons_zero, List.set_cons_succ]
          refine wpAnyH_take (i := 2) (oi := _) (v := .bool true) (by simp only [List.getElem?_toArray, List.getElem?_cons_succ, List.getElem?_cons_zero]; rfl) (by kernel_rfl) (by kernel_rfl) (by kernel_rfl) (fun _ _ _ h => h) (Or.inl ⟨by rfl, ?_⟩) hS ?_
          · (intro w' hSw; (try dsimp only at hSw); go_simp; try with_reducible rfl)
          simp only [Act.put, List.setIfInBounds_toArray, List.set_cons_zero, List.set_cons_succ]
          refine wpAnyH_take (i := 3) (oi := _) (v := .bool true) (by simp only [List.getElem?_toArray, List.getElem?_cons_succ, List.getElem?_cons_zero]; rfl) (by kernel_rfl) (by kernel_rfl) (by kernel_rfl) (fun _ _ _ h => h) (Or.inl ⟨by rfl, ?_⟩) hS ?_
          · (intro w' hSw; (try dsimp only at hSw); go_simp; try with_reducible rfl)
          simp only [Act.put, List.setIfInBounds_toArray, List.set_cons_zero, List.set_cons_succ]
          refine wpAnyH_take (i := 4) (oi := _) (v := ?_) (by simp only [List.getElem?_toArray, List.getElem?_cons_succ, List.getElem?_cons_zero]; rfl) (by kernel_rfl) (by kernel_rfl) (by kernel_rfl) (fun _ _ _ h => h) (Or.inl ⟨by rfl, ?_⟩) hS ?_
          rotate_left
          · (intro w' hSw; (try dsimp only at hSw); go_simp; try with_reducible rfl)
          simp only [Act.put, List.setIfInBounds_toArray, List.set_cons_zero, List.set_cons_succ]
          refine wpAnyH_take (i := 5) (oi := _) (v := ?_) (by simp only [List.getElem?_toArray, List.getElem?_cons_succ, List.getElem?_cons_zero]; rfl) (by kernel_rfl) (by kernel_rfl) (by kernel_rfl) (fun _ _ _ h => h) (Or.inl ⟨by rfl, ?_⟩) hS ?_
          rotate_left
          · (intro w' hSw; (try dsimp only at hSw); go_simp; try with_reducible rfl)
          simp only [Act.put, List.setIfInBounds_toArray, List.set_cons_zero, List.set_cons_succ]
          refine wpAnyH_take (i := 6) (oi := _) (v := ?_) (by simp only [List.getElem?_toArray, List.getElem?_cons_succ, List.getElem?_cons_zero]; rfl) (by kernel_rfl) (by kernel_rfl) (by kernel_rfl) (fun _ _ _ h => h) (Or.inl ⟨by rfl, ?_⟩) hS ?_
          rotate_left
          · (intro w' hSw; (try dsimp only at hSw); go_simp; try with_reducible rfl)
          simp only [Act.put, List.setIfInBounds_toArray, List.set_cons_zero, List.set_cons_succ]
          refine wpAnyH_take (i := 7) (oi := _) (v := ?_) (by simp only [List.getElem?_toArray, List.getElem?_cons_succ, List.getElem?_cons_zero]; rfl) (by kernel_rfl) (by kernel_rfl) (by kernel_rfl) (fun _ _ _ h => h) (Or.inl ⟨by rfl, ?_⟩) hS ?_
          rotate_left
          · (intro w' hSw; (try dsimp only at hSw); go_simp; try with_reducible rfl)
          simp only [Act.put, List.setIfInBounds_toArray, List.set_cons_zero, List.set_cons_succ]
          refine wpAnyH_take (i := 8) (oi := _) (v := ?_) (by simp only [List.getElem?_toArray, List.getElem?_cons_succ, List.getElem?_cons_zero]; rfl) (by kernel_rfl) (by kernel_rfl) (by kernel_rfl) (fun _ _ _ h => h) (Or.inl ⟨by rfl, ?_⟩) hS ?_
          rotate_left
          · (intro w' hSw; (try dsimp only at hSw); go_simp; try with_reducible rfl)
          simp only [Act.put, List.setIfInBounds_toArray, List.set_cons_zero, List.set_cons_succ]
          refine wpAnyH_take (i := 9) (oi := _) (v := ?_) (by simp only [List.getElem?_toArray, List.getElem?_cons_succ, List.getElem?_cons_zero]; rfl) (by kernel_rfl) (by kernel_rfl) (by kernel_rfl) (fun _ _ _ h => h) (Or.inl ⟨by rfl, ?_⟩) hS ?_
          rotate_left
          · (intro w' hSw; (try dsimp only at hSw); go_simp; try with_reducible rfl)
          simp only [Act.put, List.setIfInBounds_toArray, List.set_cons_zero, List.set_cons_succ]
          refine wpAnyH_take (i := 10) (oi := _) (v := ?_) (by simp only [List.getElem?_toArray, List.getElem?_cons_succ, List.getElem?_cons_zero]; rfl) (by kernel_rfl) (by kernel_rfl) (by kernel_rfl) (fun _ _ _ h => h) (Or.inl ⟨by rfl, ?_⟩) hS ?_
          rotate_left
          · (intro w' hSw; (try dsimp only at hSw); go_simp; try with_reducible rfl)
          simp only [Act.put, List.setIfInBounds_toArray, List.set_cons_zero, List.set_cons_succ]
          refine wpAnyH_take (i := 11) (oi := _) (v := ?_) (by simp only [List.getElem?_toArray, List.getElem?_cons_succ, List.getElem?_cons_zero]; rfl) (by kernel_rfl) (by kernel_rfl) (by kernel_rfl) (fun _ _ _ h => h) (Or.inl ⟨by rfl, ?_⟩) hS ?_
          rotate_left
          · (intro w' hSw; (try dsimp only at hSw); go_simp; try with_reducible rfl)
          simp only [Act.put, List.setIfInBounds_toArray, List.set_cons_zero, List.set_cons_succ]
          refine wpAnyH_take (i := 12) (oi := _) (v := ?_) (by simp only [List.getElem?_toArray, List.getElem?_cons_succ, List.getElem?_cons_zero]; rfl) (by kernel_rfl) (by kernel_rfl) (by kernel_rfl) (fun _ _ _ h => h) (Or.inl ⟨by rfl, ?_⟩) hS ?_
          rotate_left
          · (intro w' hSw; (try dsimp only at hSw); go_simp; try with_reducible rfl)
          simp only [Act.put, List.setIfInBounds_toArray, List.set_cons_zero, List.set_cons_succ]
          refine wpAnyH_ready (rs := [13]) (by kernel_rfl) (by simp) ?_
          refine AllReadyH.cons (o := _) (by simp only [List.getElem?_toArray, List.getElem?_cons_succ, List.getElem?_cons_zero]; rfl) (fun KK hK => ?_) ?_
          · refine step_call2w (by rfl) 45 _ _ _ (by rfl) (.int .u64 x.s) (.int .u64 t) (by rfl) (by rfl) (fun _ => hcg _ _) (follows_any x.s t _ xs0 xs1 t0 t1) ?_
            rintro e w7 ⟨rfl, rfl⟩
            refine ⟨_, rfl, ?_⟩
            refine hK.out _ _ ?_ (fun hS => ?_)
            · exact hS
            clear hK KK
            try simp only [Act.put, List.setIfInBounds_toArray, List.set_cons_zero, List.set_cons_succ]
            generalize hbk : okN (some t) x.s = bk
            cases bk with
            | false =>
              refine wpAnyH_take (i := 14) (oi := _) (v := .bool true) (by simp only [List.getElem?_toArray, List.getElem?_cons_succ, List.getElem?_cons_zero]; rfl) (by kernel_rfl) (by kernel_rfl) (by kernel_rfl) (fun _ _ _ h => h) (Or.inl ⟨by rfl, ?_⟩) hS ?_
              · (intro w' hSw; (try dsimp only at hSw); go_simp; try with_reducible rfl)
              simp only [Act.put, List.setIfInBounds_toArray, List.set_cons_zero, List.set_cons_succ]
              refine wpAnyH_take (i := 15) (oi := _) (v := .bool true) (by simp only [List.getElem?_toArray, List.getElem?_cons_succ, List.getElem?_cons_zero]; rfl) (by kernel_rfl) (by kernel_rfl) (by kernel_rfl) (fun _ _ _ h => h) (Or.inl ⟨by rfl, ?_⟩) hS ?_
              · (intro w' hSw; (try dsimp only at hSw); go_simp; try with_reducible rfl)
              simp only [Act.put, List.setIfInBounds_toArray, List.set_cons_zero, List.set_cons_succ]
              refine wpAnyH_take (i := 16) (oi := _) (v := ?_) (by simp only [List.getElem?_toArray, List.getElem?_cons_succ, List.getElem?_cons_zero]; rfl) (by kernel_rfl) (by kernel_rfl) (by kernel_rfl) (fun _ _ _ h => h) (Or.inl ⟨by rfl, ?_⟩) hS ?_
              rotate_left
              · (intro w' hSw; (try dsimp only at hSw); go_simp; try with_reducible rfl)
              simp only [Act.put, List.setIfInBounds_toArray, List.set_cons_zero, List.set_cons_succ]
              refine wpAnyH_done (by kernel_rfl) ?_ _
              gi_wp2
              refine ⟨(KeepsOthers.drew _).from _, ⟨rfl, rs, _, vs, ⟨c0, c1, c2, c3, ho.below (Below.refl _ _).drew⟩, fun rest => ?_⟩, hb.drew⟩
              obtain ⟨hfol, -⟩ := unhide HF
              obtain ⟨-, -, hkx⟩ := unhide HX
              have h2 := hfol (some (x.s, x.b) :: rest)
              simp only [List.map_append, List.map_cons, List.map_nil, List.append_assoc, List.cons_append, List.nil_append]
              rw [hkx, h2, unhide HL]
              simp [fol, hbk]
            | true =>
              have hok : okN (lastS rs) x.s = true := by rw [unhide HL]; exact hbk
              have HOK := hide hok
              clear hok hbk
              refine wpAnyH_take (i := 14) (oi := _) (v := .bool false) (by simp only [List.getElem?_toArray, List.getElem?_cons_succ, List.getElem?_cons_zero]; rfl) (by kernel_rfl) (by kernel_rfl) (by kernel_rfl) (fun _ _ _ h => h) (Or.inl ⟨by rfl, ?_⟩) hS ?_
              · (intro w' hSw; (try dsimp only at hSw); go_simp; try with_reducible rfl)
              simp only [Act.put, List.setIfInBounds_toArray, List.set_cons_zero, List.set_cons_succ]
              refine wpAnyH_take (i := 15) (oi := _) (v := .bool false) (by simp only [List.getElem?_toArray, List.getElem?_cons_succ, List.getElem?_cons_zero]; rfl) (by kernel_rfl) (by kernel_rfl) (by kernel_rfl) (fun _ _ _ h => h) (Or.inl ⟨by rfl, ?_⟩) hS ?_
              · (intro w' hSw; (try dsimp only at hSw); go_simp; try with_reducible rfl)
              simp only [Act.put, List.setIfInBounds_toArray, List.set_cons_zero, List.set_cons_succ]
              refine wpAnyH_take (i := 16) (oi := _) (v := ?_) (by simp only [List.getElem?_toArray, List.getElem?_cons_succ, List.getElem?_cons_zero]; rfl) (by kernel_rfl) (by kernel_rfl) (by kernel_rfl) (fun _ _ _ h => h) (Or.inl ⟨by rfl, ?_⟩) hS ?_
              rotate_left
              · (intro w' hSw; (try dsimp only at hSw); go_simp; try with_reducible rfl)
              simp only [Act.put, List.setIfInBounds_toArray, List.set_cons_zero, List.set_cons_succ]
              refine wpAnyH_done (by kernel_rfl) ?_ _
              gi_wp2_with fail
              clear hS
              try clear s7 d0
              replace c0 : W.drew.cell? ⟨w.heap.size, 0, none⟩ = some _ := c0
              replace c1 : W.drew.frozen? ⟨w.heap.size, 0, none⟩ = false := c1
              replace c2 : W.drew.cell? ⟨w.heap.size + 1, 0, none⟩ = some _ := c2
              replace c3 : W.drew.frozen? ⟨w.heap.size + 1, 0, none⟩ = false := c3
              replace ho := ho.below (Below.refl W.heap.size W).drew
              replace hA : At2 W.drew R (.int .u64 x.s) (.slice x.q x.b.length x.d) := hA
              replace hb : Below w.heap.size w W.drew := hb.drew
              have hzV : W0.heap.size ≤ W.drew.heap.size := hz
              have KV : KeepsOthers W W.drew := KeepsOthers.drew W
              have BV : Below W.heap.size W W.drew := (Below.refl _ _).drew
              generalize W.drew = V at *
              have B5 : Below V.heap.size V (V.alloc (.cells #[.slice x.q x.b.length x.d] 22)).drew := ((Below.refl V.heap.size V).alloc (Nat.le_refl _) _).drew
              have S5 := hA.below B5
              have X5 := cell_below c0 B5
              refine wpIn_region_round (fun w' => At2 w' R (.int .u64 x.s) (.slice x.q x.b.length x.d)) (by kernel_rfl) (by kernel_rfl) (by rintro ⟨_, _, h⟩; exact h) hA (fun hS => ?_)
              refine wpAnyH_take (i := 1) (oi := _) (v := ?_) (by simp only [List.getElem?_toArray, List.getElem?_cons_succ, List.getElem?_cons_zero]; rfl) (by kernel_rfl) (by kernel_rfl) (by kernel_rfl) (fun _ _ _ h => h) (Or.inl ⟨by rfl, ?_⟩) hS ?_
              rotate_left
              · (intro w' hSw; (try dsimp only at hSw); go_simp; try with_reducible rfl)
              simp only [Act.put, List.setIfInBounds_toArray, List.set_cons_zero, List.set_cons_succ]
              refine wpAnyH_take (i := 2) (oi := _) (v := ?_) (by simp only [List.getElem?_toArray, List.getElem?_cons_succ, List.getElem?_cons_zero]; rfl) (by kernel_rfl) (by kernel_rfl) (by kernel_rfl) (fun _ _ _ h => h) (Or.inl ⟨by rfl, ?_⟩) hS ?_
              rotate_left
              · (intro w' hSw; (try dsimp only at hSw); go_simp; try with_reducible rfl)
              simp only [Act.put, List.setIfInBounds_toArray, List.set_cons_zero, List.set_cons_succ]
              refine wpAnyH_take (i := 3) (oi := _) (v := ?_) (by simp only [List.getElem?_toArray, List.getElem?_cons_succ, List.getElem?_cons_zero]; rfl) (by kernel_rfl) (by kernel_rfl) (by kernel_rfl) (fun _ _ _ h => h) (Or.inl ⟨by rfl, ?_⟩) hS ?_
              rotate_left
              · (intro w' hSw; (try dsimp only at hSw); go_simp; try with_reducible rfl)
              simp only [Act.put, List.setIfInBounds_toArray, List.set_cons_zero, List.set_cons_succ]
              refine wpAnyH_take (i := 4) (oi := _) (v := ?_) (by simp only [List.getElem?_toArray, List.getElem?_cons_succ, List.getElem?_cons_zero]; rfl) (by kernel_rfl) (by kernel_rfl) (by kernel_rfl) (fun _ _ _ h => h) (Or.inl ⟨by rfl, ?_⟩) hS ?_
              rotate_left
              · (intro w' hSw; (try dsimp only at hSw); go_simp; try with_reducible rfl)
              simp only [Act.put, List.setIfInBounds_toArray, List.set_cons_zero, List.set_cons_succ]
              refine wpAnyH_ready (rs := [0, 5]) (by kernel_rfl) (by simp) ?_
              refine AllReadyH.cons (o := _) (by simp only [List.getElem?_toArray, List.getElem?_cons_succ, List.getElem?_cons_zero]; rfl) (fun KK hK => ?_) ?_
              · go_simp
                refine hK.out _ _ ?_ (fun hS => ?_)
                · exact hA
                clear hK KK
                try simp only [Act.put, List.setIfInBounds_toArray, List.set_cons_zero, List.set_cons_succ]
                refine wpAnyH_ready (rs := [5]) (by kernel_rfl) (by simp) ?_
                refine AllReadyH.cons (o := _) (by simp only [List.getElem?_toArray, List.getElem?_cons_succ, List.getElem?_cons_zero]; rfl) (fun KK hK => ?_) ?_
                · go_simp
                  refine hK.out _ _ ?_ (fun hS => ?_)
                  · exact S5
                  clear hK KK
                  try simp only [Act.put, List.setIfInBounds_toArray, List.set_cons_zero, List.set_cons_succ]
                  refine wpAnyH_ready (rs := [6]) (by kernel_rfl) (by simp) ?_
                  refine AllReadyH.cons (o := _) (by simp only [List.getElem?_toArray, List.getElem?_cons_succ, List.getElem?_cons_zero]; rfl) (fun KK hK => ?_) ?_
                  · refine step_call1 (by rfl) 38 _ _ (by rfl) (.slice (some ⟨V.heap.size, 0, none⟩) 1 1) (by rfl) (fun _ => hcf _ _) (joined_any V.heap.size [.slice x.q x.b.length x.d] [x.b] x.b x.b.length 1 rfl (by show _ = _; rw [cat_one]) rfl _ (parts1 (by simp) (hRx.below (Below.trans hb (B5.mono (by omega))))) (by omega) (by omega)) ?_
                    rintro e w6 ⟨p6, c6, rfl, o6, hb6⟩
                    refine ⟨_, rfl, ?_⟩
                    have B6 := Below.step B5 hb6
                    have z6 := B6.size
                    have z6' := hb6.size
                    have S6 := hA.below B6
                    have X6 := cell_below c0 B6
                    have hap6 : ∀ u' ∈ vs, Apart u' (.slice p6 x.b.length c6) := fun u' hu' b e1 e2 => by
                      have h1 := ho.lt u' hu' b e1
                      have h2 := (Own.lt o6 b e2).1
                      simp at h2
                      omega
                    refine hK.out _ _ ?_ (fun hS => ?_)
                    · exact S6
                    clear hK KK
                    try simp only [Act.put, List.setIfInBounds_toArray, List.set_cons_zero, List.set_cons_succ]
                    refine wpAnyH_take (i := 7) (oi := _) (v := ?_) (by simp only [List.getElem?_toArray, List.getElem?_cons_succ, List.getElem?_cons_zero]; rfl) (by kernel_rfl) (by kernel_rfl) (by kernel_rfl) (fun _ _ _ h => h) (Or.inl ⟨by rfl, ?_⟩) hS ?_
                    rotate_left
                    · (intro w' hSw; (try dsimp only at hSw); go_simp; try with_reducible rfl)
                    simp only [Act.put, List.setIfInBounds_toArray, List.set_cons_zero, List.set_cons_succ]
                    refine wpAnyH_ready (rs := [8]) (by kernel_rfl) (by simp) ?_
                    refine AllReadyH.cons (o := _) (by simp only [List.getElem?_toArray, List.getElem?_cons_succ, List.getElem?_cons_zero]; rfl) (fun KK hK => ?_) ?_
                    · go_simp
                      refine hK.out _ _ ?_ (fun hS => ?_)
                      · exact hA.below (B6.alloc (by omega) _)
                      clear hK KK
                      try simp only [Act.put, List.setIfInBounds_toArray, List.set_cons_zero, List.set_cons_succ]
                      have B8 : Below V.heap.size V (w6.alloc (.cells #[.int .u64 x.s, .slice p6 x.b.length c6] 38)) := B6.alloc (by omega) _
                      have S8 := hA.below B8
                      have X8 := cell_below c0 B8
                      refine wpAnyH_ready (rs := [9]) (by kernel_rfl) (by simp) ?_
                      refine AllReadyH.cons (o := _) (by simp only [List.getElem?_toArray, List.getElem?_cons_succ, List.getElem?_cons_zero]; rfl) (fun KK hK => ?_) ?_
                      · refine step_appendR (by rfl) _ _ (by rfl) (w.heap.size + 3) (.slice (some ⟨g, 0, none⟩) K cv) rs vs K eKh w6.heap.size (by rfl) (by rfl) (ho.below B8) (x.s, x.b) (.slice p6 x.b.length c6) (by simp) (by simp) (Own.mono (Own.below o6 ((Below.refl _ _).alloc (Nat.le_refl _) _)) (by simp; omega)) hap6 (by omega) (by have := B8.size; omega) ?_
                        intro p9 c9 w9 hR9 hg9
                        have hB9 : Below (w.heap.size + 3) V w9 := (B8.mono (by omega)).grown hg9 (by have := B8.size; omega) (fun b e => (ho.rowLt b e).1)
                        have hS9 : At2 w9 R (.int .u64 x.s) (.slice x.q x.b.length x.d) := ⟨hg9.cell S8.1 (fun e => hAv e.symm), hg9.cell S8.2 (fun e => hAv e.symm)⟩
                        refine hK.out _ _ ?_ (fun hS => ?_)
                        · exact hS9
                        clear hK KK
                        try simp only [Act.put, List.setIfInBounds_toArray, List.set_cons_zero, List.set_cons_succ]
                        refine wpAnyH_ready (rs := [10]) (by kernel_rfl) (by simp) ?_
                        refine AllReadyH.cons (o := _) (by simp only [List.getElem?_toArray, List.getElem?_cons_succ, List.getElem?_cons_zero]; rfl) (fun KK hK => ?_) ?_
                        · have q0 := (hB9.cell (p := ⟨w.heap.size, 0, none⟩) (by show w.heap.size < _; omega)).trans c0
                          have q1 : ∀ o, w9.frozen? ⟨w.heap.size, o, none⟩ = V.frozen? ⟨w.heap.size, o, none⟩ := fun o => hB9.frozen (p := ⟨w.heap.size, o, none⟩) (by show w.heap.size < _; omega)
                          go_simp
                          refine hK.out _ _ ?_ (fun hS => ?_)
                          · exact ⟨(World.cell?_setCell_far _ _ _ _ (by show w.heap.size ≠ R; omega)).trans hS9.1, (World.cell?_setCell_far _ _ _ _ (by show w.heap.size ≠ R; omega)).trans hS9.2⟩
                          clear hK KK
                          try simp only [Act.put, List.setIfInBounds_toArray, List.set_cons_zero, List.set_cons_succ]
                          refine wpAnyH_done (by kernel_rfl) ?_ _
                          have q2 := (hB9.cell (p := ⟨w.heap.size + 1, 0, none⟩) (by show w.heap.size + 1 < _; omega)).trans c2
                          have q3 := (hB9.frozen (p := ⟨w.heap.size + 1, 0, none⟩) (by show w.heap.size + 1 < _; omega)).trans c3
                          have KO9 := hide ((KeepsOthers.of_below B8).trans (KeepsOthers.of_grownBy hg9 (ho.below B8).rowCells))
                          gi_wp2
                          exact bodyEnd w W V w9 W0.heap.size x hgx pre rs vs _ _ p9 c9 K z0 hz KV BV hb c0 c1 c2 c3 ho hB9 (unhide KO9) hR9 eKh HX HF HOK hxl xs0 xs1
                        exact AllReadyH.nil
                      exact AllReadyH.nil
                    exact AllReadyH.nil
                  exact AllReadyH.nil
                exact AllReadyH.nil
              refine AllReadyH.cons (o := _) (by simp only [List.getElem?_toArray, List.getElem?_cons_succ, List.getElem?_cons_zero]; rfl) (fun KK hK => ?_) ?_
              · go_simp
                refine hK.out _ _ ?_ (fun hS => ?_)
                · exact S5
                clear hK KK
                try simp only [Act.put, List.setIfInBounds_toArray, List.set_cons_zero, List.set_cons_succ]
                refine wpAnyH_ready (rs := [0, 6]) (by kernel_rfl) (by simp) ?_
                refine AllReadyH.cons (o := _) (by simp only [List.getElem?_toArray, List.getElem?_cons_succ, List.getElem?_cons_zero]; rfl) (fun KK hK => ?_) ?_
                · go_simp
                  refine hK.out _ _ ?_ (fun hS => ?_)
                  · exact S5
                  clear hK KK
                  try simp only [Act.put, List.setIfInBounds_toArray, List.set_cons_zero, List.set_cons_succ]
                  refine wpAnyH_ready (rs := [6]) (by kernel_rfl) (by simp) ?_
                  refine AllReadyH.cons (o := _) (by simp only [List.getElem?_toArray, List.getElem?_cons_succ, List.getElem?_cons_zero]; rfl) (fun KK hK => ?_) ?_
                  · refine step_call1 (by rfl) 38 _ _ (by rfl) (.slice (some ⟨V.heap.size, 0, none⟩) 1 1) (by rfl) (fun _ => hcf _ _) (joined_any V.heap.size [.slice x.q x.b.length x.d] [x.b] x.b x.b.length 1 rfl (by show _ = _; rw [cat_one]) rfl _ (parts1 (by simp) (hRx.below (Below.trans hb (B5.mono (by omega))))) (by omega) (by omega)) ?_
                    rintro e w6 ⟨p6, c6, rfl, o6, hb6⟩
                    refine ⟨_, rfl, ?_⟩
                    have B6 := Below.step B5 hb6
                    have z6 := B6.size
                    have z6' := hb6.size
                    have S6 := hA.below B6
                    have X6 := cell_below c0 B6
                    have hap6 : ∀ u' ∈ vs, Apart u' (.slice p6 x.b.length c6) := fun u' hu' b e1 e2 => by
                      have h1 := ho.lt u' hu' b e1
                      have h2 := (Own.lt o6 b e2).1
                      simp at h2
                      omega
                    refine hK.out _ _ ?_ (fun hS => ?_)
                    · exact S6
                    clear hK KK
                    try simp only [Act.put, List.setIfInBounds_toArray, List.set_cons_zero, List.set_cons_succ]
                    refine wpAnyH_take (i := 7) (oi := _) (v := ?_) (by simp only [List.getElem?_toArray, List.getElem?_cons_succ, List.getElem?_cons_zero]; rfl) (by kernel_rfl) (by kernel_rfl) (by kernel_rfl) (fun _ _ _ h => h) (Or.inl ⟨by rfl, ?_⟩) hS ?_
                    rotate_left
                    · (intro w' hSw; (try dsimp only at hSw); go_simp; try with_reducible rfl)
                    simp only [Act.put, List.setIfInBounds_toArray, List.set_cons_zero, List.set_cons_succ]
                    refine wpAnyH_ready (rs := [8]) (by kernel_rfl) (by simp) ?_
                    refine AllReadyH.cons (o := _) (by simp only [List.getElem?_toArray, List.getElem?_cons_succ, List.getElem?_cons_zero]; rfl) (fun KK hK => ?_) ?_
                    · go_simp
                      refine hK.out _ _ ?_ (fun hS => ?_)
                      · exact hA.below (B6.alloc (by omega) _)
                      clear hK KK
                      try simp only [Act.put, List.setIfInBounds_toArray, List.set_cons_zero, List.set_cons_succ]
                      have B8 : Below V.heap.size V (w6.alloc (.cells #[.int .u64 x.s, .slice p6 x.b.length c6] 38)) := B6.alloc (by omega) _
                      have S8 := hA.below B8
                      have X8 := cell_below c0 B8
                      refine wpAnyH_ready (rs := [9]) (by kernel_rfl) (by simp) ?_
                      refine AllReadyH.cons (o := _) (by simp only [List.getElem?_toArray, List.getElem?_cons_succ, List.getElem?_cons_zero]; rfl) (fun KK hK => ?_) ?_
                      · refine step_appendR (by rfl) _ _ (by rfl) (w.heap.size + 3) (.slice (some ⟨g, 0, none⟩) K cv) rs vs K eKh w6.heap.size (by rfl) (by rfl) (ho.below B8) (x.s, x.b) (.slice p6 x.b.length c6) (by simp) (by simp) (Own.mono (Own.below o6 ((Below.refl _ _).alloc (Nat.le_refl _) _)) (by simp; omega)) hap6 (by omega) (by have := B8.size; omega) ?_
                        intro p9 c9 w9 hR9 hg9
                        have hB9 : Below (w.heap.size + 3) V w9 := (B8.mono (by omega)).grown hg9 (by have := B8.size; omega) (fun b e => (ho.rowLt b e).1)
                        have hS9 : At2 w9 R (.int .u64 x.s) (.slice x.q x.b.length x.d) := ⟨hg9.cell S8.1 (fun e => hAv e.symm), hg9.cell S8.2 (fun e => hAv e.symm)⟩
                        refine hK.out _ _ ?_ (fun hS => ?_)
                        · exact hS9
                        clear hK KK
                        try simp only [Act.put, List.setIfInBounds_toArray, List.set_cons_zero, List.set_cons_succ]
                        refine wpAnyH_ready (rs := [10]) (by kernel_rfl) (by simp) ?_
                        refine AllReadyH.cons (o := _) (by simp only [List.getElem?_toArray, List.getElem?_cons_succ, List.getElem?_cons_zero]; rfl) (fun KK hK => ?_) ?_
                        · have q0 := (hB9.cell (p := ⟨w.heap.size, 0, none⟩) (by show w.heap.size < _; omega)).trans c0
                          have q1 : ∀ o, w9.frozen? ⟨w.heap.size, o, none⟩ = V.frozen? ⟨w.heap.size, o, none⟩ := fun o => hB9.frozen (p := ⟨w.heap.size, o, none⟩) (by show w.heap.size < _; omega)
                          go_simp
                          refine hK.out _ _ ?_ (fun hS => ?_)
                          · exact ⟨(World.cell?_setCell_far _ _ _ _ (by show w.heap.size ≠ R; omega)).trans hS9.1, (World.cell?_setCell_far _ _ _ _ (by show w.heap.size ≠ R; omega)).trans hS9.2⟩
                          clear hK KK
                          try simp only [Act.put, List.setIfInBounds_toArray, List.set_cons_zero, List.set_cons_succ]
                          refine wpAnyH_done (by kernel_rfl) ?_ _
                          have q2 := (hB9.cell (p := ⟨w.heap.size + 1, 0, none⟩) (by show w.heap.size + 1 < _; omega)).trans c2
                          have q3 := (hB9.frozen (p := ⟨w.heap.size + 1, 0, none⟩) (by show w.heap.size + 1 < _; omega)).trans c3
                          have KO9 := hide ((KeepsOthers.of_below B8).trans (KeepsOthers.of_grownBy hg9 (ho.below B8).rowCells))
                          gi_wp2
                          exact bodyEnd w W V w9 W0.heap.size x hgx pre rs vs _ _ p9 c9 K z0 hz KV BV hb c0 c1 c2 c3 ho hB9 (unhide KO9) hR9 eKh HX HF HOK hxl xs0 xs1
                        exact AllReadyH.nil
                      exact AllReadyH.nil
                    exact AllReadyH.nil
                  exact AllReadyH.nil
                refine AllReadyH.cons (o := _) (by simp only [List.getElem?_toArray, List.getElem?_cons_succ, List.getElem?_cons_zero]; rfl) (fun KK hK => ?_) ?_
                · refine step_call1 (by rfl) 38 _ _ (by rfl) (.slice (some ⟨V.heap.size, 0, none⟩) 1 1) (by rfl) (fun _ => hcf _ _) (joined_any V.heap.size [.slice x.q x.b.length x.d] [x.b] x.b x.b.length 1 rfl (by show _ = _; rw [cat_one]) rfl _ (parts1 (by simp) (hRx.below (Below.trans hb (B5.mono (by omega))))) (by omega) (by omega)) ?_
                  rintro e w6 ⟨p6, c6, rfl, o6, hb6⟩
                  refine ⟨_, rfl, ?_⟩
                  have B6 := Below.step B5 hb6
                  have z6 := B6.size
                  have z6' := hb6.size
                  have S6 := hA.below B6
                  have X6 := cell_below c0 B6
                  have hap6 : ∀ u' ∈ vs, Apart u' (.slice p6 x.b.length c6) := fun u' hu' b e1 e2 => by
                    have h1 := ho.lt u' hu' b e1
                    have h2 := (Own.lt o6 b e2).1
                    simp at h2
                    omega
                  refine hK.out _ _ ?_ (fun hS => ?_)
                  · exact S6
                  clear hK KK
                  try simp only [Act.put, List.setIfInBounds_toArray, List.set_cons_zero, List.set_cons_succ]
                  refine wpAnyH_take (i := 7) (oi := _) (v := ?_) (by simp only [List.getElem?_toArray, List.getElem?_cons_succ, List.getElem?_cons_zero]; rfl) (by kernel_rfl) (by kernel_rfl) (by kernel_rfl) (fun _ _ _ h => h) (Or.inl ⟨by rfl, ?_⟩) hS ?_
                  rotate_left
                  · (intro w' hSw; (try dsimp only at hSw); go_simp; try with_reducible rfl)
                  simp only [Act.put, List.setIfInBounds_toArray, List.set_cons_zero, List.set_cons_succ]
                  refine wpAnyH_ready (rs := [0, 8]) (by kernel_rfl) (by simp) ?_
                  refine AllReadyH.cons (o := _) (by simp only [List.getElem?_toArray, List.getElem?_cons_succ, List.getElem?_cons_zero]; rfl) (fun KK hK => ?_) ?_
                  · go_simp
                    refine hK.out _ _ ?_ (fun hS => ?_)
                    · exact S6
                    clear hK KK
                    try simp only [Act.put, List.setIfInBounds_toArray, List.set_cons_zero, List.set_cons_succ]
                    refine wpAnyH_ready (rs := [8]) (by kernel_rfl) (by simp) ?_
                    refine AllReadyH.cons (o := _) (by simp only [List.getElem?_toArray, List.getElem?_cons_succ, List.getElem?_cons_zero]; rfl) (fun KK hK => ?_) ?_
                    · go_simp
                      refine hK.out _ _ ?_ (fun hS => ?_)
                      · exact hA.below (B6.alloc (by omega) _)
                      clear hK KK
                      try simp only [Act.put, List.setIfInBounds_toArray, List.set_cons_zero, List.set_cons_succ]
                      have B8 : Below V.heap.size V (w6.alloc (.cells #[.int .u64 x.s, .slice p6 x.b.length c6] 38)) := B6.alloc (by omega) _
                      have S8 := hA.below B8
                      have X8 := cell_below c0 B8
                      refine wpAnyH_ready (rs := [9]) (by kernel_rfl) (by simp) ?_
                      refine AllReadyH.cons (o := _) (by simp only [List.getElem?_toArray, List.getElem?_cons_succ, List.getElem?_cons_zero]; rfl) (fun KK hK => ?_) ?_
                      · refine step_appendR (by rfl) _ _ (by rfl) (w.heap.size + 3) (.slice (some ⟨g, 0, none⟩) K cv) rs vs K eKh w6.heap.size (by rfl) (by rfl) (ho.below B8) (x.s, x.b) (.slice p6 x.b.length c6) (by simp) (by simp) (Own.mono (Own.below o6 ((Below.refl _ _).alloc (Nat.le_refl _) _)) (by simp; omega)) hap6 (by omega) (by have := B8.size; omega) ?_
                        intro p9 c9 w9 hR9 hg9
                        have hB9 : Below (w.heap.size + 3) V w9 := (B8.mono (by omega)).grown hg9 (by have := B8.size; omega) (fun b e => (ho.rowLt b e).1)
                        have hS9 : At2 w9 R (.int .u64 x.s) (.slice x.q x.b.length x.d) := ⟨hg9.cell S8.1 (fun e => hAv e.symm), hg9.cell S8.2 (fun e => hAv e.symm)⟩
                        refine hK.out _ _ ?_ (fun hS => ?_)
                        · exact hS9
                        clear hK KK
                        try simp only [Act.put, List.setIfInBounds_toArray, List.set_cons_zero, List.set_cons_succ]
                        refine wpAnyH_ready (rs := [10]) (by kernel_rfl) (by simp) ?_
                        refine AllReadyH.cons (o := _) (by simp only [List.getElem?_toArray, List.getElem?_cons_succ, List.getElem?_cons_zero]; rfl) (fun KK hK => ?_) ?_
                        · have q0 := (hB9.cell (p := ⟨w.heap.size, 0, none⟩) (by show w.heap.size < _; omega)).trans c0
                          have q1 : ∀ o, w9.frozen? ⟨w.heap.size, o, none⟩ = V.frozen? ⟨w.heap.size, o, none⟩ := fun o => hB9.frozen (p := ⟨w.heap.size, o, none⟩) (by show w.heap.size < _; omega)
                          go_simp
                          refine hK.out _ _ ?_ (fun hS => ?_)
                          · exact ⟨(World.cell?_setCell_far _ _ _ _ (by show w.heap.size ≠ R; omega)).trans hS9.1, (World.cell?_setCell_far _ _ _ _ (by show w.heap.size ≠ R; omega)).trans hS9.2⟩
                          clear hK KK
                          try simp only [Act.put, List.setIfInBounds_toArray, List.set_cons_zero, List.set_cons_succ]
                          refine wpAnyH_done (by kernel_rfl) ?_ _
                          have q2 := (hB9.cell (p := ⟨w.heap.size + 1, 0, none⟩) (by show w.heap.size + 1 < _; omega)).trans c2
                          have q3 := (hB9.frozen (p := ⟨w.heap.size + 1, 0, none⟩) (by show w.heap.size + 1 < _; omega)).trans c3
                          have KO9 := hide ((KeepsOthers.of_below B8).trans (KeepsOthers.of_grownBy hg9 (ho.below B8).rowCells))
                          gi_wp2
                          exact bodyEnd w W V w9 W0.heap.size x hgx pre rs vs _ _ p9 c9 K z0 hz KV BV hb c0 c1 c2 c3 ho hB9 (unhide KO9) hR9 eKh HX HF HOK hxl xs0 xs1
                        exact AllReadyH.nil
                      exact AllReadyH.nil
                    exact AllReadyH.nil
                  refine AllReadyH.cons (o := _) (by simp only [List.getElem?_toArray, List.getElem?_cons_succ, List.getElem?_cons_zero]; rfl) (fun KK hK => ?_) ?_
                  · go_simp
                    refine hK.out _ _ ?_ (fun hS => ?_)
                    · exact hA.below (B6.alloc (by omega) _)
                    clear hK KK
                    try simp only [Act.put, List.setIfInBounds_toArray, List.set_cons_zero, List.set_cons_succ]
                    have B8 : Below V.heap.size V (w6.alloc (.cells #[.int .u64 x.s, .slice p6 x.b.length c6] 38)) := B6.alloc (by omega) _
                    have S8 := hA.below B8
                    have X8 := cell_below c0 B8
                    refine wpAnyH_ready (rs := [0]) (by kernel_rfl) (by simp) ?_
                    refine AllReadyH.cons (o := _) (by simp only [List.getElem?_toArray, List.getElem?_cons_succ, List.getElem?_cons_zero]; rfl) (fun KK hK => ?_) ?_
                    · go_simp
                      refine hK.out _ _ ?_ (fun hS => ?_)
                      · exact S8
                      clear hK KK
                      try simp only [Act.put, List.setIfInBounds_toArray, List.set_cons_zero, List.set_cons_succ]
                      refine wpAnyH_ready (rs := [9]) (by kernel_rfl) (by simp) ?_
                      refine AllReadyH.cons (o := _) (by simp only [List.getElem?_toArray, List.getElem?_cons_succ, List.getElem?_cons_zero]; rfl) (fun KK hK => ?_) ?_
                      · refine step_appendR (by rfl) _ _ (by rfl) (w.heap.size + 3) (.slice (some ⟨g, 0, none⟩) K cv) rs vs K eKh w6.heap.size (by rfl) (by rfl) (ho.below B8) (x.s, x.b) (.slice p6 x.b.length c6) (by simp) (by simp) (Own.mono (Own.below o6 ((Below.refl _ _).alloc (Nat.le_refl _) _)) (by simp; omega)) hap6 (by omega) (by have := B8.size; omega) ?_
                        intro p9 c9 w9 hR9 hg9
                        have hB9 : Below (w.heap.size + 3) V w9 := (B8.mono (by omega)).grown hg9 (by have := B8.size; omega) (fun b e => (ho.rowLt b e).1)
                        have hS9 : At2 w9 R (.int .u64 x.s) (.slice x.q x.b.length x.d) := ⟨hg9.cell S8.1 (fun e => hAv e.symm), hg9.cell S8.2 (fun e => hAv e.symm)⟩
                        refine hK.out _ _ ?_ (fun hS => ?_)
                        · exact hS9
                        clear hK KK
                        try simp only [Act.put, List.setIfInBounds_toArray, List.set_cons_zero, List.set_cons_succ]
                        refine wpAnyH_ready (rs := [10]) (by kernel_rfl) (by simp) ?_
                        refine AllReadyH.cons (o := _) (by simp only [List.getElem?_toArray, List.getElem?_cons_succ, List.getElem?_cons_zero]; rfl) (fun KK hK => ?_) ?_
                        · have q0 := (hB9.cell (p := ⟨w.heap.size, 0, none⟩) (by show w.heap.size < _; omega)).trans c0
                          have q1 : ∀ o, w9.frozen? ⟨w.heap.size, o, none⟩ = V.frozen? ⟨w.heap.size, o, none⟩ := fun o => hB9.frozen (p := ⟨w.heap.size, o, none⟩) (by show w.heap.size < _; omega)
                          go_simp
                          refine hK.out _ _ ?_ (fun hS => ?_)
                          · exact ⟨(World.cell?_setCell_far _ _ _ _ (by show w.heap.size ≠ R; omega)).trans hS9.1, (World.cell?_setCell_far _ _ _ _ (by show w.heap.size ≠ R; omega)).trans hS9.2⟩
                          clear hK KK
                          try simp only [Act.put, List.setIfInBounds_toArray, List.set_cons_zero, List.set_cons_succ]
                          refine wpAnyH_done (by kernel_rfl) ?_ _
                          have q2 := (hB9.cell (p := ⟨w.heap.size + 1, 0, none⟩) (by show w.heap.size + 1 < _; omega)).trans c2
                          have q3 := (hB9.frozen (p := ⟨w.heap.size + 1, 0, none⟩) (by show w.heap.size + 1 < _; omega)).trans c3
                          have KO9 := hide ((KeepsOthers.of_below B8).trans (KeepsOthers.of_grownBy hg9 (ho.below B8).rowCells))
                          gi_wp2
                          exact bodyEnd w W V w9 W0.heap.size x hgx pre rs vs _ _ p9 c9 K z0 hz KV BV hb c0 c1 c2 c3 ho hB9 (unhide KO9) hR9 eKh HX HF HOK hxl xs0 xs1
                        exact AllReadyH.nil
                      exact AllReadyH.nil
                    exact AllReadyH.nil
                  exact AllReadyH.nil
                exact AllReadyH.nil
              exact AllReadyH.nil
          exact AllReadyH.nil
  case done =>
    rintro D ys W hD ⟨pre, x, rfl, hx⟩ ⟨⟨rs, v, vs, _, _, hnz, _⟩, _⟩ hK
    exact absurd hx (hnz x (by simp))
  case stop =>
    rintro D c ys W hD hSp ⟨⟨rfl, rs, v, vs, ⟨c0, c1, c2, c3, ho⟩, hfol⟩, hb⟩ hK
    obtain ⟨rest, hrest⟩ := hSp
    have erl : rl l = rs := by unfold rl; rw [el, ← hrest]; exact hfol rest
    obtain ⟨pv, cv, rfl⟩ := ho.form
    refine wpIn_wide.2 ?_
    clear hfol hrest
    go_wp2_with fail
    have k0 := And.intro c0 c2
    go_region_held3 (fun w' => w'.cell? ⟨w.heap.size, 0, none⟩ = some (.slice pv rs.length cv) ∧ w'.cell? ⟨w.heap.size + 1, 0, none⟩ = some (.int .i64 (tkR rs : Nat))) (exact k0) (fail)
    go_wp2
    try rw [Exit.noGoto_ret]
    refine ⟨by simp, .inl ⟨_, _, rfl, run_takeDeferred (w := W.drew) hK, ?_⟩⟩
    have hKd : W.drew.heap[D]? = some (.deferred (some [])) := hK
    refine ⟨.tuple #[.slice pv rs.length cv, .int .i64 (tkR rs : Nat)], by simp [results, Try.results26, go_sem], ?_⟩
    rw [erl]
    refine ⟨pv, cv, vs, rfl, ((ho.below (Below.refl _ _).drew).keptNC (grownBy_putObj' W.drew D (.deferred none)) (fun r e => by cases e; exact ⟨_, hKd, rfl⟩)).mono (by omega), ?_⟩
    exact hb.drew.trans (belowK_b (w := w) (Nat.le_refl _) W.drew D _ _ (by omega) hKd rfl rfl)

theorem implReadLog (len cap : Nat) (p : Option Addr) (l : List Int) (w : World) (hR : Rd w (.slice p len cap) l) (hB : Byt l) (el : l.length = len) (hlen : len ≤ 1048576) (hcap : len ≤ cap) (hcm : cap ≤ maxLen) (hp : (p = none ∧ cap = 0) ∨ ∃ b o, p = some ⟨b, o, none⟩) :
    Calls Try.prog 26 #[.slice p len cap] w (RlRes w (rl l)) :=
  callsIn_wide.1 (implReadLog_in 3 (by omega) len cap p l w hR hB el hlen hcap hcm hp)
end Go.Proofs.Ytipeflnkcjkoeaa
