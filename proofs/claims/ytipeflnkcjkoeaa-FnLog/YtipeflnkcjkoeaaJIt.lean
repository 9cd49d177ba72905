import Derived.Test.YtipeflnkcjkoeaaJFr
namespace Go.Proofs.Ytipeflnkcjkoeaa
open Go.ChangeShapes Go.WideShapes Go.ChangeAt Go.RowKit Go.Shelf
set_option linter.unusedVariables false
set_option linter.unusedSimpArgs false
attribute [local go_sem] Oper.semAt_some

/-- what the iterator yields: a record (its body borrowed), and how many bytes it takes -/
structure It where
  s : Int
  q : Option Addr
  d : Nat
  b : List Int
  z : Nat
def Good (w : World) (x : It) : Prop := x.z = 0 ∨ (x.z = x.b.length + 14 ∧ x.b.length ≤ 1000 ∧ Byt x.b ∧ 0 ≤ x.s ∧ x.s < 18446744073709551616 ∧ Rd w (.slice x.q x.b.length x.d) x.b)
abbrev Itw (w : World) := { x : It // Good w x }
def key (x : It) : Option R1 := if x.z = 0 then none else some (x.s, x.b)
abbrev itEnc {w : World} (x : Itw w) : Array Value := #[recV x.1.s (.slice x.1.q x.1.b.length x.1.d), .int .i64 x.1.z]

/-- all that is yielded, the torn one (none) at last -/
def yl : Nat → List Int → List (Option R1)
  | 0, _ => [none]
  | f + 1, l => match rec1 l with
    | none => [none]
    | some r => some r :: yl f (l.drop (r.2.length + 14))
theorem yl_none {f : Nat} {l : List Int} (h : rec1 l = none) : yl f l = [none] := by cases f <;> simp [yl, h]
theorem yl_some {f : Nat} {l : List Int} {r : R1} (h : rec1 l = some r) : yl (f + 1) l = some r :: yl f (l.drop (r.2.length + 14)) := by simp [yl, h]
theorem yl_head (f : Nat) (l : List Int) (hf : 0 < f) : [rec1 l] <+: yl f l := by
  obtain ⟨f', rfl⟩ : ∃ f', f = f' + 1 := ⟨f - 1, by omega⟩
  cases h : rec1 l with
  | none => rw [yl_none h]; exact List.prefix_refl _
  | some r => rw [yl_some h]; exact ⟨_, rfl⟩
theorem rec1_short {l : List Int} (h : l.length < 14) : rec1 l = none := by unfold rec1; rw [if_pos (by omega)]
theorem Byt.drop {l : List Int} (h : Byt l) (n : Nat) : Byt (l.drop n) := fun z hz => h z (List.mem_of_mem_drop hz)

theorem first_at (w wr : World) (q : Option Addr) (m d : Nat) (l : List Int) (em : l.length = m) (hr : Rd w (.slice q m d) l) (hb : Below w.heap.size w wr) (hB : Byt l) (hm : m ≤ 2097152) (hd : m ≤ d) (hdm : d ≤ maxLen) :
    Calls Try.prog 54 #[.slice q m d] wr fun e w' => Below wr.heap.size wr w' ∧ ∃ x : Itw w, key x.1 = rec1 l ∧ e = .returned (.tuple (itEnc x)) := by
  by_cases h10 : m < 10
  · refine (first_short q d m wr h10).mono ?_
    rintro e w' ⟨rfl, hb'⟩
    refine ⟨hb', ⟨⟨0, none, 0, [], 0⟩, .inl rfl⟩, ?_, rfl⟩
    rw [rec1_short (by omega)]; rfl
  · obtain ⟨b, o, rfl, -, -⟩ := hr.at (by omega)
    refine (first_any b o d m l em wr (hr.below hb) hB (by omega) hm hd hdm).mono ?_
    rintro e w' ⟨hb', h⟩
    refine ⟨hb', ?_⟩
    cases hrec : rec1 l with
    | none =>
      rw [hrec] at h
      exact ⟨⟨⟨0, none, 0, [], 0⟩, .inl rfl⟩, rfl, h⟩
    | some r =>
      rw [hrec] at h
      obtain ⟨s, bd⟩ := r
      obtain ⟨h1, h2, h3, h4, h5, h6⟩ := rec1_some hB hrec
      obtain ⟨s0, s1⟩ := num_lt8 (hB.sub 2 10) (by simp [sub]; omega)
      refine ⟨⟨⟨s, some ⟨b, o + 10, none⟩, d - 10, bd, bd.length + 14⟩, .inr ⟨rfl, h2, ?_, by rw [h4]; exact s0, by rw [h4]; exact s1, ?_⟩⟩, by simp [key], h⟩
      · show Byt bd
        rw [h5]; exact hB.sub _ _
      · have := hr.cut 10 (10 + bd.length) (by omega) (by omega) (some ⟨b, o + 10, none⟩) (.inr rfl) (d - 10) bd h5
        rw [show 10 + bd.length - 10 = bd.length by omega] at this
        exact this

theorem grown_of_below {w w' : World} (hb : Below w.heap.size w w') : w.grownBy w' none := ⟨hb.os, hb.tape, hb.output, hb.size, fun k hk _ => hb.block k hk⟩

set_option maxHeartbeats 1000000 in
theorem recordsIn_in (a : Option Addr) (len cap n : Nat) (w : World) :
    CallsIn Fence.wide n Try.prog 44 #[.slice a len cap] w fun e w' => e = .returned (.func (.func 53) #[] #[.pointer (some ⟨w.heap.size, 0, none⟩)]) ∧ w' = w.alloc (.cells #[.slice a len cap] 22) := by
  refine callsIn_of_wp Try.func44 rfl trivial ?_ rfl
  simp only [Try.ntmps44, List.size_toArray, List.length_cons, List.length_nil, Nat.reduceAdd, Nat.reduceSub, Array.replicate_succ, Array.replicate_zero, List.push_toArray, List.append_toArray, List.nil_append, List.cons_append]
  gi_wp2
  go_ret
  exact ⟨rfl, rfl⟩

set_option maxRecDepth 100000 in
set_option maxHeartbeats 2000000 in
theorem it_in (n : Nat) (hn : 1 ≤ n) (L Bs len cap : Nat) (p : Option Addr) (l : List Int) (w : World) (hR : Rd w (.slice p len cap) l) (hB : Byt l) (el : l.length = len) (hlen : len ≤ 1048576) (hcap : len ≤ cap) (hcm : cap ≤ maxLen) (hp : (p = none ∧ cap = 0) ∨ ∃ b o, p = some ⟨b, o, none⟩) (J Jx : List (Itw w) → World → Prop)
    (W : World) (hJ : AbidesFrom W.heap.size J)
    (hY : ∀ pre x W, J pre W → pre.length < len + 2 → YieldAt Fence.wide (n - 1) Try.prog L (itEnc x) W fun e W' =>
      (e = .returned (.bool true) ∧ J (pre ++ [x]) W' ∧ KpB w.heap.size Bs W W') ∨ (e = .returned (.bool false) ∧ Jx (pre ++ [x]) W'))
    (hBs : W.cell? ⟨Bs, 0, none⟩ = some (.slice p len cap)) (hbW : Below w.heap.size w W) (h0 : J [] W) :
    CallsIn Fence.wide n Try.prog 53 #[.func (.yield L) #[] #[], .pointer (some ⟨Bs, 0, none⟩)] W fun e W' => (∃ v, e = .returned v) ∧
      ((∃ ys : List (Itw w), (∃ pre x, ys = pre ++ [x] ∧ x.1.z = 0) ∧ J ys W') ∨ (∃ pre : List (Itw w), (pre.map fun x => key x.1) <+: yl (len + 1) l ∧ Jx pre W')) := by
  refine callsIn_of_wp Try.func53 rfl trivial ?_ rfl
  simp only [Try.ntmps53, List.size_toArray, List.length_cons, List.length_nil, Nat.reduceAdd, Nat.reduceSub, Array.replicate_succ, Array.replicate_zero, List.push_toArray, List.append_toArray, List.nil_append, List.cons_append]
  gi_wp2
  gi_loopw [3] (fun i wr => ∃ (pre : List (Itw w)) (a f : Nat), a ≤ len ∧ i = .int .i64 a ∧ f + pre.length = len + 1 ∧ pre.length ≤ a ∧ (pre.map fun x => key x.1) ++ yl f (l.drop a) = yl (len + 1) l ∧ J pre wr ∧ KpB w.heap.size Bs W wr) (fun i _ => len + 1 - (intOf i).toNat)
  case atStart => exact ⟨[], 0, len + 1, Nat.zero_le _, rfl, rfl, Nat.le_refl _, rfl, h0, KpB.refl _ _ _⟩
  case round =>
    obtain ⟨pre, a, f, hal, rfl, hfp, hpa, hlist, hJp, hkp⟩ := hrel
    have hbwr : Below w.heap.size w wr := hbW.trans hkp.1
    have hbs : wr.cell? ⟨Bs, 0, none⟩ = some (.slice p len cap) := hkp.2.trans hBs
    have g1 : (a : Int) ≤ (len : Int) := by omega
    have g2 : (len : Int) ≤ (cap : Int) := by omega
    have g3 : (0 : Int) ≤ (a : Int) := by omega
    clear hbW
    rcases hp with ⟨rfl, rfl⟩ | ⟨b, o, rfl⟩
    · obtain rfl : len = 0 := by omega
      obtain rfl : a = 0 := by omega
      have hrd : Rd w (.slice (none) (0) (0)) (l.drop 0) := by rw [List.drop_zero]; exact hR
      have HF := hide (first_at w wr (none) (0) (0) (l.drop 0) (by rw [List.length_drop]; omega) hrd hbwr (hB.drop _) (by omega) (by omega) (by omega))
      have HX := hide (And.intro hlist (And.intro hfp hpa))
      have HJ := hide hJp
      have HK := hide hkp
      have HBR := hide (And.intro hB hbwr)
      clear hrd hlist hfp hpa hJp hkp hR hB hbwr
      unfold maxLen at hcm
      gi_wp2_with fail
      refine ⟨trivial, ?_⟩
      refine (callsIn_wide.2 (unhide HF)).mono ?_
      rintro e w1 ⟨hb1, ⟨x, hgx⟩, hkey, rfl⟩
      obtain ⟨hlist, hfp, hpa⟩ := unhide HX
      obtain ⟨hB, hbwr⟩ := unhide HBR
      have hbs1 : w1.cell? ⟨Bs, 0, none⟩ = wr.cell? ⟨Bs, 0, none⟩ := (cell_below hbs hb1).trans hbs.symm
      have hkp1 : KpB w.heap.size Bs W w1 := (unhide HK).trans ⟨hb1.mono hbwr.size, hbs1⟩
      have hJ1 : J pre w1 := hJ pre _ _ none (unhide HJ) (grown_of_below hb1) (fun r e => by cases e)
      have hJ2 : J pre (w1.alloc (.cells #[.int .u64 x.s, .slice x.q x.b.length x.d] 38)) := hJ pre _ _ none hJ1 (World.grownBy_alloc _ _ none) (fun r e => by cases e)
      have hzw := (Below.step hbwr hb1).size
      have hbs2 := cell_below (cell_below hbs hb1) ((Below.refl w1.heap.size w1).alloc (Nat.le_refl _) (.cells #[.int .u64 x.s, .slice x.q x.b.length x.d] 38))
      have hkp2 : KpB w.heap.size Bs W (w1.alloc (.cells #[.int .u64 x.s, .slice x.q x.b.length x.d] 38)) := hkp1.trans ⟨(Below.refl _ _).alloc hzw _, hbs2.trans (cell_below hbs hb1).symm⟩
      obtain ⟨fn, tmps, assign, body, hy, hRd⟩ := hY pre ⟨x, hgx⟩ _ hJ2 (by omega)
      try dsimp only at hy
      have hxz : x.z ≤ 1014 := by rcases hgx with h | ⟨h, h', _⟩ <;> omega
      have HM := hide (And.intro hlist (And.intro hfp (And.intro hpa (And.intro hB (And.intro hkey hgx)))))
      have H2 := hide hkp2
      clear hlist hfp hpa hB hkey hJ1 hJ2 hkp1 hkp2 hbs1 hbs2 hzw HF HX HJ HK HBR hY hb1 hbwr
      gi_wp2
      refine hRd.mono ?_
      rintro e W3 (⟨rfl, hJ3, hk3⟩ | ⟨rfl, hJx3⟩)
      · by_cases hz : x.z = 0
        · have hz' : ((x.z : Int) == 0) = true := by simp [hz]
          gi_wp2
          refine bodyPost_ret (results_none rfl _ _ _) rfl ?_
          exact ⟨⟨_, rfl⟩, .inl ⟨_, ⟨pre, ⟨x, hgx⟩, rfl, hz⟩, hJ3⟩⟩
        · have hz' : ((x.z : Int) == 0) = false := by simp [hz]
          gi_wp2
          go_roundw
          case rel =>
            obtain ⟨hlist, hfp, hpa, hB, hkey, _⟩ := unhide HM
            have hk : rec1 (l.drop 0) = some (x.s, x.b) := by rw [← hkey]; simp [key, hz]
            obtain ⟨r1, r2, _⟩ := rec1_some (hB.drop _) hk
            rcases id hgx with h | ⟨h, _⟩
            · exact absurd h hz
            · rw [List.length_drop] at r1
              refine ⟨pre ++ [⟨x, hgx⟩], 0 + x.z, f - 1, by omega, by go_num, by simp; omega, by simp; omega, ?_, hJ3, (unhide H2).trans hk3⟩
              obtain ⟨f', rfl⟩ : ∃ f', f = f' + 1 := ⟨f - 1, by omega⟩
              rw [yl_some hk] at hlist
              rw [List.map_append, List.append_assoc, Nat.add_sub_cancel, h, ← List.drop_drop]
              rw [← hlist]
              simp [key, hz]
          case measure => simp [intOf]; omega
      · gi_wp2
        refine bodyPost_ret (results_none rfl _ _ _) rfl ?_
        refine ⟨⟨_, rfl⟩, .inr ⟨_, ?_, hJx3⟩⟩
        obtain ⟨hlist, hfp, hpa, hB, hkey, _⟩ := unhide HM
        rw [List.map_append, ← hlist]
        refine (List.prefix_append_right_inj _).2 ?_
        simp only [List.map_cons, List.map_nil, hkey]
        exact yl_head _ _ (by omega)
    · by_cases hq : cap = a
      · obtain rfl : len = a := by omega
        obtain rfl : cap = len := hq
        have hrd : Rd w (.slice (some ⟨b, o, none⟩) (0) (0)) (l.drop cap) := ⟨_, 0, by rw [List.drop_of_length_le (by omega)]; rfl, .inl (List.drop_of_length_le (by omega))⟩
        have HF := hide (first_at w wr (some ⟨b, o, none⟩) (0) (0) (l.drop cap) (by rw [List.length_drop]; omega) hrd hbwr (hB.drop _) (by omega) (by omega) (by omega))
        have HX := hide (And.intro hlist (And.intro hfp hpa))
        have HJ := hide hJp
        have HK := hide hkp
        have HBR := hide (And.intro hB hbwr)
        clear hrd hlist hfp hpa hJp hkp hR hB hbwr
        unfold maxLen at hcm
        gi_wp2_with fail
        refine ⟨trivial, ?_⟩
        refine (callsIn_wide.2 (unhide HF)).mono ?_
        rintro e w1 ⟨hb1, ⟨x, hgx⟩, hkey, rfl⟩
        obtain ⟨hlist, hfp, hpa⟩ := unhide HX
        obtain ⟨hB, hbwr⟩ := unhide HBR
        have hbs1 : w1.cell? ⟨Bs, 0, none⟩ = wr.cell? ⟨Bs, 0, none⟩ := (cell_below hbs hb1).trans hbs.symm
        have hkp1 : KpB w.heap.size Bs W w1 := (unhide HK).trans ⟨hb1.mono hbwr.size, hbs1⟩
        have hJ1 : J pre w1 := hJ pre _ _ none (unhide HJ) (grown_of_below hb1) (fun r e => by cases e)
        have hJ2 : J pre (w1.alloc (.cells #[.int .u64 x.s, .slice x.q x.b.length x.d] 38)) := hJ pre _ _ none hJ1 (World.grownBy_alloc _ _ none) (fun r e => by cases e)
        have hzw := (Below.step hbwr hb1).size
        have hbs2 := cell_below (cell_below hbs hb1) ((Below.refl w1.heap.size w1).alloc (Nat.le_refl _) (.cells #[.int .u64 x.s, .slice x.q x.b.length x.d] 38))
        have hkp2 : KpB w.heap.size Bs W (w1.alloc (.cells #[.int .u64 x.s, .slice x.q x.b.length x.d] 38)) := hkp1.trans ⟨(Below.refl _ _).alloc hzw _, hbs2.trans (cell_below hbs hb1).symm⟩
        obtain ⟨fn, tmps, assign, body, hy, hRd⟩ := hY pre ⟨x, hgx⟩ _ hJ2 (by omega)
        try dsimp only at hy
        have hxz : x.z ≤ 1014 := by rcases hgx with h | ⟨h, h', _⟩ <;> omega
        have HM := hide (And.intro hlist (And.intro hfp (And.intro hpa (And.intro hB (And.intro hkey hgx)))))
        have H2 := hide hkp2
        clear hlist hfp hpa hB hkey hJ1 hJ2 hkp1 hkp2 hbs1 hbs2 hzw HF HX HJ HK HBR hY hb1 hbwr
        gi_wp2
        refine hRd.mono ?_
        rintro e W3 (⟨rfl, hJ3, hk3⟩ | ⟨rfl, hJx3⟩)
        · by_cases hz : x.z = 0
          · have hz' : ((x.z : Int) == 0) = true := by simp [hz]
            gi_wp2
            refine bodyPost_ret (results_none rfl _ _ _) rfl ?_
            exact ⟨⟨_, rfl⟩, .inl ⟨_, ⟨pre, ⟨x, hgx⟩, rfl, hz⟩, hJ3⟩⟩
          · have hz' : ((x.z : Int) == 0) = false := by simp [hz]
            gi_wp2
            go_roundw
            case rel =>
              obtain ⟨hlist, hfp, hpa, hB, hkey, _⟩ := unhide HM
              have hk : rec1 (l.drop cap) = some (x.s, x.b) := by rw [← hkey]; simp [key, hz]
              obtain ⟨r1, r2, _⟩ := rec1_some (hB.drop _) hk
              rcases id hgx with h | ⟨h, _⟩
              · exact absurd h hz
              · rw [List.length_drop] at r1
                refine ⟨pre ++ [⟨x, hgx⟩], cap + x.z, f - 1, by omega, by go_num, by simp; omega, by simp; omega, ?_, hJ3, (unhide H2).trans hk3⟩
                obtain ⟨f', rfl⟩ : ∃ f', f = f' + 1 := ⟨f - 1, by omega⟩
                rw [yl_some hk] at hlist
                rw [List.map_append, List.append_assoc, Nat.add_sub_cancel, h, ← List.drop_drop]
                rw [← hlist]
                simp [key, hz]
            case measure => simp [intOf]; omega
        · gi_wp2
          refine bodyPost_ret (results_none rfl _ _ _) rfl ?_
          refine ⟨⟨_, rfl⟩, .inr ⟨_, ?_, hJx3⟩⟩
          obtain ⟨hlist, hfp, hpa, hB, hkey, _⟩ := unhide HM
          rw [List.map_append, ← hlist]
          refine (List.prefix_append_right_inj _).2 ?_
          simp only [List.map_cons, List.map_nil, hkey]
          exact yl_head _ _ (by omega)
      · have hq' : cap ≠ a := hq
        have hrd : Rd w (.slice (some ⟨b, o + a, none⟩) (len - a) (cap - a)) (l.drop a) := hR.cut a len hal (by omega) _ (.inr rfl) _ _ (by rw [List.take_of_length_le (by omega)])
        have HF := hide (first_at w wr (some ⟨b, o + a, none⟩) (len - a) (cap - a) (l.drop a) (by rw [List.length_drop]; omega) hrd hbwr (hB.drop _) (by omega) (by omega) (by omega))
        have HX := hide (And.intro hlist (And.intro hfp hpa))
        have HJ := hide hJp
        have HK := hide hkp
        have HBR := hide (And.intro hB hbwr)
        clear hrd hlist hfp hpa hJp hkp hR hB hbwr
        unfold maxLen at hcm
        gi_wp2_with fail
        refine ⟨trivial, ?_⟩
        refine (callsIn_wide.2 (unhide HF)).mono ?_
        rintro e w1 ⟨hb1, ⟨x, hgx⟩, hkey, rfl⟩
        obtain ⟨hlist, hfp, hpa⟩ := unhide HX
        obtain ⟨hB, hbwr⟩ := unhide HBR
        have hbs1 : w1.cell? ⟨Bs, 0, none⟩ = wr.cell? ⟨Bs, 0, none⟩ := (cell_below hbs hb1).trans hbs.symm
        have hkp1 : KpB w.heap.size Bs W w1 := (unhide HK).trans ⟨hb1.mono hbwr.size, hbs1⟩
        have hJ1 : J pre w1 := hJ pre _ _ none (unhide HJ) (grown_of_below hb1) (fun r e => by cases e)
        have hJ2 : J pre (w1.alloc (.cells #[.int .u64 x.s, .slice x.q x.b.length x.d] 38)) := hJ pre _ _ none hJ1 (World.grownBy_alloc _ _ none) (fun r e => by cases e)
        have hzw := (Below.step hbwr hb1).size
        have hbs2 := cell_below (cell_below hbs hb1) ((Below.refl w1.heap.size w1).alloc (Nat.le_refl _) (.cells #[.int .u64 x.s, .slice x.q x.b.length x.d] 38))
        have hkp2 : KpB w.heap.size Bs W (w1.alloc (.cells #[.int .u64 x.s, .slice x.q x.b.length x.d] 38)) := hkp1.trans ⟨(Below.refl _ _).alloc hzw _, hbs2.trans (cell_below hbs hb1).symm⟩
        obtain ⟨fn, tmps, assign, body, hy, hRd⟩ := hY pre ⟨x, hgx⟩ _ hJ2 (by omega)
        try dsimp only at hy
        have hxz : x.z ≤ 1014 := by rcases hgx with h | ⟨h, h', _⟩ <;> omega
        have HM := hide (And.intro hlist (And.intro hfp (And.intro hpa (And.intro hB (And.intro hkey hgx)))))
        have H2 := hide hkp2
        clear hlist hfp hpa hB hkey hJ1 hJ2 hkp1 hkp2 hbs1 hbs2 hzw HF HX HJ HK HBR hY hb1 hbwr
        gi_wp2
        refine hRd.mono ?_
        rintro e W3 (⟨rfl, hJ3, hk3⟩ | ⟨rfl, hJx3⟩)
        · by_cases hz : x.z = 0
          · have hz' : ((x.z : Int) == 0) = true := by simp [hz]
            gi_wp2
            refine bodyPost_ret (results_none rfl _ _ _) rfl ?_
            exact ⟨⟨_, rfl⟩, .inl ⟨_, ⟨pre, ⟨x, hgx⟩, rfl, hz⟩, hJ3⟩⟩
          · have hz' : ((x.z : Int) == 0) = false := by simp [hz]
            gi_wp2
            go_roundw
            case rel =>
              obtain ⟨hlist, hfp, hpa, hB, hkey, _⟩ := unhide HM
              have hk : rec1 (l.drop a) = some (x.s, x.b) := by rw [← hkey]; simp [key, hz]
              obtain ⟨r1, r2, _⟩ := rec1_some (hB.drop _) hk
              rcases id hgx with h | ⟨h, _⟩
              · exact absurd h hz
              · rw [List.length_drop] at r1
                refine ⟨pre ++ [⟨x, hgx⟩], a + x.z, f - 1, by omega, by go_num, by simp; omega, by simp; omega, ?_, hJ3, (unhide H2).trans hk3⟩
                obtain ⟨f', rfl⟩ : ∃ f', f = f' + 1 := ⟨f - 1, by omega⟩
                rw [yl_some hk] at hlist
                rw [List.map_append, List.append_assoc, Nat.add_sub_cancel, h, ← List.drop_drop]
                rw [← hlist]
                simp [key, hz]
            case measure => simp [intOf]; omega
        · gi_wp2
          refine bodyPost_ret (results_none rfl _ _ _) rfl ?_
          refine ⟨⟨_, rfl⟩, .inr ⟨_, ?_, hJx3⟩⟩
          obtain ⟨hlist, hfp, hpa, hB, hkey, _⟩ := unhide HM
          rw [List.map_append, ← hlist]
          refine (List.prefix_append_right_inj _).2 ?_
          simp only [List.map_cons, List.map_nil, hkey]
          exact yl_head _ _ (by omega)
end Go.Proofs.Ytipeflnkcjkoeaa
