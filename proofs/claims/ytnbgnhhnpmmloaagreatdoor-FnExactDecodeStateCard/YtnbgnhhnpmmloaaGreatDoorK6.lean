import Derived.Test.YtnbgnhhnpmmloaaGreatDoorK5
namespace Go.Proofs.YtnbgnhhnpmmloaaGreatDoor
open Go.ChangeShapes Go.WideShapes Go.ChangeAt Go.RowKit
set_option linter.unusedVariables false
set_option linter.unusedSimpArgs false
set_option maxRecDepth 100000
theorem cellFr (w : World) (C : Array Value) (e : TypeId) (fr : Nat × Nat) (i : Nat) : (w.alloc (.cells C e fr)).cell? ⟨w.heap.size, i, none⟩ = C[i]? := by
 have h : (w.alloc (.cells C e fr)).heap[w.heap.size]? = some (.cells C e fr) := by
  show (w.heap.push (.cells C e fr))[w.heap.size]? = _
  simp
 unfold World.cell?
 rw [h]
 rfl
def lsl (l : List Int) (k : Nat) : Nat := (List.range k).foldl (fun a i => if l.getD i 0 = 47 then i else a) 0
theorem lsl_step (l : List Int) (k : Nat) : lsl l (k + 1) = if l.getD k 0 = 47 then k else lsl l k := by
 rw [lsl, List.range_succ, List.foldl_append]; rfl
def parL (l : List Int) : List Int := if lsl l l.length = 0 then [47] else l.take (lsl l l.length)
set_option maxHeartbeats 800000 in
theorem l3parent_any (p : Option Addr) (c n : Nat) (l : List Int) (en : Hid (l.length = n)) (w : World) (h : Rd w (.slice p n c) l) (hn : n ≤ 1048576) (hc : n ≤ c) (hcm : c ≤ maxLen) :
  Calls Tryz.prog 114 #[.slice p n c] w fun r w' => ∃ q m d, r = .returned (.slice q m d) ∧ (parL l).length = m ∧ m ≤ n + 1 ∧ Rd w' (.slice q m d) (parL l) ∧ Below w.heap.size w w' := by
 have HR := hide h
 clear h
 go_enter Tryz.func114, Tryz.ntmps114
 go_wp2_with fail
 go_loopw [3, 4] (fun av iv wr => ∃ k a : Nat, k ≤ n ∧ iv = .int .i64 k ∧ av = .int .i64 a ∧ a ≤ k ∧ Hid (lsl l k = a) ∧ wr = w) (fun _ iv _ => n - (intOf iv).toNat)
 case atStart => exact ⟨0, 0, Nat.zero_le _, rfl, rfl, Nat.le_refl _, (by show _ = _; rfl), rfl⟩
 case round =>
  obtain ⟨k, a, hk, rfl, rfl, hak, hls, rfl⟩ := hrel
  by_cases hlt : k < n
  ·have hlt' : (k : Int) < (n : Int) := by omega
   have hkl : k < l.length := by rw [uh en]; exact hlt
   obtain ⟨b, o, rfl, -, hcell⟩ := (uh HR).at (by omega)
   have hcx := hcell k hkl
   have hst := lsl_step l k
   obtain ⟨y, ey⟩ : ∃ y, l.getD k 0 = y := ⟨_, rfl⟩
   rw [ey] at hcx hst
   clear hcell hkl ey
   by_cases h47 : y = 47
   ·subst h47
    rw [if_pos rfl] at hst
    have HST := hide hst
    clear hst
    go_wp2
    go_roundw
    case rel => exact ⟨k + 1, k, by omega, by go_num, rfl, by omega, HST, by first | rfl | trivial⟩
    case measure => simp [intOf]; omega
   ·have h47d : (y == 47) = false := by simp [h47]
    rw [if_neg h47, uh hls] at hst
    have HST := hide hst
    clear hst
    go_wp2
    go_roundw
    case rel => exact ⟨k + 1, a, by omega, by go_num, rfl, by omega, HST, by first | rfl | trivial⟩
    case measure => simp [intOf]; omega
  ·have hlt' : ¬ (k : Int) < (n : Int) := by omega
   have ekn : k = n := by omega
   subst ekn
   clear hk hlt
   by_cases ha : a = 0
   ·subst ha
    have hpl : Hid (parL l = [47]) := by show _ = _; rw [parL, uh en, uh hls, if_pos rfl]
    have hcv := Lib.run_convert_bytes_const (P := Tryz.prog) wr 22 5 #[.int .u8 47] 1 1 Tryz.underlying22 Tryz.underlying5
    go_wp2
    go_ret
    refine ⟨_, _, _, rfl, by rw [uh hpl]; rfl, by omega, ?_, (Below.refl _ _).alloc (Nat.le_refl _) _⟩
    rw [uh hpl]
    refine ⟨_, _, rfl, .inr ⟨wr.heap.size, 0, rfl, fun i hi => ?_⟩⟩
    match i, hi with
    | 0, _ => (rw [Nat.zero_add, cellFr]; rfl)
   ·have ha' : ((a : Int) == 0) = false := by simp [ha]
    have hpl : Hid (parL l = l.take a) := by show _ = _; rw [parL, uh en, uh hls, if_neg ha]
    obtain ⟨b, o, rfl, -, -⟩ := (uh HR).at (by rw [uh en]; omega)
    have g1 : (a : Int) ≤ (k : Int) := by omega
    have g2 : (a : Int) ≤ (c : Int) := by omega
    have HRC := (uh HR).cut 0 a (Nat.zero_le _) (by rw [uh en]; omega) (some ⟨b, o, none⟩) (.inr rfl) c (l.take a) (by simp)
    have HRD := hide HRC
    clear HRC
    go_wp2
    go_ret
    exact ⟨_, _, _, rfl, by rw [uh hpl, List.length_take, uh en]; omega, by omega, by rw [uh hpl]; exact uh HRD, Below.refl _ _⟩
def CapOK (v : Value) : Prop := ∃ p n c, v = .slice p n c ∧ n ≤ c ∧ c ≤ maxLen
structure NodeAt (w : World) (b a : Nat) (nd : Nod) (P V H U : Value) : Prop where
 c0 : w.cell? ⟨b, a, none⟩ = some P
 c1 : w.cell? ⟨b, a + 1, none⟩ = some V
 c2 : w.cell? ⟨b, a + 2, none⟩ = some (.int .u64 nd.owner)
 c3 : w.cell? ⟨b, a + 3, none⟩ = some (.int .i64 nd.mode)
 c4 : w.cell? ⟨b, a + 4, none⟩ = some H
 c5 : w.cell? ⟨b, a + 5, none⟩ = some (.int .u64 nd.epoch)
 c6 : w.cell? ⟨b, a + 6, none⟩ = some (.int .u64 nd.gen)
 c7 : w.cell? ⟨b, a + 7, none⟩ = some U
 r0 : Rd w P nd.path
 r1 : Rd w V nd.value
 r4 : RdU w H nd.holders
 r7 : RdU w U nd.watchers
 k0 : CapOK P
theorem NodeAt.below {w w' : World} {b a : Nat} {nd : Nod} {P V H U : Value} (h : NodeAt w b a nd P V H U) (hb : Below w.heap.size w w') : NodeAt w' b a nd P V H U :=
 ⟨cell_below h.c0 hb, cell_below h.c1 hb, cell_below h.c2 hb, cell_below h.c3 hb, cell_below h.c4 hb, cell_below h.c5 hb, cell_below h.c6 hb, cell_below h.c7 hb, h.r0.below hb, h.r1.below hb, h.r4.below hb, h.r7.below hb, h.k0⟩
def RdN (w : World) (v : Value) (ns : List Nod) : Prop :=
 ∃ (p : Option Addr) (c : Nat), v = .slice p ns.length c ∧ (ns = [] ∨ ∃ b o, p = some ⟨b, o, none⟩ ∧ ∀ i nd, ns[i]? = some nd → ∃ P V H U, NodeAt w b (o + i * 8) nd P V H U)
theorem RdN.below {w w' : World} {v : Value} {ns : List Nod} (h : RdN w v ns) (hb : Below w.heap.size w w') : RdN w' v ns := by
 obtain ⟨p, c, rfl, h⟩ := h
 refine ⟨p, c, rfl, ?_⟩
 rcases h with h | ⟨b, o, rfl, h⟩
 ·exact .inl h
 ·refine .inr ⟨b, o, rfl, fun i e he => ?_⟩
  obtain ⟨P, V, H, U, h1⟩ := h i e he
  exact ⟨P, V, H, U, h1.below hb⟩
abbrev ndV (P V : Value) (ow mo : Int) (H : Value) (ep ge : Int) (U : Value) : Value := .agg #[P, V, .int .u64 ow, .int .i64 mo, H, .int .u64 ep, .int .u64 ge, U]
def lockOK (e g mo : Int) (nh : Nat) (ep ge : Int) : Bool :=
 if mo = 1 then nh == 1 && (decide (1 ≤ ge) && (decide (ge ≤ g) && decide (ep ≤ e))) else ep == 0 && (ge == 0 && (if mo = 0 then nh == 0 else mo == 2 && decide (1 ≤ nh)))
set_option maxHeartbeats 1600000 in
theorem l3lockOK_any (e g x t ow mo ep ge : Int) (S N P V U : Value) (p : Option Addr) (c n : Nat) (w : World) (hn : n ≤ 1048576) (B : Bool) (eB : Hid (lockOK e g mo n ep ge = B)) :
  Calls Tryz.prog 117 #[stV e g x t S N, ndV P V ow mo (.slice p n c) ep ge U] w fun r w' => r = .returned (.bool B) ∧ Below w.heap.size w w' := by
 go_enter Tryz.func117, Tryz.ntmps117
 go_wp2_with fail
 all_goals (
  go_ret
  refine ⟨?_, ((Below.refl _ _).alloc (Nat.le_refl _) _).alloc (by simp) _⟩
  rw [← uh eB]
  simp only [lockOK, Ending.returned.injEq, Value.bool.injEq])
 all_goals first | (simp_all; done) | (simp_all; omega) | skip
 all_goals (
  show Value.bool ((n : Int) == 0) = Value.bool _
  congr 1
  have e0 : mo = 0 := (by simpa using ‹(mo == 0) = true›)
  have e1 : ge = 0 := (by simpa using ‹(ge != 0) = false›)
  subst e0 e1
  rw [Bool.eq_iff_iff]
  simp_all)
theorem RdN.at {w : World} {p : Option Addr} {n c : Nat} {ns : List Nod} (h : RdN w (.slice p n c) ns) (hl : 0 < ns.length) : ∃ b o, p = some ⟨b, o, none⟩ ∧ ∀ i nd, ns[i]? = some nd → ∃ P V H U, NodeAt w b (o + i * 8) nd P V H U := by
 obtain ⟨p', c', ev, hd⟩ := h
 simp only [Value.slice.injEq] at ev
 obtain ⟨rfl, -, -⟩ := ev
 rcases hd with h0 | ⟨b, o, h1, h2⟩
 ·rw [h0] at hl; simp at hl
 ·exact ⟨b, o, h1, h2⟩
theorem Rd.slc {w : World} {v : Value} {l : List Int} (h : Rd w v l) : ∃ p c n, v = .slice p n c ∧ Hid (l.length = n) := by
 obtain ⟨p, c, rfl, -⟩ := h
 exact ⟨p, c, _, rfl, (by show _ = _; rfl)⟩
theorem List.cons_getElem?_drop_succ' {α : Type} {ns : List α} {k : Nat} {y : α} (h : ns[k]? = some y) : y :: ns.drop (k + 1) = ns.drop k := by
 obtain ⟨hk, rfl⟩ := List.getElem?_eq_some_iff.1 h
 exact (List.drop_eq_getElem_cons hk).symm
def ndOf (ns : List Nod) (l : List Int) : Option Nod := ns.find? fun nd => decide (nd.path = l)
set_option maxHeartbeats 1600000 in
theorem l3node_any (e g x t : Int) (p q : Option Addr) (c n d m : Nat) (S : Value) (ns : List Nod) (l : List Int) (en : Hid (ns.length = n)) (em : Hid (l.length = m)) (w : World) (h : RdN w (.slice p n c) ns) (hl : Rd w (.slice q m d) l) (hn : n ≤ 1048576) (hm : m ≤ 2097152)
  (hby : Hid (Byt l ∧ ∀ nd ∈ ns, Byt nd.path)) :
  Calls Tryz.prog 151 #[stV e g x t S (.slice p n c), .slice q m d] w fun r w' => ((∃ (k : Nat) (nd : Nod), r = .returned (.int .i64 k) ∧ k < n ∧ ns[k]? = some nd ∧ ndOf ns l = some nd) ∨ (r = .returned (.int .i64 (-1)) ∧ ndOf ns l = none)) ∧ Below w.heap.size w w' := by
 have HR := hide fun (w' : World) (hb : Below w.heap.size w w') => And.intro (h.below hb) (hl.below hb)
 have hcf : ∀ (vs : Array Value) (w : World), (callFunc 34 vs).run Tryz.prog w = .ok (.enter 34 vs) w := fun vs w => by kernel_rfl
 have HCF := hide hcf
 clear h hl hcf
 go_enter Tryz.func151, Tryz.ntmps151
 go_wp2_with fail
 obtain ⟨W, hW⟩ : ∃ W, W = (w.alloc (.cells #[.int .u64 e, .int .u64 g, .int .u64 x, .int .i64 t, S, .slice p n c] 27)) := ⟨_, rfl⟩
 have bW : Below w.heap.size w W := by rw [hW]; exact (Below.refl _ _).alloc (Nat.le_refl _) _
 have hc5 : W.cell? ⟨w.heap.size, 5, none⟩ = some (.slice p n c) := by rw [hW]; simp
 rw [← hW]
 clear hW
 have BW := hide bW
 have HC5 := hide hc5
 clear bW hc5
 go_loopw [5] (fun iv wr => ∃ k : Nat, k ≤ n ∧ iv = .int .i64 k ∧ Hid (ndOf (ns.take k) l = none) ∧ Below W.heap.size W wr) (fun iv _ => n - (intOf iv).toNat)
 case atStart => exact ⟨0, Nat.zero_le _, rfl, (by show _ = _; rfl), Below.refl _ _⟩
 case round =>
  obtain ⟨k, hk, rfl, hno, hbr⟩ := hrel
  have BB := Below.step (uh BW) hbr
  have i5 := cell_below (uh HC5) hbr
  by_cases hlt : k < n
  ·have hlt' : (k : Int) < (n : Int) := by omega
   have hkl : k < ns.length := by rw [uh en]; exact hlt
   obtain ⟨hN, hL⟩ := uh HR _ BB
   obtain ⟨b, o, rfl, hA⟩ := hN.at (by omega)
   obtain ⟨nd, hy⟩ : ∃ y, ns[k]? = some y := ⟨_, List.getElem?_eq_getElem hkl⟩
   obtain ⟨P, V, H, U, hnd⟩ := hA k nd hy
   have hP := hnd.c0
   have hrP := hnd.r0
   obtain ⟨pp, pc, pn, rfl, ePn⟩ := hrP.slc
   have hBP := (uh hby).2 nd (List.mem_of_getElem? hy)
   have HY := hide hy
   have HRP := hide hrP
   have HBP := hide hBP
   have HLL := hide hL
   clear hA hnd hkl hN hL hrP hBP hy
   go_wp2_with fail
   refine (l3same_any pp q pc d pn m nd.path l ePn em _ (uh HRP) (uh HLL) (uh HBP) (uh hby).1).mono ?_
   rintro r w2 ⟨rfl, hb2⟩
   by_cases hpl : nd.path = l
   ·rw [show decide (nd.path = l) = true by simp [hpl]]
    have hF : Hid (ndOf ns l = some nd) := by
     show _ = _
     have e1 : ns = ns.take k ++ nd :: ns.drop (k + 1) := by
      rw [List.cons_getElem?_drop_succ' (uh HY), List.take_append_drop]
     rw [e1, ndOf, List.find?_append, show (ns.take k).find? (fun nd => decide (nd.path = l)) = none from uh hno]
     simp [hpl]
    have b2 := Below.step BB hb2
    clear hb2 hbr BB
    go_wp2
    go_ret
    exact ⟨.inl ⟨k, nd, rfl, hlt, uh HY, uh hF⟩, b2⟩
   ·rw [show decide (nd.path = l) = false by simp [hpl]]
    have hno2 : Hid (ndOf (ns.take (k + 1)) l = none) := by
     show _ = _
     rw [List.take_add_one, uh HY, ndOf, List.find?_append, show (ns.take k).find? (fun nd => decide (nd.path = l)) = none from uh hno]
     simp [hpl]
    have b2 := Below.step hbr hb2
    clear hb2 hbr BB
    go_wp2
    go_roundw
    case rel => exact ⟨k + 1, by omega, by go_num, hno2, b2⟩
    case measure => simp [intOf]; omega
  ·have hlt' : ¬ (k : Int) < (n : Int) := by omega
   have hF : Hid (ndOf ns l = none) := by
    show _ = _
    have := uh hno
    rwa [List.take_of_length_le (by rw [uh en]; omega)] at this
   go_wp2
   go_ret
   exact ⟨.inr ⟨rfl, uh hF⟩, BB⟩
def canPar (ns : List Nod) (l : List Int) : Bool := if l = [47] then true else match ndOf ns l with | some nd => nd.owner == 0 | none => false
set_option maxHeartbeats 1600000 in
theorem l3canParent_any (e g x t : Int) (p q : Option Addr) (c n d m : Nat) (S : Value) (ns : List Nod) (l : List Int) (en : Hid (ns.length = n)) (em : Hid (l.length = m)) (w : World) (h : RdN w (.slice p n c) ns) (hl : Rd w (.slice q m d) l) (hn : n ≤ 1048576) (hm : m ≤ 2097152)
  (hby : Hid (Byt l ∧ ∀ nd ∈ ns, Byt nd.path)) (B : Bool) (eB : Hid (canPar ns l = B)) :
  Calls Tryz.prog 113 #[stV e g x t S (.slice p n c), .slice q m d] w fun r w' => r = .returned (.bool B) ∧ Below w.heap.size w w' := by
 have HR := hide fun (w' : World) (hb : Below w.heap.size w w') => And.intro (h.below hb) (hl.below hb)
 clear h hl
 obtain ⟨W, hW⟩ : ∃ W, W = (w.alloc (.cells #[.int .u64 e, .int .u64 g, .int .u64 x, .int .i64 t, S, .slice p n c] 27)) := ⟨_, rfl⟩
 have bW : Below w.heap.size w W := by rw [hW]; exact (Below.refl _ _).alloc (Nat.le_refl _) _
 have sW : W.heap.size = w.heap.size + 1 := by rw [hW]; simp
 have hc5 : St6 W w.heap.size e g x t S (.slice p n c) := by rw [hW]; simp [St6]
 have hcv := Lib.run_convert_bytes_const (P := Tryz.prog) W 22 5 #[.int .u8 47] 1 1 Tryz.underlying22 Tryz.underlying5
 simp only [show (#[Value.int .u8 47] : Array Value).size = 1 from rfl] at hcv
 obtain ⟨X, hX⟩ : ∃ X, X = W.alloc (.cells #[.int .u8 47] 5 (1, 1 + 1)) := ⟨_, rfl⟩
 have rX : Rd X (.slice (some ⟨w.heap.size + 1, 0, none⟩) 1 1) [47] := by
  rw [hX, ← sW]
  refine ⟨_, _, rfl, .inr ⟨W.heap.size, 0, rfl, fun i hi => ?_⟩⟩
  match i, hi with
  | 0, _ => (rw [Nat.zero_add, cellFr]; rfl)
 have bX : Below w.heap.size w X := by rw [hX]; exact bW.alloc (by omega) _
 have iX : St6 X w.heap.size e g x t S (.slice p n c) := hc5.below (by rw [hX]; exact (Below.refl _ _).alloc (Nat.le_refl _) _)
 rw [← hX, sW, hW] at hcv
 clear sW hc5 bW hX hW
 have RX := hide rX
 have BX := hide bX
 have IX := hide iX
 clear rX bX iX
 go_enter Tryz.func113, Tryz.ntmps113
 go_wp2_with fail
 refine (l3same_any q _ d 1 m 1 l [47] em (by show _ = _; rfl) _ (uh HR _ (uh BX)).2 (uh RX) (uh hby).1 (by intro x hx; simp at hx; omega)).mono ?_
 rintro r w2 ⟨rfl, hb2⟩
 have b2 := Below.step (uh BX) hb2
 obtain ⟨j0, j1, j2, j3, j4, j5⟩ := (uh IX).below hb2
 clear hcv hb2
 by_cases h47 : l = [47]
 ·rw [show decide (l = [47]) = true by simp [h47]]
  have eT : B = true := by rw [← uh eB, canPar, if_pos h47]
  subst eT
  clear h47
  go_wp2
  go_ret
  exact ⟨rfl, b2⟩
 ·rw [show decide (l = [47]) = false by simp [h47]]
  have hB : (match ndOf ns l with | some nd => nd.owner == 0 | none => false) = B := by rw [← uh eB, canPar, if_neg h47]
  have HB := hide hB
  clear hB h47
  go_wp2_with fail
  refine (l3node_any e g x t p q c n d m S ns l en em _ (uh HR _ b2).1 (uh HR _ b2).2 hn hm hby).mono ?_
  rintro r w3 ⟨hr, hb3⟩
  have b3 := Below.step b2 hb3
  have k5 := cell_below j5 hb3
  clear j0 j1 j2 j3 j4 j5 hb3
  rcases hr with ⟨k, nd, rfl, hk, hy, hF⟩ | ⟨rfl, hF⟩
  ·rw [hF] at HB
   have hkl : k < ns.length := by rw [uh en]; exact hk
   obtain ⟨b, o, rfl, hA⟩ := (uh HR _ b3).1.at (by omega)
   obtain ⟨P, V, H, U, hnd⟩ := hA k nd hy
   have hO := hnd.c2
   have hk' : (k : Int) < (n : Int) := by omega
   have hk0 : (0 : Int) ≤ (k : Int) := by omega
   clear hA hnd hkl hy hF
   cases B with
   | true =>
    have ho : nd.owner = 0 := by have := uh HB; simpa using this
    rw [ho] at hO
    clear ho
    go_wp2
    go_ret
    exact ⟨rfl, b3⟩
   | false =>
    have ho : (nd.owner == 0) = false := uh HB
    go_wp2
    go_ret
    exact ⟨rfl, b3⟩
  ·rw [hF] at HB
   have eF : B = false := (uh HB).symm
   subst eF
   clear hF
   go_wp2
   go_ret
   exact ⟨rfl, b3⟩
end Go.Proofs.YtnbgnhhnpmmloaaGreatDoor
