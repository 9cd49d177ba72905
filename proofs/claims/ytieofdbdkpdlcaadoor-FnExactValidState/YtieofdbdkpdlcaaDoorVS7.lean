import Derived.Test.YtieofdbdkpdlcaaDoorVS6
namespace Go.Proofs.YtieofdbdkpdlcaaDoor
open Go.ChangeShapes Go.WideShapes Go.ChangeAt Go.RowKit
set_option linter.unusedVariables false
set_option linter.unusedSimpArgs false
set_option maxRecDepth 100000

theorem RdN.at {w : World} {p : Option Addr} {n c : Nat} {ns : List Nod} (h : RdN w (.slice p n c) ns) (hl : 0 < ns.length) : ∃ b o, p = some ⟨b, o, none⟩ ∧ ∀ i nd, ns[i]? = some nd → ∃ P V H U, NodeAt w b (o + i * 8) nd P V H U := by
  obtain ⟨p', c', ev, hd⟩ := h
  simp only [Value.slice.injEq] at ev
  obtain ⟨rfl, -, -⟩ := ev
  rcases hd with h0 | ⟨b, o, h1, h2⟩
  · rw [h0] at hl; simp at hl
  · exact ⟨b, o, h1, h2⟩
theorem Rd.slc {w : World} {v : Value} {l : List Int} (h : Rd w v l) : ∃ p c n, v = .slice p n c ∧ Hid (l.length = n) := by
  obtain ⟨p, c, rfl, -⟩ := h
  exact ⟨p, c, _, rfl, (by show _ = _; rfl)⟩

theorem List.cons_getElem?_drop_succ' {α : Type} {ns : List α} {k : Nat} {y : α} (h : ns[k]? = some y) : y :: ns.drop (k + 1) = ns.drop k := by
  obtain ⟨hk, rfl⟩ := List.getElem?_eq_some_iff.1 h
  exact (List.drop_eq_getElem_cons hk).symm
/-- the node of a path: the first -/
def ndOf (ns : List Nod) (l : List Int) : Option Nod := ns.find? fun nd => decide (nd.path = l)

set_option maxHeartbeats 1600000 in
theorem l3node_any (e g x t : Int) (p q : Option Addr) (c n d m : Nat) (S : Value) (ns : List Nod) (l : List Int) (en : Hid (ns.length = n)) (em : Hid (l.length = m)) (w : World) (h : RdN w (.slice p n c) ns) (hl : Rd w (.slice q m d) l) (hn : n ≤ 1048576) (hm : m ≤ 2097152)
    (hby : Hid (Byt l ∧ ∀ nd ∈ ns, Byt nd.path)) :
    Calls Tryd.prog 99 #[stV e g x t S (.slice p n c), .slice q m d] w fun r w' => ((∃ (k : Nat) (nd : Nod), r = .returned (.int .i64 k) ∧ k < n ∧ ns[k]? = some nd ∧ ndOf ns l = some nd) ∨ (r = .returned (.int .i64 (-1)) ∧ ndOf ns l = none)) ∧ Below w.heap.size w w' := by
  have HR := hide fun (w' : World) (hb : Below w.heap.size w w') => And.intro (h.below hb) (hl.below hb)
  have hcf : ∀ (vs : Array Value) (w : World), (callFunc 41 vs).run Tryd.prog w = .ok (.enter 41 vs) w := fun vs w => by kernel_rfl
  have HCF := hide hcf
  clear h hl hcf
  go_enter Tryd.func99, Tryd.ntmps99
  go_wp2_with fail
  obtain ⟨W, hW⟩ : ∃ W, W = (w.alloc (.cells #[.int .u64 e, .int .u64 g, .int .u64 x, .int .i64 t, S, .slice p n c] 48)) := ⟨_, rfl⟩
  have bW : Below w.heap.size w W := by rw [hW]; exact (Below.refl _ _).alloc (Nat.le_refl _) _
  have hc5 : W.cell? ⟨w.heap.size, 5, none⟩ = some (.slice p n c) := by rw [hW]; simp
  rw [← hW]
  clear hW
  have BW := hide bW
  have HC5 := hide hc5
  clear bW hc5
  go_loopw [5] (fun iv wr => ∃ k : Nat, k ≤ n ∧ iv = .int .i64 k ∧ Hid (ndOf (ns.take k) l = none) ∧ Below W.heap.size W wr) (fun iv _ => n - (intOf iv).toNat)
  case atStart => exact ⟨0, Nat.zero_le _, rfl, (by show _ = _; rfl), Below.refl _ _⟩
  case round =>
    obtain ⟨k, hk, rfl, hno, hbr⟩ := hrel
    have BB := Below.step (unhide BW) hbr
    have i5 := cell_below (unhide HC5) hbr
    by_cases hlt : k < n
    · have hlt' : (k : Int) < (n : Int) := by omega
      have hkl : k < ns.length := by rw [unhide en]; exact hlt
      obtain ⟨hN, hL⟩ := unhide HR _ BB
      obtain ⟨b, o, rfl, hA⟩ := hN.at (by omega)
      obtain ⟨nd, hy⟩ : ∃ y, ns[k]? = some y := ⟨_, List.getElem?_eq_getElem hkl⟩
      obtain ⟨P, V, H, U, hnd⟩ := hA k nd hy
      have hP := hnd.c0
      have hrP := hnd.r0
      obtain ⟨pp, pc, pn, rfl, ePn⟩ := hrP.slc
      have hBP := (unhide hby).2 nd (List.mem_of_getElem? hy)
      have HY := hide hy
      have HRP := hide hrP
      have HBP := hide hBP
      have HLL := hide hL
      clear hA hnd hkl hN hL hrP hBP hy
      go_wp2_with fail
      refine (l3same_any pp q pc d pn m nd.path l ePn em _ (unhide HRP) (unhide HLL) (unhide HBP) (unhide hby).1).mono ?_
      rintro r w2 ⟨rfl, hb2⟩
      by_cases hpl : nd.path = l
      · rw [show decide (nd.path = l) = true by simp [hpl]]
        have hF : Hid (ndOf ns l = some nd) := by
          show _ = _
          have e1 : ns = ns.take k ++ nd :: ns.drop (k + 1) := by
            rw [List.cons_getElem?_drop_succ' (unhide HY), List.take_append_drop]
          rw [e1, ndOf, List.find?_append, show (ns.take k).find? (fun nd => decide (nd.path = l)) = none from unhide hno]
          simp [hpl]
        have b2 := Below.step BB hb2
        clear hb2 hbr BB
        go_wp2
        go_ret
        exact ⟨.inl ⟨k, nd, rfl, hlt, unhide HY, unhide hF⟩, b2⟩
      · rw [show decide (nd.path = l) = false by simp [hpl]]
        have hno2 : Hid (ndOf (ns.take (k + 1)) l = none) := by
          show _ = _
          rw [List.take_add_one, unhide HY, ndOf, List.find?_append, show (ns.take k).find? (fun nd => decide (nd.path = l)) = none from unhide hno]
          simp [hpl]
        have b2 := Below.step hbr hb2
        clear hb2 hbr BB
        go_wp2
        go_roundw
        case rel => exact ⟨k + 1, by omega, by go_num, hno2, b2⟩
        case measure => simp [intOf]; omega
    · have hlt' : ¬ (k : Int) < (n : Int) := by omega
      have hF : Hid (ndOf ns l = none) := by
        show _ = _
        have := unhide hno
        rwa [List.take_of_length_le (by rw [unhide en]; omega)] at this
      go_wp2
      go_ret
      exact ⟨.inr ⟨rfl, unhide hF⟩, BB⟩

/-- may a path have children? -/
def canPar (ns : List Nod) (l : List Int) : Bool := if l = [47] then true else match ndOf ns l with | some nd => nd.owner == 0 | none => false

set_option maxHeartbeats 1600000 in
theorem l3canParent_any (e g x t : Int) (p q : Option Addr) (c n d m : Nat) (S : Value) (ns : List Nod) (l : List Int) (en : Hid (ns.length = n)) (em : Hid (l.length = m)) (w : World) (h : RdN w (.slice p n c) ns) (hl : Rd w (.slice q m d) l) (hn : n ≤ 1048576) (hm : m ≤ 2097152)
    (hby : Hid (Byt l ∧ ∀ nd ∈ ns, Byt nd.path)) (B : Bool) (eB : Hid (canPar ns l = B)) :
    Calls Tryd.prog 72 #[stV e g x t S (.slice p n c), .slice q m d] w fun r w' => r = .returned (.bool B) ∧ Below w.heap.size w w' := by
  have HR := hide fun (w' : World) (hb : Below w.heap.size w w') => And.intro (h.below hb) (hl.below hb)
  clear h hl
  obtain ⟨W, hW⟩ : ∃ W, W = (w.alloc (.cells #[.int .u64 e, .int .u64 g, .int .u64 x, .int .i64 t, S, .slice p n c] 48)) := ⟨_, rfl⟩
  have bW : Below w.heap.size w W := by rw [hW]; exact (Below.refl _ _).alloc (Nat.le_refl _) _
  have sW : W.heap.size = w.heap.size + 1 := by rw [hW]; simp
  have hc5 : St6 W w.heap.size e g x t S (.slice p n c) := by rw [hW]; simp [St6]
  have hcv := Lib.run_convert_bytes_const (P := Tryd.prog) W 22 5 #[.int .u8 47] 1 1 Tryd.underlying22 Tryd.underlying5
  simp only [show (#[Value.int .u8 47] : Array Value).size = 1 from rfl] at hcv
  obtain ⟨X, hX⟩ : ∃ X, X = W.alloc (.cells #[.int .u8 47] 5 (1, 1 + 1)) := ⟨_, rfl⟩
  have rX : Rd X (.slice (some ⟨w.heap.size + 1, 0, none⟩) 1 1) [47] := by
    rw [hX, ← sW]
    refine ⟨_, _, rfl, .inr ⟨W.heap.size, 0, rfl, fun i hi => ?_⟩⟩
    match i, hi with
    | 0, _ => (rw [Nat.zero_add, cellFr]; rfl)
  have bX : Below w.heap.size w X := by rw [hX]; exact bW.alloc (by omega) _
  have iX : St6 X w.heap.size e g x t S (.slice p n c) := hc5.below (by rw [hX]; exact (Below.refl _ _).alloc (Nat.le_refl _) _)
  rw [← hX, sW, hW] at hcv
  clear sW hc5 bW hX hW
  have RX := hide rX
  have BX := hide bX
  have IX := hide iX
  clear rX bX iX
  go_enter Tryd.func72, Tryd.ntmps72
  go_wp2_with fail
  refine (l3same_any q _ d 1 m 1 l [47] em (by show _ = _; rfl) _ (unhide HR _ (unhide BX)).2 (unhide RX) (unhide hby).1 (by intro x hx; simp at hx; omega)).mono ?_
  rintro r w2 ⟨rfl, hb2⟩
  have b2 := Below.step (unhide BX) hb2
  obtain ⟨j0, j1, j2, j3, j4, j5⟩ := (unhide IX).below hb2
  clear hcv hb2
  by_cases h47 : l = [47]
  · rw [show decide (l = [47]) = true by simp [h47]]
    have eT : B = true := by rw [← unhide eB, canPar, if_pos h47]
    subst eT
    clear h47
    go_wp2
    go_ret
    exact ⟨rfl, b2⟩
  · rw [show decide (l = [47]) = false by simp [h47]]
    have hB : (match ndOf ns l with | some nd => nd.owner == 0 | none => false) = B := by rw [← unhide eB, canPar, if_neg h47]
    have HB := hide hB
    clear hB h47
    go_wp2_with fail
    refine (l3node_any e g x t p q c n d m S ns l en em _ (unhide HR _ b2).1 (unhide HR _ b2).2 hn hm hby).mono ?_
    rintro r w3 ⟨hr, hb3⟩
    have b3 := Below.step b2 hb3
    have k5 := cell_below j5 hb3
    clear j0 j1 j2 j3 j4 j5 hb3
    rcases hr with ⟨k, nd, rfl, hk, hy, hF⟩ | ⟨rfl, hF⟩
    · rw [hF] at HB
      have hkl : k < ns.length := by rw [unhide en]; exact hk
      obtain ⟨b, o, rfl, hA⟩ := (unhide HR _ b3).1.at (by omega)
      obtain ⟨P, V, H, U, hnd⟩ := hA k nd hy
      have hO := hnd.c2
      have hk' : (k : Int) < (n : Int) := by omega
      have hk0 : (0 : Int) ≤ (k : Int) := by omega
      clear hA hnd hkl hy hF
      cases B with
      | true =>
        have ho : nd.owner = 0 := by have := unhide HB; simpa using this
        rw [ho] at hO
        clear ho
        go_wp2
        go_ret
        exact ⟨rfl, b3⟩
      | false =>
        have ho : (nd.owner == 0) = false := unhide HB
        go_wp2
        go_ret
        exact ⟨rfl, b3⟩
    · rw [hF] at HB
      have eF : B = false := (unhide HB).symm
      subst eF
      clear hF
      go_wp2
      go_ret
      exact ⟨rfl, b3⟩
end Go.Proofs.YtieofdbdkpdlcaaDoor
