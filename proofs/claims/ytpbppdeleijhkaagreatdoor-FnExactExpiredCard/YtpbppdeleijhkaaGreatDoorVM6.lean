import Derived.Test.YtpbppdeleijhkaaGreatDoorVM5
namespace Go.Proofs.YtpbppdeleijhkaaGreatDoor
open Go.ChangeShapes Go.WideShapes Go.ChangeAt Go.RowKit Go.Maps
set_option linter.unusedVariables false
set_option linter.unusedSimpArgs false
set_option maxRecDepth 100000

section
variable {P : Program} (w : World) {ops : Array Oper} {rest : List Oper} {o : Oper} {a : Act} {Q : Exit → Act → World → Prop}
theorem wpList_lookup_hit (hg : o.guard = none) (m x : Operand) (t : TypeId) (hop : o.op = Op.lookup t m x true) (k e : TypeId) (K : Keyed P k) (ht : P.underlying t = some (.map k e)) (hz : (zeroValue e).run P w = .ok (.pointer none) w) (b n : Nat) (D : DataW Unit) (l : List (Lit × Nat)) (hM : MapTo D l)
    (hm : a.eval m = .map (some b)) (hown : w.ownsMap P k ptrElem b n D) (key : Value) (p : Lit × Nat) (hp : p ∈ l) (hx : a.eval x = key) (hkey : keyOf P k key = some p.1)
    (hK : wpList P ops Q rest (a.put o.dst (.tuple #[.pointer (some ⟨p.2, 0, none⟩), .bool true])) w) : wpList P ops Q (o :: rest) a w :=
  wpList_lookup_own_ok w hg m x t hop k e K ht ptrElem hz .nil [] rfl b n D hm hown key p.1 hx hkey (fun v ps hv => by
    rw [hM.at' p hp] at hv
    obtain rfl := ptrElem_inv hv
    rw [(hM.hs p.1).2 ⟨p, hp, rfl⟩]
    exact hK)
theorem wpList_lookup_miss (hg : o.guard = none) (m x : Operand) (t : TypeId) (hop : o.op = Op.lookup t m x true) (k e : TypeId) (K : Keyed P k) (ht : P.underlying t = some (.map k e)) (hz : (zeroValue e).run P w = .ok (.pointer none) w) (b n : Nat) (D : DataW Unit) (l : List (Lit × Nat)) (hM : MapTo D l)
    (hm : a.eval m = .map (some b)) (hown : w.ownsMap P k ptrElem b n D) (key : Value) (kl : Lit) (hno : ∀ p ∈ l, p.1 ≠ kl) (hx : a.eval x = key) (hkey : keyOf P k key = some kl)
    (hK : wpList P ops Q rest (a.put o.dst (.tuple #[.pointer none, .bool false])) w) : wpList P ops Q (o :: rest) a w :=
  wpList_lookup_own_ok w hg m x t hop k e K ht ptrElem hz .nil [] rfl b n D hm hown key kl hx hkey (fun v ps hv => by
    have hh : Maps.has D kl = false := by
      rw [Bool.eq_false_iff]
      intro h
      obtain ⟨p, hp, e⟩ := (hM.hs kl).1 h
      exact hno p hp e
    rw [Maps.atKey_of_not_has hh] at hv
    obtain rfl := ptrElem_nil hv
    rw [hh]
    exact hK)
end
theorem zeroNodeP (w : World) : (zeroValue 142).run Tryz.prog w = .ok (.pointer none) w := by kernel_rfl
theorem ndOf_some {ns : List Nod} {l : List Int} {nd : Nod} (h : ndOf ns l = some nd) : nd.path = l ∧ ∃ i : Nat, ns[i]? = some nd := by
  have h1 := List.find?_some h
  have h2 := List.mem_of_find?_eq_some h
  exact ⟨by simpa using h1, List.getElem?_of_mem h2⟩
theorem ndOf_none {ns : List Nod} {l : List Int} (h : ndOf ns l = none) : ∀ nd ∈ ns, nd.path ≠ l := by
  intro nd hnd e
  have := List.find?_eq_none.1 h nd hnd
  simp [e] at this

set_option maxHeartbeats 1600000 in
theorem canHave_any {w0 : World} {b bs bn : Nat} {e g x t : Int} {ss : List Ses} {ns : List Nod} {SB NB HB UB : List Nat} (l : List Int) (w : World) (hst : Hid (StoreAt w0 w b bs bn e g x t ss ns SB NB HB UB)) (hB : Hid (Byt l)) (hbn : Hid (∀ nd ∈ ns, Byt nd.path)) (hl : l.length ≤ 1048577) (B : Bool) (eB : Hid (canPar ns l = B)) :
    Calls Tryz.prog 158 #[.pointer (some ⟨b, 0, none⟩), .string (bstr l)] w fun r w' => r = .returned (.bool B) ∧ Below w.heap.size w w' := by
  have hc5 : w.cell? ⟨b, 5, none⟩ = some (.map (some bn)) := cells_at (unhide hst).hd 5
  obtain ⟨D, oD, mD⟩ := (unhide hst).nod.own
  have hkey : keyOf Tryz.prog 9 (.string (bstr l)) = some (litS l) := by
    rw [WideMaps.keyOf_string_mk Tryz.underlying9 (by rw [bstr_size]; unfold maxLen; omega), bstr_litS]
  have OD := hide oD
  have MD := hide mD
  have HKEY := hide hkey
  have hroot : ((bstr l).toList == (bstr [47]).toList) = decide (l = [47]) := bstr_eq (unhide hB) (by intro y hy; simp at hy; omega)
  rw [show (bstr [47]).toList = [47] from bstr_list [47]] at hroot
  clear oD mD hkey
  obtain ⟨s, es⟩ : ∃ s, s = bstr l := ⟨_, rfl⟩
  rw [← es] at hroot HKEY ⊢
  clear es
  by_cases h47 : l = [47]
  · have eT : B = true := by rw [← unhide eB, canPar, if_pos h47]
    subst eT
    have hr : (s.toList == [47]) = true := by rw [hroot]; simp [h47]
    clear hroot h47
    go_enter Tryz.func158, Tryz.ntmps158
    go_wp2
    go_ret
    exact ⟨rfl, Below.refl _ _⟩
  · have hr : (s.toList == [47]) = false := by rw [hroot]; simp [h47]
    have hB2 : (match ndOf ns l with | some nd => nd.owner == 0 | none => false) = B := by rw [← unhide eB, canPar, if_neg h47]; rfl
    clear hroot h47
    cases hF : ndOf ns l with
    | none =>
      rw [hF] at hB2
      have eF : B = false := hB2.symm
      subst eF
      have hno : Hid (∀ p ∈ List.zipWith (fun (nd : Nod) g => (litS nd.path, g)) ns NB, p.1 ≠ litS l) := by
        intro p hp
        obtain ⟨i, nd, y, hx, hy, rfl⟩ := zip_mem hp
        intro ee
        have hm := List.mem_of_getElem? hx
        exact ndOf_none hF nd hm (litS_inj (unhide hbn nd hm) (unhide hB) ee)
      clear hF hB2
      go_enter Tryz.func158, Tryz.ntmps158
      go_wp2_with (first
        | (at_lookup; refine wpList_lookup_miss _ rfl _ _ 100 rfl 9 _ keyT Tryz.underlying100 (zeroNodeP _) bn _ D _ (unhide MD) rfl (unhide OD) _ (litS l) (unhide hno) rfl (unhide HKEY) ?_)
        | go_in)
      go_ret
      exact ⟨rfl, Below.refl _ _⟩
    | some nd =>
      rw [hF] at hB2
      replace hB2 : (nd.owner == 0) = B := hB2
      obtain ⟨hp, i, hi⟩ := ndOf_some hF
      obtain ⟨g1, h1, u1, q1, q2, q3⟩ := (unhide hst).nod.at hi
      obtain ⟨_, _, _, ⟨V, a4, _⟩, _, _⟩ := (unhide hst).nod.blk i nd g1 h1 u1 hi q1 q2 q3
      have hcO : w.cell? ⟨g1, 1, none⟩ = some (.int .u64 nd.owner) := cells_at a4 1
      have hmem : Hid ((litS l, g1) ∈ List.zipWith (fun (nd : Nod) g => (litS nd.path, g)) ns NB) := by
        show _ ∈ _
        rw [List.mem_iff_getElem?]
        refine ⟨i, ?_⟩
        rw [List.getElem?_zipWith, hi, q1]
        show some (litS nd.path, g1) = some (litS l, g1)
        rw [hp]
      obtain ⟨ow, eow⟩ : ∃ ow, nd.owner = ow := ⟨_, rfl⟩
      rw [eow] at hcO hB2
      clear hF hp hi q1 q2 q3 a4 eow
      cases B with
      | true =>
        have ho : ow = 0 := by simpa using hB2
        subst ho
        clear hB2
        go_enter Tryz.func158, Tryz.ntmps158
        go_wp2_with (first
          | (at_lookup; refine wpList_lookup_hit _ rfl _ _ 100 rfl 9 _ keyT Tryz.underlying100 (zeroNodeP _) bn _ D _ (unhide MD) rfl (unhide OD) _ (litS l, g1) (unhide hmem) rfl (unhide HKEY) ?_)
          | go_in)
        go_ret
        exact ⟨rfl, Below.refl _ _⟩
      | false =>
        have ho : (ow == 0) = false := hB2
        clear hB2
        go_enter Tryz.func158, Tryz.ntmps158
        go_wp2_with (first
          | (at_lookup; refine wpList_lookup_hit _ rfl _ _ 100 rfl 9 _ keyT Tryz.underlying100 (zeroNodeP _) bn _ D _ (unhide MD) rfl (unhide OD) _ (litS l, g1) (unhide hmem) rfl (unhide HKEY) ?_)
          | go_in)
        go_ret
        exact ⟨rfl, Below.refl _ _⟩
end Go.Proofs.YtpbppdeleijhkaaGreatDoor
