import Derived.Test.YtpbppdeleijhkaaGreatDoorVM6
import Derived.Test.YtpbppdeleijhkaaGreatDoorJ3
namespace Go.Proofs.YtpbppdeleijhkaaGreatDoor
open Go.ChangeShapes Go.WideShapes Go.ChangeAt Go.RowKit Go.Maps
set_option linter.unusedVariables false
set_option linter.unusedSimpArgs false
set_option maxRecDepth 100000

theorem invT : ∀ (key : Value) (kl : Lit), keyOf Tryz.prog 9 key = some kl → ∃ s : ByteArray, key = .string s := by
  intro key kl hk
  cases key <;> simp [keyOf, Tryz.underlying9, mapKey] at hk
  exact ⟨_, rfl⟩
theorem keyT_val {s : ByteArray} {l : List Int} (h : keyOf Tryz.prog 9 (.string s) = some (litS l)) : s = bstr l := by
  simp [keyOf, Tryz.underlying9, mapKey] at h
  exact litS_val h.2
theorem litS_same {l m : List Int} (hl : Byt l) (hm : Byt m) : (litS l).sameKey (litS m) = decide (l = m) := by
  rw [Bool.eq_iff_iff, WideAt.sameKey_iff (by trivial), decide_eq_true_iff]
  exact ⟨fun h => litS_inj hl hm h, fun h => by rw [h]⟩

set_option maxHeartbeats 1600000 in
theorem hasAll_any {w0 : World} {b bs bn : Nat} {e g x t : Int} {ss : List Ses} {ns : List Nod} {SB NB HB UB : List Nat} (w : World) (hst : Hid (StoreAt w0 w b bs bn e g x t ss ns SB NB HB UB)) (hbn : Hid (∀ nd ∈ ns, Byt nd.path ∧ nd.path.length ≤ 1048576)) (B : Bool) (eB : Hid (ns.all (fun nd => canPar ns (parL nd.path)) = B)) :
    Calls Tryz.prog 111 #[.pointer (some ⟨b, 0, none⟩)] w fun r w' => r = .returned (.bool B) ∧ Below w.heap.size w w' := by
  have hc5 : w.cell? ⟨b, 5, none⟩ = some (.map (some bn)) := cells_at (unhide hst).hd 5
  obtain ⟨D, oD, mD⟩ := (unhide hst).nod.own
  obtain ⟨m, em⟩ : ∃ m, ns.length = m := ⟨_, rfl⟩
  rw [em] at oD
  clear em
  have hbn' : Hid (∀ nd ∈ ns, Byt nd.path) := fun nd h => (unhide hbn nd h).1
  have MD := hide mD
  clear mD
  go_enter Tryz.func111, Tryz.ntmps111
  go_wp2_with (first
    | (at_range; refine wpList_range_own _ rfl _ 100 rfl 9 _ keyT Tryz.underlying100 _ bn m _ rfl oD ?_; intro w1 hrg0 hg0 hs0)
    | go_in)
  go_frame
  go_loopw [3] (fun _ wr => ∃ (left : Lit → Bool) (cnt : Nat), wr.ranges Tryz.prog 9 ptrElem bn w.heap.size m D left cnt ∧ Hid (∀ nd ∈ ns, left (litS nd.path) = false → canPar ns (parL nd.path) = true) ∧ Below w.heap.size w wr) (fun _ wr => wr.rangeLeft bn w.heap.size)
  case atStart =>
    refine ⟨_, _, hrg0, fun nd hnd hl => ?_, grown_below hg0⟩
    exfalso
    obtain ⟨i, hi⟩ := List.getElem?_of_mem hnd
    obtain ⟨g1, h1, u1, q1, q2, q3⟩ := (unhide hst).nod.at hi
    have : Maps.has D (litS nd.path) = true := ((unhide MD).hs _).2 ⟨(litS nd.path, g1), by
      rw [List.mem_iff_getElem?]
      refine ⟨i, ?_⟩
      rw [List.getElem?_zipWith, hi, q1], rfl⟩
    rw [this] at hl
    cases hl
  case round =>
    obtain ⟨left, cnt, hrg, hok, hbr⟩ := hrel
    have HST := hide ((unhide hst).below hbr)
    go_wp2_with (first
      | (at_next; refine wpList_next_ptr _ rfl _ rfl 9 keyT (fun s : ByteArray => .string s) invT bn w.heap.size m _ _ (unhide MD) _ _ rfl hrg ?_ ?_)
      | go_in)
    · intro _ hl0
      have eT : B = true := by
        rw [← unhide eB, List.all_eq_true]
        exact fun nd hnd => unhide hok nd hnd (hl0 _)
      subst eT
      go_wp2
      go_ret
      exact ⟨rfl, hbr⟩
    · intro s pl g1 w2 cnt1 hkey hp hlp hrg1 hlt hg1 hs1 hen
      obtain ⟨i, nd, g1', hi, hgi, ee⟩ := zip_mem hp
      simp only [Prod.mk.injEq] at ee
      obtain ⟨rfl, rfl⟩ := ee
      have hb2 : Below w.heap.size w w2 := below_of_grown hbr hg1 hbr.size (fun j hj => by cases hj; exact Nat.le_refl _)
      obtain rfl := keyT_val hkey
      have hnd := List.mem_of_getElem? hi
      obtain ⟨hB1, hB2⟩ := unhide hbn nd hnd
      obtain ⟨T, eT⟩ : ∃ T, canPar ns (parL nd.path) = T := ⟨_, rfl⟩
      have ET := hide eT
      have HF : Hid (T = false → B = false) := fun h => by
        rw [← unhide eB, List.all_eq_false]
        exact ⟨nd, hnd, by rw [eT, h]; simp⟩
      have HT : Hid (T = true → Hid (∀ nd' ∈ ns, (fun z => left z && !z.sameKey (litS nd.path)) (litS nd'.path) = false → canPar ns (parL nd'.path) = true)) := fun h nd' hnd' hl => by
        simp only [litS_same (unhide hbn nd' hnd').1 hB1] at hl
        by_cases ep : nd'.path = nd.path
        · rw [ep, eT, h]
        · simp [ep] at hl
          exact unhide hok nd' hnd' hl
      have HB1 : Hid (Byt nd.path) := hB1
      have HB3 := hide (parL_byt hB1)
      have hpl : (parL nd.path).length ≤ 1048577 := by
        unfold parL
        split
        · simp
        · rw [List.length_take]; omega
      have HST2 := hide ((unhide hst).below hb2)
      have hen' : (Instr.entry (.pointer (some ⟨w.heap.size, 0, none⟩))).run Tryz.prog w2 = .ok (.tuple #[.string (bstr nd.path), .pointer (some ⟨g1, 0, none⟩)]) w2 := hen
      clear hkey hp hi hgi hnd hB1 eT hen
      go_wp2_with fail
      refine (parentOf_any nd.path _ (by show _ = _; rfl) HB1 hB2 _).mono ?_
      rintro r w3 ⟨rfl, rfl⟩
      go_wp2_with fail
      refine (canHave_any (parL nd.path) _ HST2 HB3 hbn' hpl T ET).mono ?_
      rintro r w4 ⟨rfl, hb4⟩
      have b4 := Below.step hb2 hb4
      cases T with
      | false =>
        have eF := unhide HF rfl
        subst eF
        clear hen'
        go_wp2
        go_ret
        exact ⟨rfl, b4⟩
      | true =>
        have HOK := unhide HT rfl
        have hrg2 := hrg1.kept (grown_of_below hb4 none) (by simp) (by simp)
        clear hen'
        go_wp2
        go_roundw
        case rel => exact ⟨_, cnt1, hrg2, HOK, b4⟩
        case measure => rw [hrg2.left_eq, hrg.left_eq]; exact hlt
end Go.Proofs.YtpbppdeleijhkaaGreatDoor
