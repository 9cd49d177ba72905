import Derived.Test.YtlkhghcffhckmaaDoorPCd
import Derived.Test.YtlkhghcffhckmaaDoorDRe
namespace Go.Proofs.YtlkhghcffhckmaaDoor
open Go.ChangeShapes Go.WideShapes Go.ChangeAt Go.RowKit
set_option linter.unusedVariables false
set_option linter.unusedSimpArgs false
set_option maxRecDepth 100000

/-- a command as a value -/
abbrev cmV (k op se : Int) (P : Value) (fl : Int) (V : Value) (ep ge n m : Int) : Value := .agg #[.int .i64 k, .int .i64 op, .int .u64 se, P, .int .i64 fl, V, .int .u64 ep, .int .u64 ge, .int .i64 n, .int .i64 m]
set_option maxHeartbeats 3200000 in
theorem fill_S (k op se fl ep ge nn mm : Int) (a1 : Option Addr) (a2 a3 : Nat) (b1 : Option Addr) (b2 b3 : Nat) (p : Option Addr) (c n : Nat) (l : List Int) (en : Hid (l.length = n)) (w : World) (h : Rd w (.slice p n c) l) (hb : Hid (Byt l)) (hl : n ≤ 1048576) (R : Option Int) (eR : Hid (numO l 4611686018427387904 = R)) :
  Calls Tryd.prog 14 #[cmV k op se (.slice a1 a2 a3) fl (.slice b1 b2 b3) ep ge nn mm, .int .u8 83, .slice p n c] w fun e w' => (∃ v, e = .returned (.tuple #[cmV k op v (.slice a1 a2 a3) fl (.slice b1 b2 b3) ep ge nn mm, .bool R.isSome]) ∧ ∀ x, R = some x → v = x) ∧ Below w.heap.size w w' := by
 have HR := hide fun (w' : World) (hb : Below w.heap.size w w') => h.below hb
 clear h
 go_enter Tryd.func14, Tryd.ntmps14
 go_wp2_with fail
 refine (l6number_any p c n l en _ (unhide HR _ (((Below.refl _ _).alloc (Nat.le_refl _) _).alloc (by simp) _)) hb hl 4611686018427387904 R eR).mono ?_
 rintro r w1 ⟨⟨v, rfl, hv⟩, rfl⟩
 have HV := hide hv
 clear hv
 go_wp2
 refine bodyPost_ret (v := .tuple #[cmV k op v (.slice a1 a2 a3) fl (.slice b1 b2 b3) ep ge nn mm, .bool R.isSome]) (by simp [results, Tryd.results14, go_sem]) rfl ⟨⟨v, rfl, unhide HV⟩, ?_⟩
 repeat (first | exact Below.refl _ _ | refine Below.setCell ?_ (by simp) _ | refine Below.alloc ?_ (by simp) _)
set_option maxHeartbeats 3200000 in
theorem fill_E (k op se fl ep ge nn mm : Int) (a1 : Option Addr) (a2 a3 : Nat) (b1 : Option Addr) (b2 b3 : Nat) (p : Option Addr) (c n : Nat) (l : List Int) (en : Hid (l.length = n)) (w : World) (h : Rd w (.slice p n c) l) (hb : Hid (Byt l)) (hl : n ≤ 1048576) (R : Option Int) (eR : Hid (numO l 4611686018427387904 = R)) :
  Calls Tryd.prog 14 #[cmV k op se (.slice a1 a2 a3) fl (.slice b1 b2 b3) ep ge nn mm, .int .u8 69, .slice p n c] w fun e w' => (∃ v, e = .returned (.tuple #[cmV k op se (.slice a1 a2 a3) fl (.slice b1 b2 b3) v ge nn mm, .bool R.isSome]) ∧ ∀ x, R = some x → v = x) ∧ Below w.heap.size w w' := by
 have HR := hide fun (w' : World) (hb : Below w.heap.size w w') => h.below hb
 clear h
 go_enter Tryd.func14, Tryd.ntmps14
 go_wp2_with fail
 refine (l6number_any p c n l en _ (unhide HR _ (((Below.refl _ _).alloc (Nat.le_refl _) _).alloc (by simp) _)) hb hl 4611686018427387904 R eR).mono ?_
 rintro r w1 ⟨⟨v, rfl, hv⟩, rfl⟩
 have HV := hide hv
 clear hv
 go_wp2
 refine bodyPost_ret (v := .tuple #[cmV k op se (.slice a1 a2 a3) fl (.slice b1 b2 b3) v ge nn mm, .bool R.isSome]) (by simp [results, Tryd.results14, go_sem]) rfl ⟨⟨v, rfl, unhide HV⟩, ?_⟩
 repeat (first | exact Below.refl _ _ | refine Below.setCell ?_ (by simp) _ | refine Below.alloc ?_ (by simp) _)
set_option maxHeartbeats 3200000 in
theorem fill_G (k op se fl ep ge nn mm : Int) (a1 : Option Addr) (a2 a3 : Nat) (b1 : Option Addr) (b2 b3 : Nat) (p : Option Addr) (c n : Nat) (l : List Int) (en : Hid (l.length = n)) (w : World) (h : Rd w (.slice p n c) l) (hb : Hid (Byt l)) (hl : n ≤ 1048576) (R : Option Int) (eR : Hid (numO l 4611686018427387904 = R)) :
  Calls Tryd.prog 14 #[cmV k op se (.slice a1 a2 a3) fl (.slice b1 b2 b3) ep ge nn mm, .int .u8 71, .slice p n c] w fun e w' => (∃ v, e = .returned (.tuple #[cmV k op se (.slice a1 a2 a3) fl (.slice b1 b2 b3) ep v nn mm, .bool R.isSome]) ∧ ∀ x, R = some x → v = x) ∧ Below w.heap.size w w' := by
 have HR := hide fun (w' : World) (hb : Below w.heap.size w w') => h.below hb
 clear h
 go_enter Tryd.func14, Tryd.ntmps14
 go_wp2_with fail
 refine (l6number_any p c n l en _ (unhide HR _ (((Below.refl _ _).alloc (Nat.le_refl _) _).alloc (by simp) _)) hb hl 4611686018427387904 R eR).mono ?_
 rintro r w1 ⟨⟨v, rfl, hv⟩, rfl⟩
 have HV := hide hv
 clear hv
 go_wp2
 refine bodyPost_ret (v := .tuple #[cmV k op se (.slice a1 a2 a3) fl (.slice b1 b2 b3) ep v nn mm, .bool R.isSome]) (by simp [results, Tryd.results14, go_sem]) rfl ⟨⟨v, rfl, unhide HV⟩, ?_⟩
 repeat (first | exact Below.refl _ _ | refine Below.setCell ?_ (by simp) _ | refine Below.alloc ?_ (by simp) _)
set_option maxHeartbeats 3200000 in
theorem fill_N (k op se fl ep ge nn mm : Int) (a1 : Option Addr) (a2 a3 : Nat) (b1 : Option Addr) (b2 b3 : Nat) (p : Option Addr) (c n : Nat) (l : List Int) (en : Hid (l.length = n)) (w : World) (h : Rd w (.slice p n c) l) (hb : Hid (Byt l)) (hl : n ≤ 1048576) (R : Option Int) (eR : Hid (numO l 1000000 = R)) :
  Calls Tryd.prog 14 #[cmV k op se (.slice a1 a2 a3) fl (.slice b1 b2 b3) ep ge nn mm, .int .u8 78, .slice p n c] w fun e w' => (∃ v, e = .returned (.tuple #[cmV k op se (.slice a1 a2 a3) fl (.slice b1 b2 b3) ep ge v mm, .bool R.isSome]) ∧ ∀ x, R = some x → v = x) ∧ Below w.heap.size w w' := by
 have HR := hide fun (w' : World) (hb : Below w.heap.size w w') => h.below hb
 clear h
 go_enter Tryd.func14, Tryd.ntmps14
 go_wp2_with fail
 refine (l6number_any p c n l en _ (unhide HR _ (((Below.refl _ _).alloc (Nat.le_refl _) _).alloc (by simp) _)) hb hl 1000000 R eR).mono ?_
 rintro r w1 ⟨⟨v, rfl, hv⟩, rfl⟩
 have hvr : ∀ x, R = some x → IntKind.i64.wrap v = x := fun x hx => by
  have h0 := hv x hx
  have := unhide eR
  rw [hx, numO] at this
  split at this
  ·next hc =>
   have h1 := (numV_bound l hc.2.1 l.length (Nat.le_refl _)).1
   rw [List.take_length] at h1
   have h2 := hc.2.2
   have h3 : numV l = x := by simpa using this
   rw [h0]
   exact IntWalk.i64_in _ (by omega)
  ·cases this
 obtain ⟨u, hu⟩ : ∃ u, IntKind.i64.wrap v = u := ⟨_, rfl⟩
 rw [hu] at hvr
 have HV := hide hvr
 clear hv hvr
 go_wp2
 refine bodyPost_ret (v := .tuple #[cmV k op se (.slice a1 a2 a3) fl (.slice b1 b2 b3) ep ge u mm, .bool R.isSome]) (by simp [results, Tryd.results14, go_sem]) rfl ⟨⟨u, rfl, unhide HV⟩, ?_⟩
 repeat (first | exact Below.refl _ _ | refine Below.setCell ?_ (by simp) _ | refine Below.alloc ?_ (by simp) _)
set_option maxHeartbeats 3200000 in
theorem fill_n (k op se fl ep ge nn mm : Int) (a1 : Option Addr) (a2 a3 : Nat) (b1 : Option Addr) (b2 b3 : Nat) (p : Option Addr) (c n : Nat) (l : List Int) (en : Hid (l.length = n)) (w : World) (h : Rd w (.slice p n c) l) (hb : Hid (Byt l)) (hl : n ≤ 1048576) (R : Option Int) (eR : Hid (numO l 5 = R)) :
  Calls Tryd.prog 14 #[cmV k op se (.slice a1 a2 a3) fl (.slice b1 b2 b3) ep ge nn mm, .int .u8 110, .slice p n c] w fun e w' => (∃ v, e = .returned (.tuple #[cmV k op se (.slice a1 a2 a3) fl (.slice b1 b2 b3) ep ge v mm, .bool R.isSome]) ∧ ∀ x, R = some x → v = x) ∧ Below w.heap.size w w' := by
 have HR := hide fun (w' : World) (hb : Below w.heap.size w w') => h.below hb
 clear h
 go_enter Tryd.func14, Tryd.ntmps14
 go_wp2_with fail
 refine (l6number_any p c n l en _ (unhide HR _ (((Below.refl _ _).alloc (Nat.le_refl _) _).alloc (by simp) _)) hb hl 5 R eR).mono ?_
 rintro r w1 ⟨⟨v, rfl, hv⟩, rfl⟩
 have hvr : ∀ x, R = some x → IntKind.i64.wrap v = x := fun x hx => by
  have h0 := hv x hx
  have := unhide eR
  rw [hx, numO] at this
  split at this
  ·next hc =>
   have h1 := (numV_bound l hc.2.1 l.length (Nat.le_refl _)).1
   rw [List.take_length] at h1
   have h2 := hc.2.2
   have h3 : numV l = x := by simpa using this
   rw [h0]
   exact IntWalk.i64_in _ (by omega)
  ·cases this
 obtain ⟨u, hu⟩ : ∃ u, IntKind.i64.wrap v = u := ⟨_, rfl⟩
 rw [hu] at hvr
 have HV := hide hvr
 clear hv hvr
 go_wp2
 refine bodyPost_ret (v := .tuple #[cmV k op se (.slice a1 a2 a3) fl (.slice b1 b2 b3) ep ge u mm, .bool R.isSome]) (by simp [results, Tryd.results14, go_sem]) rfl ⟨⟨u, rfl, unhide HV⟩, ?_⟩
 repeat (first | exact Below.refl _ _ | refine Below.setCell ?_ (by simp) _ | refine Below.alloc ?_ (by simp) _)
set_option maxHeartbeats 3200000 in
theorem fill_c (k op se fl ep ge nn mm : Int) (a1 : Option Addr) (a2 a3 : Nat) (b1 : Option Addr) (b2 b3 : Nat) (p : Option Addr) (c n : Nat) (l : List Int) (en : Hid (l.length = n)) (w : World) (h : Rd w (.slice p n c) l) (hb : Hid (Byt l)) (hl : n ≤ 1048576) (R : Option Int) (eR : Hid (numO l 4 = R)) :
  Calls Tryd.prog 14 #[cmV k op se (.slice a1 a2 a3) fl (.slice b1 b2 b3) ep ge nn mm, .int .u8 99, .slice p n c] w fun e w' => (∃ v, e = .returned (.tuple #[cmV k op se (.slice a1 a2 a3) fl (.slice b1 b2 b3) ep ge nn v, .bool R.isSome]) ∧ ∀ x, R = some x → v = x) ∧ Below w.heap.size w w' := by
 have HR := hide fun (w' : World) (hb : Below w.heap.size w w') => h.below hb
 clear h
 go_enter Tryd.func14, Tryd.ntmps14
 go_wp2_with fail
 refine (l6number_any p c n l en _ (unhide HR _ (((Below.refl _ _).alloc (Nat.le_refl _) _).alloc (by simp) _)) hb hl 4 R eR).mono ?_
 rintro r w1 ⟨⟨v, rfl, hv⟩, rfl⟩
 have hvr : ∀ x, R = some x → IntKind.i64.wrap v = x := fun x hx => by
  have h0 := hv x hx
  have := unhide eR
  rw [hx, numO] at this
  split at this
  ·next hc =>
   have h1 := (numV_bound l hc.2.1 l.length (Nat.le_refl _)).1
   rw [List.take_length] at h1
   have h2 := hc.2.2
   have h3 : numV l = x := by simpa using this
   rw [h0]
   exact IntWalk.i64_in _ (by omega)
  ·cases this
 obtain ⟨u, hu⟩ : ∃ u, IntKind.i64.wrap v = u := ⟨_, rfl⟩
 rw [hu] at hvr
 have HV := hide hvr
 clear hv hvr
 go_wp2
 refine bodyPost_ret (v := .tuple #[cmV k op se (.slice a1 a2 a3) fl (.slice b1 b2 b3) ep ge nn u, .bool R.isSome]) (by simp [results, Tryd.results14, go_sem]) rfl ⟨⟨u, rfl, unhide HV⟩, ?_⟩
 repeat (first | exact Below.refl _ _ | refine Below.setCell ?_ (by simp) _ | refine Below.alloc ?_ (by simp) _)
set_option maxHeartbeats 3200000 in
theorem fill_M (k op se fl ep ge nn mm : Int) (a1 : Option Addr) (a2 a3 : Nat) (b1 : Option Addr) (b2 b3 : Nat) (p : Option Addr) (c n : Nat) (l : List Int) (en : Hid (l.length = n)) (w : World) (h : Rd w (.slice p n c) l) (hb : Hid (Byt l)) (hl : n ≤ 1048576) (R : Option Int) (eR : Hid (numO l 1000000 = R)) :
  Calls Tryd.prog 14 #[cmV k op se (.slice a1 a2 a3) fl (.slice b1 b2 b3) ep ge nn mm, .int .u8 77, .slice p n c] w fun e w' => (∃ v, e = .returned (.tuple #[cmV k op se (.slice a1 a2 a3) fl (.slice b1 b2 b3) ep ge nn v, .bool R.isSome]) ∧ ∀ x, R = some x → v = x) ∧ Below w.heap.size w w' := by
 have HR := hide fun (w' : World) (hb : Below w.heap.size w w') => h.below hb
 clear h
 go_enter Tryd.func14, Tryd.ntmps14
 go_wp2_with fail
 refine (l6number_any p c n l en _ (unhide HR _ (((Below.refl _ _).alloc (Nat.le_refl _) _).alloc (by simp) _)) hb hl 1000000 R eR).mono ?_
 rintro r w1 ⟨⟨v, rfl, hv⟩, rfl⟩
 have hvr : ∀ x, R = some x → IntKind.i64.wrap v = x := fun x hx => by
  have h0 := hv x hx
  have := unhide eR
  rw [hx, numO] at this
  split at this
  ·next hc =>
   have h1 := (numV_bound l hc.2.1 l.length (Nat.le_refl _)).1
   rw [List.take_length] at h1
   have h2 := hc.2.2
   have h3 : numV l = x := by simpa using this
   rw [h0]
   exact IntWalk.i64_in _ (by omega)
  ·cases this
 obtain ⟨u, hu⟩ : ∃ u, IntKind.i64.wrap v = u := ⟨_, rfl⟩
 rw [hu] at hvr
 have HV := hide hvr
 clear hv hvr
 go_wp2
 refine bodyPost_ret (v := .tuple #[cmV k op se (.slice a1 a2 a3) fl (.slice b1 b2 b3) ep ge nn u, .bool R.isSome]) (by simp [results, Tryd.results14, go_sem]) rfl ⟨⟨u, rfl, unhide HV⟩, ?_⟩
 repeat (first | exact Below.refl _ _ | refine Below.setCell ?_ (by simp) _ | refine Below.alloc ?_ (by simp) _)
end Go.Proofs.YtlkhghcffhckmaaDoor
