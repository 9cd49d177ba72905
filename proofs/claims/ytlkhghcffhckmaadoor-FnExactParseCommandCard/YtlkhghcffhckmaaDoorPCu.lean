import Derived.Test.YtlkhghcffhckmaaDoorPCt
import Derived.Test.YtlkhghcffhckmaaDoorPCl
import Derived.Test.YtlkhghcffhckmaaDoorOPe
namespace Go.Proofs.YtlkhghcffhckmaaDoor
open Go.ChangeShapes Go.WideShapes Go.ChangeAt Go.RowKit
set_option linter.unusedVariables false
set_option linter.unusedSimpArgs false
set_option maxRecDepth 100000

theorem Rd.keepLv {w w' : World} {v : Value} {xs : List Int} {A : List Lf} (h : Rd w v xs) (hl : LvB v xs A) (hk : ∀ a ∈ A, w'.heap[a.b]? = w.heap[a.b]?) : Rd w' v xs := by
 obtain ⟨p, cap, e, hd⟩ := h
 obtain ⟨p', c', Ls, e', h2, h3, h4⟩ := hl
 rw [e] at e'
 simp only [Value.slice.injEq, true_and] at e'
 obtain ⟨rfl, rfl⟩ := e'
 refine ⟨p, cap, e, ?_⟩
 by_cases hx : xs = []
 ·exact .inl hx
 rcases hd with h0 | ⟨b, o, h1, hc⟩
 ·exact .inl h0
 rcases h4 with h0 | ⟨b', o', h1', hl'⟩
 ·exact .inl h0
 rw [h1] at h1'
 simp only [Option.some.injEq, Addr.mk.injEq, and_true] at h1'
 obtain ⟨rfl, rfl⟩ := h1'
 refine .inr ⟨b, o, h1, fun i hi => ?_⟩
 obtain ⟨l, hl⟩ : ∃ l, Ls[i]? = some l := ⟨_, List.getElem?_eq_getElem (by omega)⟩
 have hm := hl' i _ l (List.getElem?_eq_getElem hi) hl
 have hb := hk ⟨b, o + i * 1, .u8⟩ (by rw [h3]; exact List.mem_flatten.2 ⟨l, List.mem_of_getElem? hl, by rw [hm]; simp⟩)
 rw [cell_at_heap hb]
 exact hc i hi
theorem OwnP.keep {B : Nat} {w w' : World} {P V : Value} {pa va : List Int} (h : OwnP B w P V pa va) (hk : ∀ b, B ≤ b → b < w.heap.size → w'.heap[b]? = w.heap[b]?) : OwnP B w' P V pa va := by
 obtain ⟨A1, A2, h1, h2, h3, h4, h5, h6, h7⟩ := h
 have hka : ∀ a ∈ A1 ++ A2, w'.heap[a.b]? = w.heap[a.b]? := fun a ha => hk a.b (h7 a ha).1 (h5.lt ha)
 refine ⟨A1, A2, h1.keepLv h3 (fun a ha => hka a (List.mem_append_left _ ha)), h2.keepLv h4 (fun a ha => hka a (List.mem_append_right _ ha)), h3, h4, fun a ha => ?_, h6, h7⟩
 obtain ⟨⟨n, hc⟩, hf⟩ := h5 a ha
 exact ⟨⟨n, (cell_at_heap (hka a ha) _).trans hc⟩, (World.frozen?_of_block (hka a ha)).trans hf⟩
theorem CellsAre.keepB {w w' : World} {b : Nat} {vs : List Value} (h : CellsAre w b vs) (hk : w'.heap[b]? = w.heap[b]?) : CellsAre w' b vs :=
 ⟨fun i v hi => (cell_at_heap hk _).trans (h.1 i v hi), fun o => (World.frozen?_of_block hk).trans (h.2 o)⟩
set_option maxHeartbeats 1600000 in
theorem eqCmd_n (C : Cmd) (a1 : Option Addr) (a3 : Nat) (d1 : Option Addr) (d3 : Nat) (x1 : Option Addr) (x3 : Nat) (y1 : Option Addr) (y3 n m : Nat) (ep : Hid (C.pa.length = n)) (ev : Hid (C.va.length = m)) (hn : n ≤ 1048576) (hm : m ≤ 1048576) (w : World) (h1 : Rd w (.slice a1 n a3) C.pa) (h2 : Rd w (.slice d1 m d3) C.va) (h3 : Rd w (.slice x1 n x3) C.pa) (h4 : Rd w (.slice y1 m y3) C.va) :
  Calls Tryd.prog 7 #[cmV C.k C.op C.se (.slice a1 n a3) C.fl (.slice d1 m d3) C.ep C.ge C.n C.m, cmV C.k C.op C.se (.slice x1 n x3) C.fl (.slice y1 m y3) C.ep C.ge C.n C.m] w fun e w' => e = .returned (.bool true) ∧ Below w.heap.size w w' := by
 have HE := hide fun (w' : World) (hb : Below w.heap.size w w') => eqOp_n C.op C.se C.fl C.ep C.ge a1 d1 x1 y1 n m a3 d3 x3 y3 C.pa C.va ep ev w' (h1.below hb) (h2.below hb) (h3.below hb) (h4.below hb) hn hm
 have e1 : (C.k != C.k) = false := by simp
 have e2 : (C.n != C.n) = false := by simp
 have e3 : (C.m != C.m) = false := by simp
 clear h1 h2 h3 h4
 go_enter Tryd.func7, Tryd.ntmps7
 go_wp2_with fail
 obtain ⟨W0, hW0⟩ : ∃ W, W = w.alloc (.cells #[.int .i64 C.k, .int .i64 C.op, .int .u64 C.se, .slice a1 n a3, .int .i64 C.fl, .slice d1 m d3, .int .u64 C.ep, .int .u64 C.ge, .int .i64 C.n, .int .i64 C.m] 27) := ⟨_, rfl⟩
 obtain ⟨W, hW⟩ : ∃ W, W = W0.alloc (.cells #[.int .i64 C.k, .int .i64 C.op, .int .u64 C.se, .slice x1 n x3, .int .i64 C.fl, .slice y1 m y3, .int .u64 C.ep, .int .u64 C.ge, .int .i64 C.n, .int .i64 C.m] 27) := ⟨_, rfl⟩
 have b0 : Below w.heap.size w W0 := by rw [hW0]; exact (Below.refl _ _).alloc (Nat.le_refl _) _
 have b1 : Below W0.heap.size W0 W := by rw [hW]; exact (Below.refl _ _).alloc (Nat.le_refl _) _
 have z0 : W0.heap.size = w.heap.size + 1 := by rw [hW0]; simp
 have z1 : W.heap.size = w.heap.size + 2 := by rw [hW]; simp; omega
 have c0 := hide ((by rw [hW0]; exact CellsAre.alloc w _ _ : CellsAre W0 w.heap.size [.int .i64 C.k, .int .i64 C.op, .int .u64 C.se, .slice a1 n a3, .int .i64 C.fl, .slice d1 m d3, .int .u64 C.ep, .int .u64 C.ge, .int .i64 C.n, .int .i64 C.m]).below (by omega) b1)
 have c1 := hide (by rw [hW, ← z0]; exact CellsAre.alloc W0 _ _ : CellsAre W (w.heap.size + 1) [.int .i64 C.k, .int .i64 C.op, .int .u64 C.se, .slice x1 n x3, .int .i64 C.fl, .slice y1 m y3, .int .u64 C.ep, .int .u64 C.ge, .int .i64 C.n, .int .i64 C.m])
 have bb := Below.step b0 b1
 rw [← hW0, ← hW]
 clear hW0 hW b0 b1
 refine (unhide HE W bb).mono ?_
 rintro r w2 ⟨rfl, hb2⟩
 have c02 := (unhide c0).below (by omega) hb2
 have c12 := (unhide c1).below (by omega) hb2
 have k8 := c02.1 8 _ rfl
 have k9 := c02.1 9 _ rfl
 have r8 := c12.1 8 _ rfl
 have r9 := c12.1 9 _ rfl
 have B2 := hide (Below.step bb hb2)
 clear hb2 c02 c12
 go_wp2
 go_ret
 exact ⟨rfl, unhide B2⟩
set_option maxHeartbeats 1600000 in
theorem markOp_lv (k s f e g : Int) (p q : Option Addr) (n m c d : Nat) (P V : List Int) (A1 A2 : List Lf) (w : World) (h1 : LvB (.slice p n c) P A1) (h2 : LvB (.slice q m d) V A2) (hA : LvIn w (A1 ++ A2)) (hn : A1.length + A2.length ≤ 4194304) :
  Calls Tryd.prog 19 #[opV k s (.slice p n c) f (.slice q m d) e g, .int .i64 1] w fun r w' => r = .returned (.int .i64 (1 + A1.length + A2.length)) ∧ Mk w w' (A1 ++ A2) 1 := by
 obtain ⟨L1, eL1⟩ : ∃ L : Nat, A1.length = L := ⟨_, rfl⟩
 obtain ⟨L2, eL2⟩ : ∃ L : Nat, A2.length = L := ⟨_, rfl⟩
 rw [eL1, eL2] at hn ⊢
 obtain ⟨K1, eK1⟩ : ∃ K1 : Nat, (1 : Int) + (L1 : Int) = (K1 : Int) := ⟨1 + L1, by omega⟩
 obtain ⟨K2, eK2⟩ : ∃ K2 : Nat, (K1 : Int) + (L2 : Int) = (K2 : Int) := ⟨K1 + L2, by omega⟩
 rw [eK1, eK2]
 have HA := hide (LvIn.app.1 hA)
 have E := hide (And.intro (And.intro eL1 eL2) (And.intro eK1 eK2))
 have hK1 : (K1 : Int) + L2 ≤ 100000000 := by omega
 clear hA eL1 eL2 eK1 eK2
 go_enter Tryd.func19, Tryd.ntmps19
 go_wp2_with fail
 obtain ⟨W, hW⟩ : ∃ W, W = (w.alloc (.cells #[.int .i64 k, .int .u64 s, .slice p n c, .int .i64 f, .slice q m d, .int .u64 e, .int .u64 g] 25)) := ⟨_, rfl⟩
 have bW : Below w.heap.size w W := by rw [hW]; exact (Below.refl _ _).alloc (Nat.le_refl _) _
 have zW : W.heap.size = w.heap.size + 1 := by rw [hW]; simp
 have cW := hide (by rw [hW]; exact CellsAre.alloc w _ _ : CellsAre W w.heap.size [.int .i64 k, .int .u64 s, .slice p n c, .int .i64 f, .slice q m d, .int .u64 e, .int .u64 g])
 rw [← hW]
 clear hW
 refine (markByteS_lv p c n P A1 1 W h1 ((unhide HA).1.below bW) (by omega) (by rw [(unhide E).1.1]; omega)).mono ?_
 rintro r w1 ⟨rfl, hm1⟩
 have a4 : w1.cell? ⟨w.heap.size, 4, none⟩ = some (.slice q m d) := (cell_at_heap (hm1.blk w.heap.size (by omega) (fun a ha e => by have := (unhide HA).1.lt ha; omega)) 4).trans ((unhide cW).1 4 _ rfl)
 have M1 := hide ((Mk.of_below bW 1).trans (by simpa using hm1) (LvIn.nil _) (unhide HA).1)
 have A2in := hide (((unhide HA).2.below bW).mk hm1 ((unhide HA).1.below bW))
 rw [(unhide E).1.1, (unhide E).2.1]
 clear hm1 bW
 go_wp2_with fail
 refine (markByteS_lv q d m V A2 K1 w1 h2 (unhide A2in) (by omega) (by rw [(unhide E).1.2]; omega)).mono ?_
 rintro r w2 ⟨rfl, hm2⟩
 have M2 := hide (by have := (unhide M1).trans (k := 1) (by rw [List.nil_append, (unhide E).1.1, (unhide E).2.1]; exact hm2) (by simpa using (unhide HA).1) (unhide HA).2; simpa using this : Mk w w2 (A1 ++ A2) 1)
 rw [(unhide E).1.2, (unhide E).2.2]
 clear hm2
 go_wp2
 go_ret
 exact ⟨rfl, unhide M2⟩
set_option maxHeartbeats 1600000 in
theorem markCmd_lv (C : Cmd) (p q : Option Addr) (n m c d : Nat) (P V : List Int) (A1 A2 : List Lf) (w : World) (h1 : LvB (.slice p n c) P A1) (h2 : LvB (.slice q m d) V A2) (hA : LvIn w (A1 ++ A2)) (hn : A1.length + A2.length ≤ 4194304) :
  Calls Tryd.prog 10 #[cmV C.k C.op C.se (.slice p n c) C.fl (.slice q m d) C.ep C.ge C.n C.m, .int .i64 1] w fun r w' => r = .returned (.int .i64 (1 + A1.length + A2.length)) ∧ Mk w w' (A1 ++ A2) 1 := by
 obtain ⟨W, hW⟩ : ∃ W, W = (w.alloc (.cells #[.int .i64 C.k, .int .i64 C.op, .int .u64 C.se, .slice p n c, .int .i64 C.fl, .slice q m d, .int .u64 C.ep, .int .u64 C.ge, .int .i64 C.n, .int .i64 C.m] 27)) := ⟨_, rfl⟩
 have bW : Below w.heap.size w W := by rw [hW]; exact (Below.refl _ _).alloc (Nat.le_refl _) _
 have F := markOp_lv C.op C.se C.fl C.ep C.ge p q n m c d P V A1 A2 W h1 h2 (hA.below bW) hn
 have HF := hide F
 have HA := hide hA
 clear F hA
 obtain ⟨K, eK⟩ : ∃ K : Nat, (1 : Int) + (A1.length : Int) + (A2.length : Int) = (K : Int) := ⟨1 + A1.length + A2.length, by omega⟩
 rw [eK] at HF ⊢
 go_enter Tryd.func10, Tryd.ntmps10
 go_wp2_with fail
 rw [← hW]
 clear hW
 refine (unhide HF).mono ?_
 rintro r w1 ⟨rfl, hm⟩
 have M := hide (by have := (Mk.of_below bW 1).trans (by simpa using hm) (LvIn.nil _) (unhide HA); simpa using this : Mk w w1 (A1 ++ A2) 1)
 clear hm
 go_wp2
 go_ret
 exact ⟨rfl, unhide M⟩
set_option maxHeartbeats 1600000 in
theorem heldOp_lv (k s f e g : Int) (p q : Option Addr) (n m c d : Nat) (P V : List Int) (A1 A2 : List Lf) (w : World) (h1 : LvB (.slice p n c) P A1) (h2 : LvB (.slice q m d) V A2) (hA : HeldAt w (A1 ++ A2) 1) (hn : A1.length + A2.length ≤ 4194304) :
  Calls Tryd.prog 20 #[opV k s (.slice p n c) f (.slice q m d) e g, .int .i64 1] w fun r w' => r = .returned (.int .i64 (1 + A1.length + A2.length)) ∧ Below w.heap.size w w' := by
 obtain ⟨L1, eL1⟩ : ∃ L : Nat, A1.length = L := ⟨_, rfl⟩
 obtain ⟨L2, eL2⟩ : ∃ L : Nat, A2.length = L := ⟨_, rfl⟩
 have HA := hide hA.app
 rw [eL1, eL2] at hn ⊢
 obtain ⟨K1, eK1⟩ : ∃ K1 : Nat, (1 : Int) + (L1 : Int) = (K1 : Int) := ⟨1 + L1, by omega⟩
 obtain ⟨K2, eK2⟩ : ∃ K2 : Nat, (K1 : Int) + (L2 : Int) = (K2 : Int) := ⟨K1 + L2, by omega⟩
 rw [eK1, eK2]
 have E := hide (And.intro (And.intro eL1 eL2) (And.intro eK1 eK2))
 have hK1 : (K1 : Int) + L2 ≤ 100000000 := by omega
 have n1 : ¬ (K1 : Int) < 0 := by omega
 have n2 : ¬ (K2 : Int) < 0 := by omega
 clear hA eL1 eL2 eK1 eK2
 go_enter Tryd.func20, Tryd.ntmps20
 go_wp2_with fail
 obtain ⟨W, hW⟩ : ∃ W, W = (w.alloc (.cells #[.int .i64 k, .int .u64 s, .slice p n c, .int .i64 f, .slice q m d, .int .u64 e, .int .u64 g] 25)) := ⟨_, rfl⟩
 have bW : Below w.heap.size w W := by rw [hW]; exact (Below.refl _ _).alloc (Nat.le_refl _) _
 have zW : W.heap.size = w.heap.size + 1 := by rw [hW]; simp
 have cW := hide (by rw [hW]; exact CellsAre.alloc w _ _ : CellsAre W w.heap.size [.int .i64 k, .int .u64 s, .slice p n c, .int .i64 f, .slice q m d, .int .u64 e, .int .u64 g])
 rw [← hW]
 clear hW
 refine (heldByteS_lv p c n P A1 1 W h1 ((unhide HA).1.below bW) (by omega) (by rw [(unhide E).1.1]; omega)).mono ?_
 rintro r w1 ⟨rfl, hb1⟩
 have a4 := cell_below ((unhide cW).1 4 _ rfl) hb1
 have B1 := Below.step bW hb1
 rw [(unhide E).1.1, (unhide E).2.1]
 have A2h := hide (by have := (unhide HA).2.below B1; rw [(unhide E).1.1, (unhide E).2.1] at this; exact this : HeldAt w1 A2 K1)
 clear hb1 bW
 go_wp2_with fail
 refine (heldByteS_lv q d m V A2 K1 w1 h2 (unhide A2h) (by omega) (by rw [(unhide E).1.2]; omega)).mono ?_
 rintro r w2 ⟨rfl, hb2⟩
 have B2 := hide (Below.step B1 hb2)
 rw [(unhide E).1.2, (unhide E).2.2]
 clear hb2 B1
 go_wp2
 go_ret
 exact ⟨rfl, unhide B2⟩
set_option maxHeartbeats 1600000 in
theorem heldCmd_lv (C : Cmd) (p q : Option Addr) (n m c d : Nat) (P V : List Int) (A1 A2 : List Lf) (w : World) (h1 : LvB (.slice p n c) P A1) (h2 : LvB (.slice q m d) V A2) (hA : HeldAt w (A1 ++ A2) 1) (hn : A1.length + A2.length ≤ 4194304) :
  Calls Tryd.prog 11 #[cmV C.k C.op C.se (.slice p n c) C.fl (.slice q m d) C.ep C.ge C.n C.m, .int .i64 1] w fun r w' => r = .returned (.int .i64 (1 + A1.length + A2.length)) ∧ Below w.heap.size w w' := by
 obtain ⟨W, hW⟩ : ∃ W, W = (w.alloc (.cells #[.int .i64 C.k, .int .i64 C.op, .int .u64 C.se, .slice p n c, .int .i64 C.fl, .slice q m d, .int .u64 C.ep, .int .u64 C.ge, .int .i64 C.n, .int .i64 C.m] 27)) := ⟨_, rfl⟩
 have bW : Below w.heap.size w W := by rw [hW]; exact (Below.refl _ _).alloc (Nat.le_refl _) _
 have F := heldOp_lv C.op C.se C.fl C.ep C.ge p q n m c d P V A1 A2 W h1 h2 (hA.below bW) hn
 have HF := hide F
 clear F hA
 obtain ⟨K, eK⟩ : ∃ K : Nat, (1 : Int) + (A1.length : Int) + (A2.length : Int) = (K : Int) := ⟨1 + A1.length + A2.length, by omega⟩
 have n1 : ¬ (K : Int) < 0 := by omega
 rw [eK] at HF ⊢
 clear eK
 go_enter Tryd.func11, Tryd.ntmps11
 go_wp2_with fail
 rw [← hW]
 clear hW
 refine (unhide HF).mono ?_
 rintro r w1 ⟨rfl, hb⟩
 have B := hide (Below.step bW hb)
 clear hb bW
 go_wp2
 go_ret
 exact ⟨rfl, unhide B⟩
end Go.Proofs.YtlkhghcffhckmaaDoor
