import Derived.Test.YtlkhghcffhckmaaDoorPLa
import Derived.Test.YtlkhghcffhckmaaDoorPCn
import Derived.Lib.ConvBytes
namespace Go.Proofs.YtlkhghcffhckmaaDoor
open Go.ChangeShapes Go.WideShapes Go.ChangeAt Go.RowKit
set_option linter.unusedVariables false
set_option linter.unusedSimpArgs false
set_option maxRecDepth 100000

/-- two slices of bytes, of one's own from block B on -/
def OwnP (B : Nat) (w : World) (P V : Value) (pa va : List Int) : Prop := ∃ A1 A2 : List Lf, Rd w P pa ∧ Rd w V va ∧ LvB P pa A1 ∧ LvB V va A2 ∧ LvIn w (A1 ++ A2) ∧ ((A1 ++ A2).map fun a => (a.b, a.o)).Nodup ∧ ∀ a ∈ A1 ++ A2, B ≤ a.b ∧ a.k = .u8
theorem LvB.nil : LvB (.slice none 0 0) [] [] := ⟨none, 0, [], rfl, rfl, rfl, .inl rfl⟩
theorem OwnP.nil (B : Nat) (w : World) : OwnP B w (.slice none 0 0) (.slice none 0 0) [] [] := ⟨[], [], Rd.nil _, Rd.nil _, LvB.nil, LvB.nil, LvIn.nil _, by simp, fun a ha => by simp at ha⟩
theorem OwnP.below {B : Nat} {w w' : World} {P V : Value} {pa va : List Int} (h : OwnP B w P V pa va) (hb : Below w.heap.size w w') : OwnP B w' P V pa va := by
 obtain ⟨A1, A2, h1, h2, h3, h4, h5, h6, h7⟩ := h
 exact ⟨A1, A2, h1.below hb, h2.below hb, h3, h4, h5.below hb, h6, h7⟩
theorem LvIn.put {w : World} {A : List Lf} (h : LvIn w A) (hk : ∀ a ∈ A, a.k = .u8) {b : Nat} (hn : NoB w b) (j : Nat) (u : Value) : LvIn (w.setCell ⟨b, j, none⟩ u) A := fun a ha => by
 obtain ⟨⟨n, hc⟩, hf⟩ := h a ha
 have hne : a.b ≠ b := fun e => by rw [hk a ha] at hc; rw [e] at hc; exact hn _ _ hc
 have hh : (w.setCell ⟨b, j, none⟩ u).heap[a.b]? = w.heap[a.b]? := RowKit.Below.heap_setCell _ _ _ _ hne
 exact ⟨⟨n, (cell_at_heap hh _).trans hc⟩, (World.frozen?_of_block hh).trans hf⟩
theorem OwnP.put {B : Nat} {w : World} {P V : Value} {pa va : List Int} (h : OwnP B w P V pa va) {b : Nat} (hn : NoB w b) (j : Nat) (u : Value) : OwnP B (w.setCell ⟨b, j, none⟩ u) P V pa va := by
 obtain ⟨A1, A2, h1, h2, h3, h4, h5, h6, h7⟩ := h
 exact ⟨A1, A2, h1.put hn j u, h2.put hn j u, h3, h4, h5.put (fun a ha => (h7 a ha).2) hn j u, h6, h7⟩
theorem OwnP.mono {B B' : Nat} {w : World} {P V : Value} {pa va : List Int} (h : OwnP B w P V pa va) (hB : B' ≤ B) : OwnP B' w P V pa va := by
 obtain ⟨A1, A2, h1, h2, h3, h4, h5, h6, h7⟩ := h
 exact ⟨A1, A2, h1, h2, h3, h4, h5, h6, fun a ha => ⟨Nat.le_trans hB (h7 a ha).1, (h7 a ha).2⟩⟩
/-- what '[]byte(s)' lays -/
structure NewB (w W : World) (v : Value) (l : List Int) (A : List Lf) : Prop where
 rd : Rd W v l
 lv : LvB v l A
 inn : LvIn W A
 nd : (A.map fun a => (a.b, a.o)).Nodup
 at_ : ∀ a ∈ A, a.b = w.heap.size ∧ a.k = .u8
 bel : Below w.heap.size w W
theorem run_conv2 (w : World) (l : List Int) (hB : Byt l) : ∃ c' W A, (convert 9 22 (.string (bstr l))).run Tryd.prog w = .ok (.slice (some ⟨w.heap.size, 0, none⟩) l.length c') W ∧ NewB w W (.slice (some ⟨w.heap.size, 0, none⟩) l.length c') l A := by
 have hrun := Lib.run_convert_string_bytes (P := Tryd.prog) w 9 22 5 (bstr l) Tryd.underlying9 Tryd.underlying22 Tryd.underlying5
 rw [bstr_size] at hrun
 obtain ⟨W, hW⟩ : ∃ W, W = Lib.bytesWorld w 5 (bstr l) := ⟨_, rfl⟩
 have hcell : ∀ j, j < l.length → W.cell? ⟨w.heap.size, 0 + j, none⟩ = some (.int .u8 (l.getD j 0)) := fun j hj => by
  have hx := List.getElem?_eq_getElem hj
  have hb := hB _ (List.mem_of_getElem? hx)
  rw [hW, Nat.zero_add, Lib.bytesWorld_cell _ _ _ _ (by rw [bstr_size]; exact hj), bstr_dl, List.getD_eq_getElem?_getD, List.getD_eq_getElem?_getD, u8s, List.getElem?_map, hx, Option.map_some, Option.getD_some, Option.getD_some, byt_u8 hb]
  congr 2
  omega
 have hfz : ∀ j, j < l.length → W.frozen? ⟨w.heap.size, 0 + j, none⟩ = false := fun j hj => by
  have hn := Lib.bytesWorld_at_new w 5 (bstr l)
  have hs : j < (Lib.bytesCells w 5 (bstr l)).size := by
   simp only [Lib.bytesCells, Array.size_append, Array.size_map]
   have : (bstr l).data.size = l.length := bstr_size l
   omega
  rw [hW, Nat.zero_add]
  simp only [World.frozen?, hn]
  simp
  omega
 rw [← hW] at hrun
 refine ⟨_, W, (List.range l.length).map fun i => ⟨w.heap.size, 0 + i, .u8⟩, hrun, ⟨_, _, rfl, .inr ⟨w.heap.size, 0, rfl, hcell⟩⟩, ⟨some ⟨w.heap.size, 0, none⟩, _, (List.range l.length).map fun i => [⟨w.heap.size, 0 + i, .u8⟩], rfl, by simp, ?_, .inr ⟨w.heap.size, 0, rfl, fun i x m hx hm => ?_⟩⟩, fun a ha => ?_, ?_, fun a ha => ?_, by rw [hW]; exact Lib.bytesWorld_below _ _ _⟩
 ·induction (List.range l.length) with
  | nil => rfl
  | cons i r ih => rw [List.map_cons, List.map_cons, List.flatten_cons, ← ih]; rfl
 ·obtain ⟨hi, e⟩ := List.getElem?_eq_some_iff.1 hm
  simp at e
  rw [← e, Nat.mul_one, Nat.zero_add]
  rfl
 ·obtain ⟨i, hi, rfl⟩ := List.mem_map.1 ha
  exact ⟨⟨_, hcell i (by simpa using hi)⟩, hfz i (by simpa using hi)⟩
 ·rw [List.map_map, List.Nodup, List.pairwise_map]
  exact List.nodup_range.imp (fun {i j} hij => by simpa using hij)
 ·obtain ⟨i, hi, rfl⟩ := List.mem_map.1 ha
  exact ⟨rfl, rfl⟩
theorem nodup_app {A A' : List Lf} {B : Nat} (h1 : (A.map fun a => (a.b, a.o)).Nodup) (h2 : (A'.map fun a => (a.b, a.o)).Nodup) (h : ∀ a ∈ A, ∀ a' ∈ A', a.b ≠ a'.b) : ((A ++ A').map fun a => (a.b, a.o)).Nodup := by
 rw [List.map_append, List.nodup_append]
 refine ⟨h1, h2, fun x hx y hy => ?_⟩
 obtain ⟨a, ha, rfl⟩ := List.mem_map.1 hx
 obtain ⟨a2, ha2, rfl⟩ := List.mem_map.1 hy
 intro e
 simp only [Prod.mk.injEq] at e
 exact h a ha a2 ha2 e.1
theorem OwnP.setP {B : Nat} {w W : World} {P V Q : Value} {pa va l : List Int} {A : List Lf} (h : OwnP B w P V pa va) (hn : NewB w W Q l A) (hB : B ≤ w.heap.size) : OwnP B W Q V l va := by
 obtain ⟨A1, A2, h1, h2, h3, h4, h5, h6, h7⟩ := h
 have h5' := (LvIn.app.1 h5).2
 rw [List.map_append, List.nodup_append] at h6
 refine ⟨A, A2, hn.rd, h2.below hn.bel, hn.lv, h4, LvIn.app.2 ⟨hn.inn, h5'.below hn.bel⟩, nodup_app (B := 0) hn.nd h6.2.1 (fun a ha a' ha' e => ?_), fun a ha => ?_⟩
 ·have := (hn.at_ a ha).1
  have := h5'.lt ha'
  omega
 ·rcases List.mem_append.1 ha with ha | ha
  ·exact ⟨by have := (hn.at_ a ha).1; omega, (hn.at_ a ha).2⟩
  ·exact h7 a (List.mem_append_right _ ha)
theorem OwnP.setV {B : Nat} {w W : World} {P V Q : Value} {pa va l : List Int} {A : List Lf} (h : OwnP B w P V pa va) (hn : NewB w W Q l A) (hB : B ≤ w.heap.size) : OwnP B W P Q pa l := by
 obtain ⟨A1, A2, h1, h2, h3, h4, h5, h6, h7⟩ := h
 have h5' := (LvIn.app.1 h5).1
 rw [List.map_append, List.nodup_append] at h6
 refine ⟨A1, A, h1.below hn.bel, hn.rd, h3, hn.lv, LvIn.app.2 ⟨h5'.below hn.bel, hn.inn⟩, nodup_app (B := 0) h6.1 hn.nd (fun a ha a' ha' e => ?_), fun a ha => ?_⟩
 ·have := (hn.at_ a' ha').1
  have := h5'.lt ha
  omega
 ·rcases List.mem_append.1 ha with ha | ha
  ·exact h7 a (List.mem_append_left _ ha)
  ·exact ⟨by have := (hn.at_ a ha).1; omega, (hn.at_ a ha).2⟩
def Pl.word : Pl → List Int
 | .inl w => w
 | .inr (.inl .lt) => [83]
 | .inr (.inl .eq) => [80]
 | .inr (.inl .gt) => [86]
 | .inr (.inr (.inl false)) => [69]
 | .inr (.inr (.inl true)) => [71]
 | .inr (.inr (.inr false)) => [78]
 | .inr (.inr (.inr true)) => [77]
/-- a word of small letters stands for itself -/
def Pl.ok : Pl → Prop
 | .inl w => Byt w ∧ w ≠ [83] ∧ w ≠ [80] ∧ w ≠ [86] ∧ w ≠ [69] ∧ w ≠ [71] ∧ w ≠ [78] ∧ w ≠ [77]
 | _ => True
abbrev frmV (fw : ByteArray) (F : Frm) : Value := .agg #[.string fw, .int .i64 F.k, .int .i64 F.op, .int .i64 F.fl, .int .i64 F.mostN, .int .i64 F.mostM, .int .i64 F.m]
abbrev cmL (C : Cmd) (P V : Value) : List Value := [.int .i64 C.k, .int .i64 C.op, .int .u64 C.se, P, .int .i64 C.fl, V, .int .u64 C.ep, .int .u64 C.ge, .int .i64 C.n, .int .i64 C.m]
end Go.Proofs.YtlkhghcffhckmaaDoor
