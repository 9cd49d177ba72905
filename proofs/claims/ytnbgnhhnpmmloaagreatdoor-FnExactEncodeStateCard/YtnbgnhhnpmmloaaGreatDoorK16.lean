import Derived.Test.YtnbgnhhnpmmloaaGreatDoorK10
import Derived.Test.YtnbgnhhnpmmloaaGreatDoorK15
namespace Go.Proofs.YtnbgnhhnpmmloaaGreatDoor
open Go.ChangeShapes Go.WideShapes Go.ChangeAt Go.RowKit
set_option linter.unusedVariables false
set_option linter.unusedSimpArgs false
set_option maxRecDepth 100000
def Ab (B : Nat) (w : World) (Q : World → Prop) : Prop := ∀ w' : World, (∀ k, B ≤ k → k < w.heap.size → w'.heap[k]? = w.heap[k]?) → Q w'
theorem Ab.self {B : Nat} {w : World} {Q : World → Prop} (h : Ab B w Q) : Q w := h w (fun _ _ _ => rfl)
theorem Ab.step {B : Nat} {w w' : World} {Q : World → Prop} (h : Ab B w Q) (hs : w.heap.size ≤ w'.heap.size) (hk : ∀ k, B ≤ k → k < w.heap.size → w'.heap[k]? = w.heap[k]?) : Ab B w' Q :=
 fun u hu => h u (fun k h1 h2 => (hu k h1 (Nat.lt_of_lt_of_le h2 hs)).trans (hk k h1 h2))
theorem Ab.below {B : Nat} {w w' : World} {Q : World → Prop} (h : Ab B w Q) (hb : Below w.heap.size w w') : Ab B w' Q := h.step hb.size (fun k _ h2 => hb.block k h2)
theorem Ab.mono {B B' : Nat} {w : World} {Q : World → Prop} (h : Ab B' w Q) (hB : B ≤ B') : Ab B w Q := fun u hu => h u (fun k h1 h2 => hu k (Nat.le_trans hB h1) h2)
theorem Ab.set {B : Nat} {w : World} {Q : World → Prop} (h : Ab B w Q) {a : Addr} (ha : a.block < B) (v : Value) : Ab B (w.setCell a v) Q :=
 h.step (by simp) (fun k h1 _ => RowKit.Below.heap_setCell _ _ _ _ (by omega))
theorem Ab.imp {B : Nat} {w : World} {Q R : World → Prop} (h : Ab B w Q) (hi : ∀ u, Q u → R u) : Ab B w R := fun u hu => hi u (h u hu)
theorem Ab.and {B : Nat} {w : World} {Q R : World → Prop} (h : Ab B w Q) (k : Ab B w R) : Ab B w (fun u => Q u ∧ R u) := fun u hu => ⟨h u hu, k u hu⟩
theorem cell_at_heap {w w' : World} {b : Nat} (h : w'.heap[b]? = w.heap[b]?) (o : Nat) : w'.cell? ⟨b, o, none⟩ = w.cell? ⟨b, o, none⟩ := by
 unfold World.cell?
 rw [h]
theorem Own.ab {B : Nat} {w : World} {p : Option Addr} {n c : Nat} {l : List Int} (h : Own B w (.slice p n c) l) : Ab B w (fun u => Rd u (.slice p n c) l ∧ CapOK (.slice p n c)) := by
 refine fun u hu => ⟨?_, p, n, c, rfl, h.cap, h.capMax⟩
 obtain ⟨p', c', e, hd⟩ := h.rd
 refine ⟨p', c', e, ?_⟩
 rcases hd with h0 | ⟨b, o, hp, hc⟩
 ·exact .inl h0
 ·refine .inr ⟨b, o, hp, fun i hi => ?_⟩
  simp only [Value.slice.injEq] at e
  have hb : B ≤ b ∧ b < w.heap.size := h.lt b (by rw [e.1, hp]; rfl)
  exact (cell_at_heap (hu b hb.1 hb.2) _).trans (hc i hi)
theorem set_get {l : List Value} {j k : Nat} {v : Value} (h : j ≠ k) : (l.set j v)[k]? = l[k]? := List.getElem?_set_ne h
theorem Tryz.infoU64 : (Tryz.prog.info? 23).map (fun i => (i.zero, i.size, i.bytes)) = some (some (.int .u64 0), 1, 8) := by kernel_rfl
theorem Tryz.infoEv : (Tryz.prog.info? 147).map (fun i => (i.zero, i.size, i.bytes)) = some (some (.agg #[.int .i64 0, .slice none 0 0]), 2, 32) := by kernel_rfl
theorem Tryz.infoSes : (Tryz.prog.info? 59).map (fun i => (i.zero, i.size, i.bytes)) = some (some (.agg #[.int .u64 0, .int .i64 0, .slice none 0 0]), 3, 40) := by kernel_rfl
theorem Tryz.infoNod : (Tryz.prog.info? 66).map (fun i => (i.zero, i.size, i.bytes)) = some (some (.agg #[.slice none 0 0, .slice none 0 0, .int .u64 0, .int .i64 0, .slice none 0 0, .int .u64 0, .int .u64 0, .slice none 0 0]), 8, 128) := by kernel_rfl
def CellsAre (w : World) (b : Nat) (vs : List Value) : Prop := (∀ i v, vs[i]? = some v → w.cell? ⟨b, i, none⟩ = some v) ∧ ∀ o, w.frozen? ⟨b, o, none⟩ = false
theorem CellsAre.alloc (w : World) (cs : Array Value) (t : TypeId) : CellsAre (w.alloc (.cells cs t)) w.heap.size cs.toList := by
 refine ⟨fun i v h => ?_, fun o => ?_⟩
 ·rw [Array.getElem?_toList] at h
  simp [h]
 ·simp [go_sem]
theorem CellsAre.below {w w' : World} {b : Nat} {vs : List Value} (h : CellsAre w b vs) (hb : b < w.heap.size) (hbl : Below w.heap.size w w') : CellsAre w' b vs :=
 ⟨fun i v hi => (hbl.cell (p := ⟨b, i, none⟩) hb).trans (h.1 i v hi), fun o => (hbl.frozen (p := ⟨b, o, none⟩) hb).trans (h.2 o)⟩
theorem CellsAre.far {w : World} {b : Nat} {vs : List Value} (h : CellsAre w b vs) {a : Addr} (ha : b ≠ a.block) (u : Value) : CellsAre (w.setCell a u) b vs := by
 have hh : (w.setCell a u).heap[b]? = w.heap[b]? := RowKit.Below.heap_setCell _ _ _ _ ha
 refine ⟨fun i v hi => (cell_at_heap hh _).trans (h.1 i v hi), fun o => ?_⟩
 have : (w.setCell a u).frozen? ⟨b, o, none⟩ = w.frozen? ⟨b, o, none⟩ := World.frozen?_of_block hh
 rw [this]
 exact h.2 o
theorem CellsAre.near {w : World} {b : Nat} {vs : List Value} (h : CellsAre w b vs) (j : Nat) (hj : j < vs.length) (u : Value) : CellsAre (w.setCell ⟨b, j, none⟩ u) b (vs.set j u) := by
 have hc := h.1 j _ (List.getElem?_eq_getElem hj)
 refine ⟨fun i v hi => ?_, fun o => by simp [h.2 o]⟩
 by_cases e : j = i
 ·subst e
  rw [List.getElem?_set_self hj] at hi
  cases hi
  exact World.cell?_setCell_same _ _ _ hc
 ·rw [List.getElem?_set_ne e] at hi
  have := h.1 i v hi
  simp [go_sem, e, this]
theorem grown_of_b {w w' : World} (h : Below w.heap.size w w') : w.grownBy w' none := ⟨h.os, h.tape, h.output, h.size, fun i hi _ => h.block i hi⟩
theorem Mk.trans' {w w1 w2 : World} {A A2 : List Lf} {k K : Int} (h : Mk w w1 A k) (h2 : Mk w1 w2 A2 K) (e : K = k + A.length) (hA : LvIn w A) (hA2 : LvIn w A2) : Mk w w2 (A ++ A2) k := by
 subst e
 exact h.trans h2 hA hA2
theorem Mk.set {wr V : World} {acc l : List Lf} {k0 K : Int} {b o : Nat} {kd : IntKind} (h : Mk wr V acc k0) (hin : LvIn wr l) (hacc : ∀ a ∈ acc, a ∈ l) (hm : Lf.mk b o kd ∈ l) (e : K = k0 + acc.length) : Mk wr (V.setCell ⟨b, o, none⟩ (.int kd (mkV kd K))) (acc ++ [⟨b, o, kd⟩]) k0 := by
 obtain ⟨⟨n, hn⟩, hf⟩ := hin.mk h (hin.sub hacc) _ hm
 exact h.trans' (Mk.one hn) e (hin.sub hacc) (fun a ha => hin a (by simp at ha; rw [ha]; exact hm))
theorem Mk.call {wr V V' : World} {acc lf l : List Lf} {k0 K : Int} (h : Mk wr V acc k0) (h2 : Mk V V' lf K) (hin : LvIn wr l) (hacc : ∀ a ∈ acc, a ∈ l) (hlf : ∀ a ∈ lf, a ∈ l) (e : K = k0 + acc.length) : Mk wr V' (acc ++ lf) k0 :=
 h.trans' h2 e (hin.sub hacc) (hin.sub hlf)
set_option maxHeartbeats 3200000 in
theorem markEventS_lv (p : Option Addr) (c n : Nat) (xs : List Ev) (A : List Lf) (k : Int) (w : World) (h : LvE w (.slice p n c) xs A) (hA : LvIn w A) (k0 : 0 ≤ k) (k1 : k + A.length ≤ 100000000) :
  Calls Tryz.prog 84 #[.slice p n c, .int .i64 k] w fun e w' => e = .returned (.int .i64 (k + A.length)) ∧ Mk w w' A k := by
 have hnA := h.len (fun x b a l hl => hl.pos)
 obtain ⟨Ls, en, lL, eA, hat⟩ := h.at
 have HAT := hide hat
 have HA := hide hA
 have EA := hide eA
 have K1 : k + (Ls.flatten.length : Int) ≤ 100000000 := by rw [← eA]; exact k1
 have hn : n ≤ 100000000 := by omega
 have LL := hide lL
 clear h hat hA eA en lL hnA
 go_enter Tryz.func84, Tryz.ntmps84
 go_wp2
 go_loopw [1, 5] (fun kk i wr => ∃ j : Nat, j ≤ n ∧ i = .int .i64 j ∧ kk = .int .i64 (k + (((Ls.take j).flatten.length : Nat) : Int)) ∧ Hid (Mk w wr (Ls.take j).flatten k)) (fun _ i _ => n - (intOf i).toNat)
 case atStart => exact ⟨0, Nat.zero_le _, rfl, by simp, Mk.refl _ _⟩
 case round =>
  obtain ⟨j, hj, rfl, rfl, hM⟩ := hrel
  have hle := flatten_take_le Ls j
  by_cases hlt : j < n
  ·have hlt' : (j : Int) < (n : Int) := by omega
   obtain ⟨b, o, x, l, rfl, hx, hl, hP, hfl, hsub⟩ := unhide HAT j hlt
   have hpre : LvIn w (Ls.take j).flatten := (unhide HA).sub (fun a ha => by rw [unhide EA]; exact mem_flatten_take ha)
   have hlw : LvIn w l := (unhide HA).sub hsub
   have hin : LvIn wr l := hlw.mk (unhide hM) hpre
   have hP' := hP.mk (unhide hM) hpre
   have hTl : (Ls.take (j + 1)).flatten.length = (Ls.take j).flatten.length + l.length := by rw [hfl, List.length_append]
   have hle1 : k + ((Ls.take j).flatten.length : Int) + (l.length : Int) ≤ 100000000 := by
    have := flatten_take_le Ls (j + 1)
    omega
   have HT := hide hTl
   have HPW : Hid (∀ w', Mk wr w' l (k + ((Ls.take j).flatten.length : Int)) → Mk w w' (Ls.take (j + 1)).flatten k) := by
    intro w' hw'
    rw [hfl]
    exact (unhide hM).trans hw' hpre hlw
   generalize hT : (Ls.take j).flatten.length = T at *
   clear hT hx hl hP hfl hsub hpre hM hTl hlw
   have hT0 : 0 ≤ k + (T : Int) := by omega
   obtain ⟨q, d, lb, rfl, hd, hlv⟩ := hP'
   have HD := hide hd
   have HLV := hide hlv
   clear hd hlv
   have hlen : k + (T : Int) + (1 + (lb.length : Int)) ≤ 100000000 := by simp only [List.length_append, List.length_cons] at hle1; omega
   clear hle1
   have HIN := hide hin
   have AC0 : Hid (Mk wr wr [] (k + (T : Int))) := Mk.refl _ _
   clear hin
   have IN0 : LvIn wr (⟨b, o + j * 2, .i64⟩ :: lb) := (unhide HIN).mk (unhide AC0) ((unhide HIN).sub (by intro a ha; first | (simp at ha; done) | (simp only [List.mem_append, List.mem_cons, List.not_mem_nil, List.nil_append, or_false] at ha ⊢; grind)))
   obtain ⟨⟨m0, hc0⟩, hf0⟩ := IN0 ⟨b, o + j * 2, .i64⟩ (by simp)
   dsimp only at hc0 hf0
   have hh1 : wr.cell? ⟨b, o + j * 2 + 1, none⟩ = some (.slice q x.2.length d) := (unhide AC0).head ((unhide HIN).sub (by intro a ha; first | (simp at ha; done) | (simp only [List.mem_append, List.mem_cons, List.not_mem_nil, List.nil_append, or_false] at ha ⊢; grind))) (unhide HD)
   have AX0 : Hid (Mk wr (wr.setCell ⟨b, o + j * 2, none⟩ (.int .i64 (k + (T : Int)))) ([] ++ [⟨b, o + j * 2, .i64⟩]) (k + (T : Int))) := (Mk.set (unhide AC0) (unhide HIN) (by intro a ha; first | (simp at ha; done) | (simp only [List.mem_append, List.mem_cons, List.not_mem_nil, List.nil_append, or_false] at ha ⊢; grind)) (b := b) (o := o + j * 2) (kd := .i64) (by simp) (K := k + (T : Int)) (by simp))
   have HV0 : Hid (LvIn (wr.setCell ⟨b, o + j * 2, none⟩ (.int .i64 (k + (T : Int)))) lb) := ((unhide HIN).sub (by intro a ha; simp [ha])).mk (unhide AX0) ((unhide HIN).sub (by intro a ha; first | (simp at ha; done) | (simp only [List.mem_append, List.mem_cons, List.not_mem_nil, List.nil_append, or_false] at ha ⊢; grind)))
   clear IN0
   go_wp2_with fail
   clear hc0 hf0 hh1
   refine (markByteS_lv q d x.2.length (x.2) lb (k + (T : Int) + 1) _ (unhide HLV) (unhide HV0) (by omega) (by omega)).mono ?_
   rintro e v0 ⟨rfl, N0⟩
   have AC1 : Hid (Mk wr v0 (([] ++ [⟨b, o + j * 2, .i64⟩]) ++ lb) (k + (T : Int))) := Mk.call (unhide AX0) N0 (unhide HIN) (by intro a ha; first | (simp at ha; done) | (simp only [List.mem_append, List.mem_cons, List.not_mem_nil, List.nil_append, or_false] at ha ⊢; grind)) (by intro a ha; simp [ha]) (by simp; try omega)
   clear N0 AX0 HV0
   have FIN := hide (unhide HPW _ (by simpa using unhide AC1))
   go_wp2
   go_roundw
   case rel => exact ⟨j + 1, by omega, by go_num, by rw [unhide HT]; first | (simp; omega) | (congr 1; simp; omega), FIN⟩
   case measure => simp [intOf]; omega
  ·have e : j = n := by omega
   subst e
   have e2 : (Ls.take j).flatten = A := by rw [← unhide LL, List.take_length]; exact (unhide EA).symm
   rw [e2] at hM ⊢
   clear hle HAT HA
   go_wp2
   go_ret
   exact ⟨rfl, unhide hM⟩
set_option maxHeartbeats 3200000 in
theorem markSessionS_lv (p : Option Addr) (c n : Nat) (xs : List Ses) (A : List Lf) (k : Int) (w : World) (h : LvS w (.slice p n c) xs A) (hA : LvIn w A) (k0 : 0 ≤ k) (k1 : k + A.length ≤ 100000000) :
  Calls Tryz.prog 44 #[.slice p n c, .int .i64 k] w fun e w' => e = .returned (.int .i64 (k + A.length)) ∧ Mk w w' A k := by
 have hnA := h.len (fun x b a l hl => hl.pos)
 obtain ⟨Ls, en, lL, eA, hat⟩ := h.at
 have HAT := hide hat
 have HA := hide hA
 have EA := hide eA
 have K1 : k + (Ls.flatten.length : Int) ≤ 100000000 := by rw [← eA]; exact k1
 have hn : n ≤ 100000000 := by omega
 have LL := hide lL
 clear h hat hA eA en lL hnA
 go_enter Tryz.func44, Tryz.ntmps44
 go_wp2
 go_loopw [1, 5] (fun kk i wr => ∃ j : Nat, j ≤ n ∧ i = .int .i64 j ∧ kk = .int .i64 (k + (((Ls.take j).flatten.length : Nat) : Int)) ∧ Hid (Mk w wr (Ls.take j).flatten k)) (fun _ i _ => n - (intOf i).toNat)
 case atStart => exact ⟨0, Nat.zero_le _, rfl, by simp, Mk.refl _ _⟩
 case round =>
  obtain ⟨j, hj, rfl, rfl, hM⟩ := hrel
  have hle := flatten_take_le Ls j
  by_cases hlt : j < n
  ·have hlt' : (j : Int) < (n : Int) := by omega
   obtain ⟨b, o, x, l, rfl, hx, hl, hP, hfl, hsub⟩ := unhide HAT j hlt
   have hpre : LvIn w (Ls.take j).flatten := (unhide HA).sub (fun a ha => by rw [unhide EA]; exact mem_flatten_take ha)
   have hlw : LvIn w l := (unhide HA).sub hsub
   have hin : LvIn wr l := hlw.mk (unhide hM) hpre
   have hP' := hP.mk (unhide hM) hpre
   have hTl : (Ls.take (j + 1)).flatten.length = (Ls.take j).flatten.length + l.length := by rw [hfl, List.length_append]
   have hle1 : k + ((Ls.take j).flatten.length : Int) + (l.length : Int) ≤ 100000000 := by
    have := flatten_take_le Ls (j + 1)
    omega
   have HT := hide hTl
   have HPW : Hid (∀ w', Mk wr w' l (k + ((Ls.take j).flatten.length : Int)) → Mk w w' (Ls.take (j + 1)).flatten k) := by
    intro w' hw'
    rw [hfl]
    exact (unhide hM).trans hw' hpre hlw
   generalize hT : (Ls.take j).flatten.length = T at *
   clear hT hx hl hP hfl hsub hpre hM hTl hlw
   have hT0 : 0 ≤ k + (T : Int) := by omega
   obtain ⟨q, d, lb, rfl, hd, hlv⟩ := hP'
   have HD := hide hd
   have HLV := hide hlv
   clear hd hlv
   have hlen : k + (T : Int) + (2 + (lb.length : Int)) ≤ 100000000 := by simp only [List.length_append, List.length_cons] at hle1; omega
   clear hle1
   have HIN := hide hin
   have AC0 : Hid (Mk wr wr [] (k + (T : Int))) := Mk.refl _ _
   clear hin
   have IN0 : LvIn wr (⟨b, o + j * 3, .u64⟩ :: ⟨b, o + j * 3 + 1, .i64⟩ :: lb) := (unhide HIN).mk (unhide AC0) ((unhide HIN).sub (by intro a ha; first | (simp at ha; done) | (simp only [List.mem_append, List.mem_cons, List.not_mem_nil, List.nil_append, or_false] at ha ⊢; grind)))
   obtain ⟨⟨m0, hc0⟩, hf0⟩ := IN0 ⟨b, o + j * 3, .u64⟩ (by simp)
   obtain ⟨⟨m1, hc1⟩, hf1⟩ := IN0 ⟨b, o + j * 3 + 1, .i64⟩ (by simp)
   dsimp only at hc0 hf0 hc1 hf1
   have hh2 : wr.cell? ⟨b, o + j * 3 + 2, none⟩ = some (.slice q x.2.2.length d) := (unhide AC0).head ((unhide HIN).sub (by intro a ha; first | (simp at ha; done) | (simp only [List.mem_append, List.mem_cons, List.not_mem_nil, List.nil_append, or_false] at ha ⊢; grind))) (unhide HD)
   have AX0 : Hid (Mk wr ((wr.setCell ⟨b, o + j * 3, none⟩ (.int .u64 (k + (T : Int)))).setCell ⟨b, o + j * 3 + 1, none⟩ (.int .i64 (k + (T : Int) + 1))) (([] ++ [⟨b, o + j * 3, .u64⟩]) ++ [⟨b, o + j * 3 + 1, .i64⟩]) (k + (T : Int))) := (Mk.set (Mk.set (unhide AC0) (unhide HIN) (by intro a ha; first | (simp at ha; done) | (simp only [List.mem_append, List.mem_cons, List.not_mem_nil, List.nil_append, or_false] at ha ⊢; grind)) (b := b) (o := o + j * 3) (kd := .u64) (by simp) (K := k + (T : Int)) (by simp)) (unhide HIN) (by intro a ha; first | (simp at ha; done) | (simp only [List.mem_append, List.mem_cons, List.not_mem_nil, List.nil_append, or_false] at ha ⊢; grind)) (b := b) (o := o + j * 3 + 1) (kd := .i64) (by simp) (K := k + (T : Int) + 1) (by simp; try omega))
   have HV0 : Hid (LvIn ((wr.setCell ⟨b, o + j * 3, none⟩ (.int .u64 (k + (T : Int)))).setCell ⟨b, o + j * 3 + 1, none⟩ (.int .i64 (k + (T : Int) + 1))) lb) := ((unhide HIN).sub (by intro a ha; simp [ha])).mk (unhide AX0) ((unhide HIN).sub (by intro a ha; first | (simp at ha; done) | (simp only [List.mem_append, List.mem_cons, List.not_mem_nil, List.nil_append, or_false] at ha ⊢; grind)))
   clear IN0
   go_wp2_with fail
   clear hc0 hf0 hc1 hf1 hh2
   refine (markEventS_lv q d x.2.2.length (x.2.2) lb (k + (T : Int) + 1 + 1) _ ((unhide HLV).mk (unhide AX0) ((unhide HIN).sub (by intro a ha; first | (simp at ha; done) | (simp only [List.mem_append, List.mem_cons, List.not_mem_nil, List.nil_append, or_false] at ha ⊢; grind)))) (unhide HV0) (by omega) (by omega)).mono ?_
   rintro e v0 ⟨rfl, N0⟩
   have AC1 : Hid (Mk wr v0 ((([] ++ [⟨b, o + j * 3, .u64⟩]) ++ [⟨b, o + j * 3 + 1, .i64⟩]) ++ lb) (k + (T : Int))) := Mk.call (unhide AX0) N0 (unhide HIN) (by intro a ha; first | (simp at ha; done) | (simp only [List.mem_append, List.mem_cons, List.not_mem_nil, List.nil_append, or_false] at ha ⊢; grind)) (by intro a ha; simp [ha]) (by simp; try omega)
   clear N0 AX0 HV0
   have FIN := hide (unhide HPW _ (by simpa using unhide AC1))
   go_wp2
   go_roundw
   case rel => exact ⟨j + 1, by omega, by go_num, by rw [unhide HT]; first | (simp; omega) | (congr 1; simp; omega), FIN⟩
   case measure => simp [intOf]; omega
  ·have e : j = n := by omega
   subst e
   have e2 : (Ls.take j).flatten = A := by rw [← unhide LL, List.take_length]; exact (unhide EA).symm
   rw [e2] at hM ⊢
   clear hle HAT HA
   go_wp2
   go_ret
   exact ⟨rfl, unhide hM⟩
end Go.Proofs.YtnbgnhhnpmmloaaGreatDoor
