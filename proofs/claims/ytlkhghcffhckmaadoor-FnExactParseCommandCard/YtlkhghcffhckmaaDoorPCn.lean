import Derived.Test.YtlkhghcffhckmaaDoorPCy
namespace Go.Proofs.YtlkhghcffhckmaaDoor
open Go.ChangeShapes Go.WideShapes Go.ChangeAt Go.RowKit
set_option linter.unusedVariables false
set_option linter.unusedSimpArgs false
set_option maxRecDepth 100000

def nstep (v c : Int) : Int := v * 10 + (c - 48)
theorem byt_u8 {x : Int} (h : 0 ≤ x ∧ x < 256) : (UInt8.ofNat x.toNat).toNat = x.toNat := by
 simp
 omega
theorem pU_ok (M : Nat) : ∀ (x : List Int), Byt x → ∀ (acc u : Nat), Lib.parseUintM M acc (u8s x) = .ok u → digs x = true ∧ (u : Int) = x.foldl nstep (acc : Int)
 | [], _, acc, u, h => by
  simp only [u8s, List.map_nil, Lib.parseUintM] at h
  cases h
  exact ⟨rfl, rfl⟩
 | c :: r, hb, acc, u, h => by
  have hc := hb c List.mem_cons_self
  have e := byt_u8 hc
  simp only [u8s, List.map_cons, Lib.parseUintM, e] at h
  split at h
  ·next hd =>
   split at h
   ·cases h
   ·split at h
    ·cases h
    ·obtain ⟨h1, h2⟩ := pU_ok M r (fun z hz => hb z (List.mem_cons_of_mem _ hz)) _ u h
     refine ⟨?_, ?_⟩
     ·simp only [digs, List.all_cons, Bool.and_eq_true, decide_eq_true_eq]
      refine ⟨by omega, ?_⟩
      simpa [digs] using h1
     ·rw [h2, List.foldl_cons]
      congr 1
      unfold nstep
      omega
  ·cases h
theorem pU_dig : ∀ (x : List Int), Byt x → digs x = true → ∀ (acc k : Nat), acc < 10 ^ k → k + x.length ≤ 19 → ∃ u, Lib.parseUintM (2 ^ 64 - 1) acc (u8s x) = .ok u
 | [], _, _, acc, k, _, _ => ⟨acc, rfl⟩
 | c :: r, hb, hd, acc, k, ha, hk => by
  have hc := hb c List.mem_cons_self
  have e := byt_u8 hc
  simp only [digs, List.all_cons, Bool.and_eq_true, decide_eq_true_eq] at hd
  rw [List.length_cons] at hk
  have p1 : 10 ^ k ≤ 10 ^ 18 := Nat.pow_le_pow_right (by decide) (by omega)
  have p2 : 10 ^ (k + 1) = 10 ^ k * 10 := Nat.pow_succ 10 k
  have p3 : (10 : Nat) ^ 18 = 1000000000000000000 := by decide
  have p4 : (2 : Nat) ^ 64 = 18446744073709551616 := by decide
  obtain ⟨u, hu⟩ := pU_dig r (fun z hz => hb z (List.mem_cons_of_mem _ hz)) (by simpa [digs] using hd.2) (acc * 10 + (c.toNat - 48)) (k + 1) (by omega) (by omega)
  refine ⟨u, ?_⟩
  simp only [u8s, List.map_cons, Lib.parseUintM, e]
  rw [if_pos (by omega), if_neg (by omega), if_neg (by omega)]
  exact hu
theorem bstr_dl (x : List Int) : (bstr x).data.toList = u8s x := by rw [bstr_is]; rfl
/-- what ParseUint gives, and the number -/
theorem num_ok (x : List Int) (hb : Byt x) (u : Nat) (h : Lib.parseUintB 64 (bstr x).data.toList = .ok u) (M : Int) : numO x M = if x.length ≤ 19 ∧ (u : Int) ≤ M then some (u : Int) else none := by
 rw [bstr_dl, Lib.parseUintB] at h
 split at h
 ·cases h
 ·next hne =>
  obtain ⟨h1, h2⟩ := pU_ok _ x hb 0 u h
  have hl : 1 ≤ x.length := by
   cases x with
   | nil => exact absurd rfl hne
   | cons a r => simp
  have hv : numV x = (u : Int) := by rw [h2]; rfl
  unfold numO
  rw [hv]
  by_cases hq : x.length ≤ 19 ∧ (u : Int) ≤ M
  ·rw [if_pos hq, if_pos ⟨⟨hl, hq.1⟩, h1, hq.2⟩]
  ·rw [if_neg hq, if_neg fun hh => hq ⟨hh.1.2, hh.2.2⟩]
theorem num_bad (x : List Int) (hb : Byt x) (h : ∀ u, Lib.parseUintB 64 (bstr x).data.toList ≠ .ok u) (M : Int) : numO x M = none := by
 unfold numO
 refine if_neg fun hh => ?_
 obtain ⟨u, hu⟩ := pU_dig x hb hh.2.1 0 0 (by decide) (by omega)
 refine h u ?_
 rw [bstr_dl, Lib.parseUintB, if_neg (fun e => by
  have hn : x = [] := by simpa [u8s] using e
  rw [hn] at hh
  simp at hh)]
 exact hu
/-- the variables that ParseUint's errors read -/
def ErrVars (w : World) : Prop := (∃ tp p, w.var? Tryd.prog "strconv.ErrSyntax" = some #[.iface tp p]) ∧ ∃ tp p, w.var? Tryd.prog "strconv.ErrRange" = some #[.iface tp p]
set_option maxHeartbeats 1600000 in
theorem putNumber_any (b j : Nat) (old : Value) (x : List Int) (hb : Hid (Byt x)) (hx : x.length ≤ 1048576) (w : World) (hc : w.cell? ⟨b, j, none⟩ = some old) (hf : w.frozen? ⟨b, j, none⟩ = false) (hlt : b < w.heap.size) (hE : Hid (ErrVars w)) :
  Calls Tryd.prog 30 #[.pointer (some ⟨b, j, none⟩), .string (bstr x)] w fun e w' => e = .returned (.bool (numO x 4611686018427387904).isSome) ∧ ∃ v W1, 0 ≤ v ∧ Below w.heap.size w W1 ∧ w' = W1.setCell ⟨b, j, none⟩ (.int .u64 v) ∧ ∀ y, numO x 4611686018427387904 = some y → v = y := by
 have hs : (bstr x).size = x.length := bstr_size x
 have F : Calls Tryd.prog 33 #[.string (bstr x), .int .i64 10, .int .i64 64] w fun e w' => (∃ v E, e = .returned (.tuple #[.int .u64 v, E]) ∧ 0 ≤ v ∧ ((E = .nilIface ∧ numO x 4611686018427387904 = if x.length ≤ 19 ∧ v ≤ 4611686018427387904 then some v else none) ∨ ((∃ t q, E = .iface t q) ∧ numO x 4611686018427387904 = none))) ∧ Below w.heap.size w w' := by
  cases hp : Lib.parseUintB 64 (bstr x).data.toList
  ·next u =>
   refine (Tryd.strconv_ParseUint_10_at64_ok (bstr x) (by omega) u hp w).mono ?_
   rintro e w' ⟨rfl, hw⟩
   refine ⟨⟨u, .nilIface, rfl, by omega, .inl ⟨rfl, num_ok x (unhide hb) u hp _⟩⟩, ?_⟩
   rcases hw with rfl | rfl
   ·exact Below.refl _ _
   ·exact Lib.bytesWorld_below _ _ _
  ·skip
   obtain ⟨⟨tp, p, hv⟩, -⟩ := unhide hE
   refine (Tryd.strconv_ParseUint_10_at64_syntax_var (bstr x) (by omega) hp tp p w hv).mono ?_
   rintro e w' ⟨n, rfl, -, -, hw⟩
   exact ⟨⟨0, _, rfl, by omega, .inr ⟨⟨_, _, rfl⟩, num_bad x (unhide hb) (fun u => by rw [hp]; exact fun h => by cases h) _⟩⟩, hw⟩
  ·skip
   obtain ⟨-, ⟨tp, p, hv⟩⟩ := unhide hE
   refine (Tryd.strconv_ParseUint_10_at64_range_var (bstr x) (by omega) hp tp p w hv).mono ?_
   rintro e w' ⟨n, rfl, -, -, hw⟩
   exact ⟨⟨18446744073709551615, _, rfl, by omega, .inr ⟨⟨_, _, rfl⟩, num_bad x (unhide hb) (fun u => by rw [hp]; exact fun h => by cases h) _⟩⟩, hw⟩
 have HF := hide F
 clear F
 go_enter Tryd.func30, Tryd.ntmps30
 go_wp2_with fail
 refine (unhide HF).mono ?_
 rintro r w1 ⟨⟨v, E, rfl, hv0, hE1⟩, hb1⟩
 have c1 := cell_below hc hb1
 have f1 := (hb1.frozen (p := ⟨b, j, none⟩) hlt).trans hf
 rcases hE1 with ⟨rfl, hn⟩ | ⟨⟨t, q, rfl⟩, hn⟩
 ·have HN := hide hn
  clear hc hf hn
  by_cases h19 : x.length ≤ 19
  ·have h19' : (x.length : Int) ≤ 19 := by omega
   have hi : (numO x 4611686018427387904).isSome = decide (v ≤ 4611686018427387904) := by
    rw [unhide HN]
    by_cases hq : v ≤ 4611686018427387904
    ·rw [if_pos ⟨h19, hq⟩]; simp [hq]
    ·rw [if_neg (fun hh => hq hh.2)]; simp [hq]
   have HI := hide hi
   clear hi
   go_wp2
   refine bodyPost_ret (v := .bool (decide (v ≤ 4611686018427387904))) (by simp [results, Tryd.results30, go_sem]) rfl ⟨by rw [unhide HI], v, w1, hv0, hb1, rfl, fun y hy => ?_⟩
   rw [unhide HN] at hy
   split at hy
   ·cases hy; rfl
   ·cases hy
  ·have h19' : ¬ (x.length : Int) ≤ 19 := by omega
   have hi : (numO x 4611686018427387904) = none := by rw [unhide HN, if_neg (fun hh => h19 hh.1)]
   have HI := hide hi
   clear hi
   go_wp2
   refine bodyPost_ret (v := .bool false) (by simp [results, Tryd.results30, go_sem]) rfl ?_
   first
    | exact ⟨(by rw [unhide HI]; rfl), v, w1, hv0, hb1, rfl, fun y hy => by rw [unhide HI] at hy; cases hy⟩
    | exact ⟨(by rw [unhide HI]; rfl), v, hv0, w1, hb1, rfl, fun y hy => by rw [unhide HI] at hy; cases hy⟩
 ·have HI := hide hn
  clear hc hf hn
  go_wp2
  exact bodyPost_ret (v := .bool false) (by simp [results, Tryd.results30, go_sem]) rfl ⟨(by rw [unhide HI]; rfl), v, w1, hv0, hb1, rfl, fun y hy => by rw [unhide HI] at hy; cases hy⟩
set_option maxHeartbeats 1600000 in
theorem putSmall_any (b j : Nat) (old : Value) (x : List Int) (most : Int) (hm : 0 ≤ most ∧ most ≤ 1000000) (hb : Hid (Byt x)) (hx : x.length ≤ 1048576) (w : World) (hc : w.cell? ⟨b, j, none⟩ = some old) (hf : w.frozen? ⟨b, j, none⟩ = false) (hlt : b < w.heap.size) (hE : Hid (∀ w', Below w.heap.size w w' → ErrVars w')) :
  Calls Tryd.prog 31 #[.pointer (some ⟨b, j, none⟩), .string (bstr x), .int .i64 most] w fun e w' => e = .returned (.bool (smallO x most).isSome) ∧ ∃ W1, Below w.heap.size w W1 ∧ ((smallO x most = none ∧ w' = W1) ∨ ∃ y, smallO x most = some y ∧ w' = W1.setCell ⟨b, j, none⟩ (.int .i64 y)) := by
 obtain ⟨W, hW⟩ : ∃ V, V = w.alloc (.cells #[.int .u64 0] 23) := ⟨_, rfl⟩
 have hbW : Below w.heap.size w W := by rw [hW]; exact (Below.refl _ _).alloc (Nat.le_refl _) _
 have zW : W.heap.size = w.heap.size + 1 := by rw [hW]; simp
 have cW : CellsAre W w.heap.size [.int .u64 0] := by rw [hW]; exact CellsAre.alloc w _ _
 have F := putNumber_any w.heap.size 0 _ x hb hx W (cW.1 0 _ rfl) (cW.2 0) (by omega) (hide (unhide hE W hbW))
 have HF := hide F
 have HC := hide (And.intro hc hf)
 have HCW := hide cW
 clear F cW hc hf
 go_enter Tryd.func31, Tryd.ntmps31
 go_wp2_with fail
 rw [← hW]
 clear hW
 refine (unhide HF).mono ?_
 rintro r w1 ⟨rfl, v, W1, hv0, hb1, rfl, hv⟩
 have bW1 : Below w.heap.size w W1 := Below.step hbW hb1
 have HS := hide hv
 obtain ⟨w2, e2⟩ : ∃ Z, Z = W1.setCell ⟨w.heap.size, 0, none⟩ (.int .u64 v) := ⟨_, rfl⟩
 have z1 := hb1.size
 have bw2 : Below w.heap.size w w2 := by rw [e2]; exact bW1.setCell (Nat.le_refl _) _
 have c1 : w2.cell? ⟨b, j, none⟩ = some old := cell_below (unhide HC).1 bw2
 have f1 : w2.frozen? ⟨b, j, none⟩ = false := (bw2.frozen (p := ⟨b, j, none⟩) hlt).trans (unhide HC).2
 have CV := (CellsAre.near (unhide HCW |>.below (by omega) hb1) 0 (by simp) (.int .u64 v))
 rw [← e2] at CV ⊢
 have c2 := CV.1 0 _ rfl
 clear CV hv e2 hbW hb1 HF HCW
 cases hn : numO x 4611686018427387904 with
 | none =>
  have hs : smallO x most = none := by unfold smallO; rw [hn]; rfl
  have HI := hide hs
  clear hs hn
  simp only [Option.isSome_none]
  go_wp2
  exact bodyPost_ret (v := .bool false) (by simp [results, Tryd.results31, go_sem]) rfl ⟨(by rw [unhide HI]; rfl), w2, bw2, .inl ⟨unhide HI, rfl⟩⟩
 | some y =>
  have hvy := unhide HS y hn
  subst hvy
  simp only [Option.isSome_some]
  by_cases hle : v ≤ most
  ·have hs : smallO x most = some v := by unfold smallO; rw [hn]; simp [hle]
   have HI := hide hs
   have hle' : ¬ most < v := by omega
   have hw1 : IntKind.u64.wrap most = most := IntWalk.u64_in _ (by omega)
   have hw2 : IntKind.i64.wrap v = v := IntWalk.i64_in _ (by omega)
   clear hs hn HS
   go_wp2
   exact bodyPost_ret (v := .bool true) (by simp [results, Tryd.results31, go_sem]) rfl ⟨(by rw [unhide HI]; rfl), w2, bw2, .inr ⟨v, unhide HI, rfl⟩⟩
  ·have hs : smallO x most = none := by unfold smallO; rw [hn]; simp; omega
   have HI := hide hs
   have hle' : most < v := by omega
   have hw1 : IntKind.u64.wrap most = most := IntWalk.u64_in _ (by omega)
   clear hs hn HS
   go_wp2
   exact bodyPost_ret (v := .bool false) (by simp [results, Tryd.results31, go_sem]) rfl ⟨(by rw [unhide HI]; rfl), w2, bw2, .inl ⟨unhide HI, rfl⟩⟩
end Go.Proofs.YtlkhghcffhckmaaDoor
