import Derived.Test.YtnbgnhhnpmmloaaGreatDoorK38
import Derived.Test.YtnbgnhhnpmmloaaGreatDoorK42
namespace Go.Proofs.YtnbgnhhnpmmloaaGreatDoor
open Go.ChangeShapes Go.WideShapes Go.ChangeAt Go.RowKit
set_option linter.unusedVariables false
set_option linter.unusedSimpArgs false
set_option maxRecDepth 100000
set_option maxHeartbeats 3200000 in
theorem listN_any (p : Option Addr) (c n : Nat) (l : List Nod) (en : Hid (l.length = n)) (w : World) (h : RdN w (.slice p n c) l) (hn : n ≤ 900) (ss : List Ses) (hu : Hid (Sml ss l)) (N : Nat) (eN : Hid ((liB noB l).length = N)) (hN : N ≤ 4194304) :
  Calls Tryz.prog 58 #[.slice p n c, .func (.func 59) #[] #[]] w fun e w' => ∃ p' c', e = .returned (.slice p' N c') ∧ Own w.heap.size w' (.slice p' N c') (liB noB l) ∧ Below w.heap.size w w' := by
 obtain ⟨ib, hib, hz0, hz1, hz2⟩ := info_parts Tryz.infoSl
 have HR := hide fun (w' : World) (hb : Below w.heap.size w w') => h.below hb
 clear h
 have wn : IntKind.u64.wrap (n : Int) = (n : Int) := by rw [IntKind.wrap_u64]; omega
 go_enter Tryz.func58, Tryz.ntmps58
 go_wp2_with fail
 refine (varint_any n w (by omega)).mono ?_
 rintro r w1 ⟨p1, c1, rfl, o1, b1⟩
 obtain ⟨Ls0, hP⟩ := PartsO.one o1 b1.size
 obtain ⟨v0, hv0⟩ : ∃ V, V = w1.alloc (.cells #[.slice p1 (vi n).length c1] 22) := ⟨_, rfl⟩
 have hb0 : Below w.heap.size w v0 := by rw [hv0]; exact b1.alloc b1.size _
 rw [← hv0] at hP
 have HP := hide hP
 clear hP o1
 generalize (vi n).length = M at *
 go_wp2
 rw [← hv0]
 clear hv0 b1
 go_loopw [5, 15] (fun pv iv wr => ∃ (k : Nat) (p2 : Option Addr) (c2 : Nat) (Ls : List (List Lf)), k ≤ n ∧ pv = .slice p2 (k + 1) c2 ∧ iv = .int .i64 k ∧ Hid (PartsO w.heap.size wr (.slice p2 (k + 1) c2) (vi n :: (l.take k).map noB) Ls) ∧ Below w.heap.size w wr) (fun _ iv _ => n - (intOf iv).toNat)
 case atStart => exact ⟨0, _, _, _, Nat.zero_le _, rfl, rfl, uh HP, hb0⟩
 case round =>
  obtain ⟨k, p2, c2, Ls, hk, rfl, rfl, ho, hbr⟩ := hrel
  by_cases hlt : k < n
  ·have hlt' : (k : Int) < (n : Int) := by omega
   have hkl : k < l.length := by rw [uh en]; exact hlt
   obtain ⟨nd, hy⟩ : ∃ y, l[k]? = some y := ⟨_, List.getElem?_eq_getElem hkl⟩
   have hi := (uh hu).d nd (List.mem_of_getElem? hy)
   have hlen := (noB_len (uh hu) nd (List.mem_of_getElem? hy)).1
   obtain ⟨b, o, rfl, PP, PV, PH, PU, hna⟩ : ∃ b o, p = some ⟨b, o, none⟩ ∧ ∃ P V H U, NodeAt wr b (o + k * 8) nd P V H U := by
    obtain ⟨p', c', ev, hd⟩ := uh HR _ hbr
    simp only [Value.slice.injEq] at ev
    obtain ⟨rfl, -, -⟩ := ev
    rcases hd with h0 | ⟨b, o, h1, h2⟩
    ·rw [h0] at hkl; simp at hkl
    ·exact ⟨b, o, h1, h2 k _ hy⟩
   obtain ⟨pA, cA, nA, rfl, eA⟩ := hna.r0.slc
   obtain ⟨pB, cB, nB, rfl, eB⟩ := hna.r1.slc
   obtain ⟨pD, cD, nD, rfl, eD⟩ := hna.r4.slc
   obtain ⟨pU, cU, nU, rfl, -⟩ := hna.r7.slc
   obtain ⟨hc0, hc1, hc2, hc3, hc4, hc5, hc6, hc7, q0, q1, q4, -, -⟩ := hna
   have QQ := hide (And.intro q0 (And.intro q1 q4))
   obtain ⟨⟨j1, j2, j3⟩, j4, j5, j6, j7, j8⟩ := hi
   rw [uh eA] at j1
   rw [uh eB] at j2
   rw [uh eD] at j3
   have J8 := hide j8
   obtain ⟨ow, eow⟩ : ∃ v : Nat, nd.owner = (v : Int) := ⟨nd.owner.toNat, by omega⟩
   obtain ⟨ep, eep⟩ : ∃ v : Nat, nd.epoch = (v : Int) := ⟨nd.epoch.toNat, by omega⟩
   obtain ⟨ge, ege⟩ : ∃ v : Nat, nd.gen = (v : Int) := ⟨nd.gen.toNat, by omega⟩
   obtain ⟨mo, emo⟩ : ∃ v : Int, nd.mode = v := ⟨_, rfl⟩
   rw [eow] at hc2 j5
   rw [eep] at hc5 j6
   rw [ege] at hc6 j7
   rw [emo] at hc3 j4
   obtain ⟨M3, eM3⟩ : ∃ M, Hid ((noB nd).length = M) := ⟨_, (by show _ = _; rfl)⟩
   have eNB : Hid (noB nd = noL nd.path nd.value ow mo nd.holders ep ge) := by show _ = _; rw [noB, eow, eep, ege, emo]; rfl
   have eM3' : Hid ((noL nd.path nd.value ow mo nd.holders ep ge).length = M3) := by show _ = _; rw [← uh eNB]; exact uh eM3
   rw [uh eM3] at hlen
   clear q0 q1 q4 j8 eow eep ege emo
   have HY := hide hy
   clear hkl hy
   have wk : IntKind.i64.wrap ((k : Int) + 1) = ((k + 1 : Nat) : Int) := by rw [IntWalk.i64_in _ (by omega)]; omega
   go_wp2_with fail
   obtain ⟨X, hX⟩ : ∃ X, X = wr.alloc (.cells #[.slice pA nA cA, .slice pB nB cB, .int .u64 ow, .int .i64 mo, .slice pD nD cD, .int .u64 ep, .int .u64 ge, .slice pU nU cU] 66) := ⟨_, rfl⟩
   have hbX : Below wr.heap.size wr X := by rw [hX]; exact (Below.refl _ _).alloc (Nat.le_refl _) _
   have ho2 := hide ((uh ho).below elBy.keep hbX)
   have hbr2 := Below.step hbr hbX
   rw [← hX]
   refine (nodBytes_any pA pB pD nA cA nB cB nD cD (.slice pU nU cU) nd.path nd.value nd.holders ow ep ge mo eA eB eD X ((uh QQ).1.below hbX) ((uh QQ).2.1.below hbX) ((uh QQ).2.2.below hbX) (by omega) (by omega) (by omega) J8 (by omega) (by omega) (by omega) j4 M3 eM3' (by omega)).mono ?_
   clear hX ho hbr hbX
   rintro r w3 ⟨p3, c3, rfl, o3, hb3⟩
   rw [← uh eNB] at o3
   have b3 := Below.step hbr2 hb3
   have hA : Below w3.heap.size w3 (w3.alloc (.cells #[.slice p3 M3 c3] 22)) := (Below.refl _ _).alloc (Nat.le_refl _) _
   have OZ := (uh ho2).below elBy.keep (Below.step hb3 hA)
   have hlV := (uh ho2).lt
   obtain ⟨lb, q1, q2, -, q4⟩ := row_lv (kd := .u8) (Own.below o3 hA)
   have elz : elBy (w3.alloc (.cells #[.slice p3 M3 c3] 22)) (noB nd) [.slice p3 M3 c3] lb := by
    have z1 := (Own.below o3 hA).rd
    have z2 := q1
    rw [← uh eM3] at z1 z2 ⊢
    exact ⟨p3, c3, rfl, z1, z2⟩
   obtain ⟨cs, g1, g2, g3, g4, g5, g6, g7⟩ := id OZ
   have lenX : (vi n :: (l.take k).map noB).length = k + 1 := by rw [List.length_cons, List.length_map, List.length_take, uh en]; omega
   rw [lenX] at g4
   have z3 := hb3.size
   have zr := hbr2.size
   have EL := hide elz
   have Q2 := hide q2
   have GG := hide (And.intro g1 (And.intro g2 (And.intro g3 (And.intro g5 (And.intro g6 g7)))))
   have HLV := hide hlV
   have LX := hide lenX
   clear hc0 hc1 hc2 hc3 hc4 hc5 hc6 hc7 o3 OZ q1 q2 q4 elz g1 g2 g3 g5 g6 g7 hlV lenX ho2
   have hcZ : ∀ j u, [Value.slice p3 M3 c3][j]? = some u → (w3.alloc (.cells #[.slice p3 M3 c3] 22)).cell? ⟨w3.heap.size, j, none⟩ = some u := fun j u hu => by
    have := (CellsAre.alloc w3 #[.slice p3 M3 c3] 22).1 j u (by simpa using hu)
    exact this
   go_wp2_with (at_builtin; refine wpList_append_fr rfl _ _ 126 rfl w.heap.size 22 ib _ 1 24 Tryz.underlying126 hib hz0 hz1 hz2 rfl (by decide) (.slice p2 (k + 1) c2) (k + 1) _ rfl g4 w3.heap.size 1 1 [.slice p3 M3 c3] rfl rfl hcZ (fun u hu => by simp at hu; subst hu; rfl) (by unfold maxLen; omega) (by omega) (by simp; omega) ?_)
   intro v' w9 hrow hg hfr
   obtain ⟨p9, c9, rfl⟩ : ∃ p9 c9, v' = .slice p9 (k + 1 + 1) c9 := by
    rcases hrow.2 with ⟨rfl, h0⟩ | ⟨g, cap, cur, rfl, -⟩
    ·omega
    ·exact ⟨_, _, rfl⟩
   obtain ⟨g1, g2, g3, g5, g6, g7⟩ := uh GG
   have hlV := uh HLV
   have hrow' : w9.ownsRow w.heap.size 22 1 (.slice p9 (k + 1 + 1) c9) ((vi n :: (l.take k).map noB).length + 1) (cs.flatten ++ [.slice p3 M3 c3]) := by rw [uh LX]; exact hrow
   have sn := OwnT.snoc g1 g2 g3 g5 g6 g7 elBy.keep (uh EL) rfl (uh Q2) (by omega) (fun a ha => (hlV.2 a ha).2) (fun b hb => (hlV.1 b hb).2) hrow' hg (fun g hg' => by
    have := hfr g hg'
    simpa using this)
   have eL : (vi n :: (l.take k).map noB) ++ [noB nd] = vi n :: (l.take (k + 1)).map noB := by
    rw [List.take_add_one, uh HY, List.map_append]
    simp
   rw [eL] at sn
   have hb9 : Below w.heap.size w w9 := (b3.alloc b3.size _).grown hg (by simp; omega) (fun b hb => (hlV.1 b hb).1)
   have SN := hide sn
   clear sn eL hrow hrow' hg hfr g1 g2 g3 g4 g5 g6 g7 hlV hcZ GG EL Q2
   go_wp2
   go_roundw
   case rel => exact ⟨k + 1, _, _, _, by omega, rfl, by go_num, uh SN, hb9⟩
   case measure => simp [intOf]; omega
  ·have hlt' : ¬ (k : Int) < (n : Int) := by omega
   have ekn : n = k := by omega
   subst ekn
   have hO := uh ho
   rw [List.take_of_length_le (by rw [uh en]; exact Nat.le_refl _)] at hO
   have lenX : (vi n :: l.map noB).length = n + 1 := by rw [List.length_cons, List.length_map, uh en]
   obtain ⟨G, vs, rfl, hPa⟩ := hO.parts lenX (by omega)
   have HPA := hide hPa
   have EE : Hid (liB noB l = cat (vi n :: l.map noB)) := by show _ = _; rw [liB, uh en]
   have LX := hide lenX.symm
   clear hO hPa lenX ho hk hlt
   go_wp2_with fail
   refine (joinedC_any G c2 vs (vi n :: l.map noB) (liB noB l) N (n + 1) LX EE eN _ (uh HPA) hN (by omega)).mono ?_
   rintro r w5 ⟨p5, c5, rfl, o5, hb5⟩
   have b5 := Below.step hbr hb5
   have O5 := hide (Own.mono (B' := w.heap.size) o5 hbr.size)
   clear o5 hb5
   go_wp2
   go_ret
   exact ⟨p5, c5, rfl, uh O5, b5⟩
set_option maxHeartbeats 3200000 in
theorem lfU_any (R : Nat) (m : List Int) (n : Nat) (sh : Bool) (w : World) (h : Rdr w R m n sh) (hR : R < w.heap.size) (hb : Hid (Byt m)) (hl : n ≤ 1048576) (xs : List Int) (m' : List Int) (sh' : Bool) (e : Hid (lF sNs (m, sh) = (xs, m', sh'))) (N : Nat) (eN : Hid (xs.length = N)) :
  Calls Tryz.prog 81 #[.pointer (some ⟨R, 0, none⟩), .func (.func 36) #[.pointer (some ⟨R, 0, none⟩)] #[]] w fun r w' => ∃ p' c', r = .returned (.slice p' N c') ∧ (OwnU w.heap.size w' ((.slice p' N c')) xs) ∧ Rdr w' R m' m'.length sh' ∧ Kept [blk R] w w' := by
 obtain ⟨iu, hiu, uz0, uz1, uz2⟩ := info_parts Tryz.infoU64
 have hmn : m.length = n := h.1
 obtain ⟨⟨x, m1, s1⟩, e1⟩ : ∃ y, Hid (sNs (m, sh) = y) := ⟨_, (by show _ = _; rfl)⟩
 have ok1 := sNs_ok (m, sh) (uh hb) (by rw [hmn]; exact hl)
 rw [uh e1] at ok1
 obtain ⟨hx, hb1, hl1, -⟩ := ok1
 dsimp only at hl1
 obtain ⟨X, rfl⟩ : ∃ v : Nat, x = (v : Int) := ⟨x.toNat, by have := hx.1; omega⟩
 have hX : (X : Int) < 18446744073709551616 := hx.2
 have e2 : Hid (lfK sNs X [] (m1, s1) = (xs, m', sh')) := by
  have := uh e
  rw [lF, uh e1] at this
  exact this
 have HB1 := hide hb1
 clear hx hb1
 go_enter Tryz.func81, Tryz.ntmps81
 go_wp2_with fail
 refine (number_any R m n sh _ h (uh hb) hl X m1 s1 e1).mono ?_
 rintro r w1 ⟨rfl, hR1, hk1⟩
 have HR1 := hide hR1
 have HK1 := hide hk1
 clear hR1 hk1 h
 go_wp2
 go_loopw [5, 9] (fun lv iv wr => ∃ (i : Nat) (acc : List Int) (k : Nat) (m2 : List Int) (s2 : Bool) (n2 : Nat) (p : Option Addr) (c : Nat), i ≤ X ∧ lv = .slice p k c ∧ iv = .int .u64 i ∧ k + n2 ≤ 1048576 ∧ Hid (acc.length = k) ∧ Hid (m2.length = n2) ∧ Hid (lfK sNs (X - i) acc (m2, s2) = (xs, m', sh')) ∧ Hid (Byt m2) ∧ Hid (Rdr wr R m2 n2 s2) ∧ Hid (OwnU w.heap.size wr ((.slice p k c)) acc) ∧ Hid (Kept [blk R] w wr)) (fun _ iv _ => X - (intOf iv).toNat)
 case atStart => exact ⟨0, [], 0, m1, s1, m1.length, none, 0, Nat.zero_le _, rfl, rfl, by omega, (by show _ = _; rfl), (by show _ = _; rfl), e2, HB1, HR1, World.ownsRow_nil _ _ _ _, HK1⟩
 case round =>
  clear HR1 HK1 HB1 e2
  obtain ⟨i, acc, k, m2, s2, n2, p, c, hi, rfl, rfl, hkn, ek, en2, e3, hb2, hr2, ho2, hk2⟩ := hrel
  have hzr := (uh hk2).size
  by_cases hlt : i < X
  ·have hlt' : (i : Int) < (X : Int) := by omega
   have wi : IntKind.u64.wrap ((i : Int) + 1) = ((i + 1 : Nat) : Int) := by rw [IntKind.wrap_u64]; omega
   obtain ⟨⟨d, m3, s3⟩, e4⟩ : ∃ y, Hid (sNs (m2, s2) = y) := ⟨_, (by show _ = _; rfl)⟩
   have ok3 := sNs_ok (m2, s2) (uh hb2) (by show m2.length ≤ _; rw [uh en2]; omega)
   rw [uh e4] at ok3
   obtain ⟨-, hb3, hl3, hl4⟩ := ok3
   dsimp only at hl3 hl4
   rw [uh en2] at hl3 hl4
   have e5 : Hid (lfK sNs (X - i - 1 + 1) acc (m2, s2) = (xs, m', sh')) := by rw [show X - i - 1 + 1 = X - i by omega]; exact e3
   have HB3 := hide hb3
   clear hb3
   go_wp2_with fail
   refine (number_any R m2 n2 s2 _ (uh hr2) (uh hb2) (by omega) d m3 s3 e4).mono ?_
   rintro r w3 ⟨rfl, hr3, hk3⟩
   have HK3 := hide ((uh hk2).trans hk3)
   have HR3 := hide hr3
   have z3 := hk3.size
   obtain ⟨l3, f3, pr, cr, ⟨g0, g1⟩, -⟩ := hr3
   have O3 := hide ((uh ho2).keptR hk3 (by omega))
   clear hk3
   cases s3 with
   | true =>
    clear hl4
    have e6 : xs = [] ∧ m' = m3 ∧ sh' = true := by
     have := uh e5
     rw [lfK, uh e4, if_pos rfl] at this
     simp only [Prod.mk.injEq] at this
     exact ⟨this.1.symm, this.2.1.symm, this.2.2.symm⟩
    obtain ⟨rfl, rfl, rfl⟩ := e6
    have hN0 : N = 0 := (uh eN).symm
    subst hN0
    go_wp2
    go_ret
    exact ⟨none, 0, rfl, World.ownsRow_nil _ _ _ _, uh HR3, uh HK3⟩
   | false =>
    have hl5 := hl4 rfl
    clear hl4
    have e6 : Hid (lfK sNs (X - (i + 1)) (acc ++ [d]) (m3, false) = (xs, m', sh')) := by
     have := uh e5
     rw [lfK, uh e4, if_neg (by simp)] at this
     exact this
    obtain ⟨n3, en3⟩ : ∃ k, Hid (m3.length = k) := ⟨_, (by show _ = _; rfl)⟩
    rw [uh en3] at hl5 hl3 HR3 l3 g0
    clear l3 g0
    obtain ⟨v3, hv3⟩ : ∃ V, V = w3.alloc (.cells #[.int .u64 d] 23) := ⟨_, rfl⟩
    have hb3 : Below w3.heap.size w3 v3 := by rw [hv3]; exact (Below.refl _ _).alloc (Nat.le_refl _) _
    have hcC : ∀ i u, ([.int .u64 d] : List Value)[i]? = some u → v3.cell? ⟨w3.heap.size, i, none⟩ = some u := by rw [hv3]; exact cells_new
    have HCC := hide hcC
    have z4 : v3.heap.size = w3.heap.size + 1 := by rw [hv3]; simp
    have hlO : Hid (∀ b, (Value.slice p k c).ownBlock = some b → w.heap.size ≤ b) := fun b eb => ((uh O3).lt b eb).1
    have HROW : Hid (v3.ownsRow w.heap.size 23 1 (.slice p k c) k (acc.map (Value.int .u64))) := by
     have := (uh O3).below hb3
     unfold OwnU at this
     rw [uh ek] at this
     exact this
    have R4 := hide ((uh HR3).below hb3 (by omega))
    have K4 := hide ((uh HK3).trans (Kept.of_below hb3))
    clear hcC
    go_wp2_with (at_builtin; rw [← hv3]; refine wpList_append_fr rfl _ _ 64 rfl w.heap.size 23 iu _ 1 8 Tryz.underlying64 hiu uz0 uz1 uz2 rfl (by decide) (.slice p k c) k _ rfl (uh HROW) (w3.heap.size) 1 1 [.int .u64 d] rfl rfl (uh HCC) (fun u hu => by simp at hu; subst hu; rfl) (by unfold maxLen; omega) (by omega) (by omega) ?_)
    intro v' w9 hrow hg hfr0
    have hfr : ∀ g, v'.ownBlock = some g → (Value.slice p k c).ownBlock = some g ∨ v3.heap.size ≤ g := fun g eg => by have := hfr0 g eg; rw [hv3]; simpa using this
    rw [← hv3] at hg
    have sn := OwnU.snoc (uh ek) hrow
    obtain ⟨pN, cN, e9⟩ := sn.form
    rw [List.length_append, uh ek] at e9
    subst e9
    have SN : Hid (OwnU w.heap.size w9 (.slice pN (k + 1) cN) (acc ++ [d])) := sn
    have K9 := hide ((uh K4).grownR hg (fun b eb => uh hlO b eb))
    have R9 := hide ((uh R4).keep fun b hbR => hg.block b (by omega) (fun eb => by have := uh hlO b eb.symm; omega))
    have EK : Hid ((acc ++ [d]).length = k + 1) := by show _ = _; rw [List.length_append, uh ek]; rfl
    clear hrow hg hfr hfr0 sn hv3 hb3 g1 f3
    go_wp2
    go_roundw
    case rel => exact ⟨i + 1, acc ++ [d], k + 1, m3, false, n3, pN, cN, by omega, rfl, by go_num, by omega, EK, en3, e6, HB3, R9, SN, K9⟩
    case measure => simp [intOf]; omega
  ·have hlt' : ¬ (i : Int) < (X : Int) := by omega
   have eiX : X = i := by omega
   have e6 : xs = acc ∧ m' = m2 ∧ sh' = s2 := by
    have := uh e3
    rw [show X - i = 0 by omega, lfK] at this
    simp only [Prod.mk.injEq] at this
    exact ⟨this.1.symm, this.2.1.symm, this.2.2.symm⟩
   obtain ⟨rfl, rfl, rfl⟩ := e6
   have hNk : N = k := (uh eN).symm.trans (uh ek)
   subst hNk
   have R9 : Hid (Rdr wr R m' m'.length sh') := by rw [uh en2]; exact hr2
   go_wp2
   go_ret
   exact ⟨p, c, rfl, uh ho2, uh R9, uh hk2⟩
set_option maxHeartbeats 3200000 in
theorem lfS_any (R : Nat) (m : List Int) (n : Nat) (sh : Bool) (w : World) (h : Rdr w R m n sh) (hR : R < w.heap.size) (hb : Hid (Byt m)) (hl : n ≤ 1048576) (xs : List Ses) (m' : List Int) (sh' : Bool) (e : Hid (lF sSe (m, sh) = (xs, m', sh'))) (N : Nat) (eN : Hid (xs.length = N)) :
  Calls Tryz.prog 37 #[.pointer (some ⟨R, 0, none⟩), .func (.func 38) #[.pointer (some ⟨R, 0, none⟩)] #[]] w fun r w' => ∃ p' c', r = .returned (.slice p' N c') ∧ (∃ Ls, OwnT elSe 59 3 w.heap.size w' ((.slice p' N c')) xs Ls) ∧ Rdr w' R m' m'.length sh' ∧ Kept [blk R] w w' := by
 obtain ⟨iu, hiu, uz0, uz1, uz2⟩ := info_parts Tryz.infoSes
 have hmn : m.length = n := h.1
 obtain ⟨⟨x, m1, s1⟩, e1⟩ : ∃ y, Hid (sNs (m, sh) = y) := ⟨_, (by show _ = _; rfl)⟩
 have ok1 := sNs_ok (m, sh) (uh hb) (by rw [hmn]; exact hl)
 rw [uh e1] at ok1
 obtain ⟨hx, hb1, hl1, -⟩ := ok1
 dsimp only at hl1
 obtain ⟨X, rfl⟩ : ∃ v : Nat, x = (v : Int) := ⟨x.toNat, by have := hx.1; omega⟩
 have hX : (X : Int) < 18446744073709551616 := hx.2
 have e2 : Hid (lfK sSe X [] (m1, s1) = (xs, m', sh')) := by
  have := uh e
  rw [lF, uh e1] at this
  exact this
 have HB1 := hide hb1
 clear hx hb1
 go_enter Tryz.func37, Tryz.ntmps37
 go_wp2_with fail
 refine (number_any R m n sh _ h (uh hb) hl X m1 s1 e1).mono ?_
 rintro r w1 ⟨rfl, hR1, hk1⟩
 have HR1 := hide hR1
 have HK1 := hide hk1
 clear hR1 hk1 h
 go_wp2
 go_loopw [5, 9] (fun lv iv wr => ∃ (i : Nat) (acc : List Ses) (k : Nat) (m2 : List Int) (s2 : Bool) (n2 : Nat) (p : Option Addr) (c : Nat), i ≤ X ∧ lv = .slice p k c ∧ iv = .int .u64 i ∧ k + n2 ≤ 1048576 ∧ Hid (acc.length = k) ∧ Hid (m2.length = n2) ∧ Hid (lfK sSe (X - i) acc (m2, s2) = (xs, m', sh')) ∧ Hid (Byt m2) ∧ Hid (Rdr wr R m2 n2 s2) ∧ Hid (∃ Ls, OwnT elSe 59 3 w.heap.size wr ((.slice p k c)) acc Ls) ∧ Hid (Kept [blk R] w wr)) (fun _ iv _ => X - (intOf iv).toNat)
 case atStart => exact ⟨0, [], 0, m1, s1, m1.length, none, 0, Nat.zero_le _, rfl, rfl, by omega, (by show _ = _; rfl), (by show _ = _; rfl), e2, HB1, HR1, ⟨[], OwnT.nil _ _ _ _ _⟩, HK1⟩
 case round =>
  clear HR1 HK1 HB1 e2
  obtain ⟨i, acc, k, m2, s2, n2, p, c, hi, rfl, rfl, hkn, ek, en2, e3, hb2, hr2, ho2, hk2⟩ := hrel
  have hzr := (uh hk2).size
  by_cases hlt : i < X
  ·have hlt' : (i : Int) < (X : Int) := by omega
   have wi : IntKind.u64.wrap ((i : Int) + 1) = ((i + 1 : Nat) : Int) := by rw [IntKind.wrap_u64]; omega
   obtain ⟨⟨d, m3, s3⟩, e4⟩ : ∃ y, Hid (sSe (m2, s2) = y) := ⟨_, (by show _ = _; rfl)⟩
   have ok3 := sSe_ok (m2, s2) (uh hb2) (by show m2.length ≤ _; rw [uh en2]; omega)
   rw [uh e4] at ok3
   obtain ⟨-, hb3, hl3, hl4⟩ := ok3
   dsimp only at hl3 hl4
   rw [uh en2] at hl3 hl4
   have e5 : Hid (lfK sSe (X - i - 1 + 1) acc (m2, s2) = (xs, m', sh')) := by rw [show X - i - 1 + 1 = X - i by omega]; exact e3
   have HB3 := hide hb3
   clear hb3
   have e4n : Hid (sNs (m2, s2) = (d.1, m3, s3)) := by
    have := uh e4
    rw [sSe] at this
    show _ = _
    simp only [Prod.mk.injEq] at this
    rw [← this.1, ← this.2]
    rfl
   have hd : d = idS d.1 := by
    have := uh e4
    rw [sSe] at this
    simp only [Prod.mk.injEq] at this
    rw [← this.1]
    rfl
   obtain ⟨y, ey⟩ : ∃ y, d.1 = y := ⟨_, rfl⟩
   rw [ey] at e4n hd
   have HD := hide hd
   clear hd ey
   go_wp2_with fail
   refine (session_any R m2 n2 s2 _ (uh hr2) (by omega) (uh hb2) (by omega) y m3 s3 e4n).mono ?_
   rintro r w3 ⟨rfl, hr3, hk3⟩
   have HK3 := hide ((uh hk2).trans hk3)
   have HR3 := hide hr3
   have z3 := hk3.size
   have hr4 : Rdr (w3.alloc (.cells #[.int .u64 y, .int .i64 0, .slice none 0 0] 59)) R m3 m3.length s3 := hr3.below ((Below.refl _ _).alloc (Nat.le_refl _) _) (by omega)
   obtain ⟨l3, f3, pr, cr, ⟨g0, g1⟩, -⟩ := hr4
   obtain ⟨Ls, hoT⟩ := uh ho2
   have O3 := hide (hoT.keptR elSe.keep hk3 (by omega))
   have HLT := hide hoT.lt
   clear hoT
   clear hr3 hk3
   cases s3 with
   | true =>
    clear hl4
    have e6 : xs = [] ∧ m' = m3 ∧ sh' = true := by
     have := uh e5
     rw [lfK, uh e4, if_pos rfl] at this
     simp only [Prod.mk.injEq] at this
     exact ⟨this.1.symm, this.2.1.symm, this.2.2.symm⟩
    obtain ⟨rfl, rfl, rfl⟩ := e6
    have hN0 : N = 0 := (uh eN).symm
    subst hN0
    go_wp2
    go_ret
    exact ⟨none, 0, rfl, ⟨[], OwnT.nil _ _ _ _ _⟩, (uh HR3).below ((Below.refl _ _).alloc (Nat.le_refl _) _) (by omega), (uh HK3).alloc _⟩
   | false =>
    have hl5 := hl4 rfl
    clear hl4
    have e6 : Hid (lfK sSe (X - (i + 1)) (acc ++ [d]) (m3, false) = (xs, m', sh')) := by
     have := uh e5
     rw [lfK, uh e4, if_neg (by simp)] at this
     exact this
    obtain ⟨n3, en3⟩ : ∃ k, Hid (m3.length = k) := ⟨_, (by show _ = _; rfl)⟩
    rw [uh en3] at hl5 hl3 HR3 l3 g0
    clear l3 g0
    obtain ⟨v3, hv3⟩ : ∃ V, V = (w3.alloc (.cells #[.int .u64 y, .int .i64 0, .slice none 0 0] 59)).alloc (.cells #[.int .u64 y, .int .i64 0, .slice none 0 0] 59) := ⟨_, rfl⟩
    have hb3 : Below w3.heap.size w3 v3 := by rw [hv3]; exact ((Below.refl _ _).alloc (Nat.le_refl _) _).alloc (by simp) _
    have hcC : ∀ i u, ([.int .u64 y, .int .i64 0, .slice none 0 0] : List Value)[i]? = some u → v3.cell? ⟨w3.heap.size + 1, i, none⟩ = some u := by
     have e0 : (w3.alloc (.cells #[.int .u64 y, .int .i64 0, .slice none 0 0] 59)).heap.size = w3.heap.size + 1 := by simp
     rw [hv3, ← e0]
     exact cells_new
    have HCC := hide hcC
    have z4 : v3.heap.size = w3.heap.size + 2 := by rw [hv3]; simp
    have elx : elSe v3 d [.int .u64 y, .int .i64 0, .slice none 0 0] [] := by rw [uh HD]; exact elSe.id v3 y
    have apx : Apt w3.heap.size v3 [] := Apt.nil _ _
    obtain ⟨row, hrow0, happ⟩ := (uh O3).app elSe.keep hb3 elx rfl apx (by omega)
    have hlO : Hid (∀ b, (Value.slice p k c).ownBlock = some b → w.heap.size ≤ b) := fun b eb => ((uh O3).lt.1 b eb).1
    rw [uh ek] at hrow0 happ
    have HAPP := hide happ
    have HROW := hide hrow0
    clear happ hrow0
    have R4 := hide ((uh HR3).below hb3 (by omega))
    have K4 := hide ((uh HK3).trans (Kept.of_below hb3))
    clear hcC
    go_wp2_with (at_builtin; rw [← hv3]; refine wpList_append_fr rfl _ _ 24 rfl w.heap.size 59 iu _ 3 40 Tryz.underlying24 hiu uz0 uz1 uz2 rfl (by decide) (.slice p k c) k _ rfl (uh HROW) (w3.heap.size + 1) 1 1 [.int .u64 y, .int .i64 0, .slice none 0 0] rfl rfl (uh HCC) (fun u hu => by simp at hu; rcases hu with rfl | rfl | rfl <;> rfl) (by unfold maxLen; omega) (by omega) (by omega) ?_)
    intro v' w9 hrow hg hfr0
    have hfr : ∀ g, v'.ownBlock = some g → (Value.slice p k c).ownBlock = some g ∨ v3.heap.size ≤ g := fun g eg => by have := hfr0 g eg; rw [hv3]; simpa using this
    rw [← hv3] at hg
    obtain ⟨sn, pN, cN, rfl⟩ := uh HAPP v' w9 hrow hg hfr
    have SN : Hid (∃ Ls, OwnT elSe 59 3 w.heap.size w9 ((.slice pN (k + 1) cN)) (acc ++ [d]) Ls) := ⟨_, sn⟩
    have K9 := hide ((uh K4).grownR hg (fun b eb => uh hlO b eb))
    have R9 := hide ((uh R4).keep fun b hbR => hg.block b (by omega) (fun eb => by have := uh hlO b eb.symm; omega))
    have EK : Hid ((acc ++ [d]).length = k + 1) := by show _ = _; rw [List.length_append, uh ek]; rfl
    clear hrow hg hfr hfr0 sn hv3 hb3 g1 f3
    go_wp2
    go_roundw
    case rel => exact ⟨i + 1, acc ++ [d], k + 1, m3, false, n3, pN, cN, by omega, rfl, by go_num, by omega, EK, en3, e6, HB3, R9, SN, K9⟩
    case measure => simp [intOf]; omega
  ·have hlt' : ¬ (i : Int) < (X : Int) := by omega
   have eiX : X = i := by omega
   have e6 : xs = acc ∧ m' = m2 ∧ sh' = s2 := by
    have := uh e3
    rw [show X - i = 0 by omega, lfK] at this
    simp only [Prod.mk.injEq] at this
    exact ⟨this.1.symm, this.2.1.symm, this.2.2.symm⟩
   obtain ⟨rfl, rfl, rfl⟩ := e6
   have hNk : N = k := (uh eN).symm.trans (uh ek)
   subst hNk
   have R9 : Hid (Rdr wr R m' m'.length sh') := by rw [uh en2]; exact hr2
   go_wp2
   go_ret
   exact ⟨p, c, rfl, uh ho2, uh R9, uh hk2⟩
set_option maxHeartbeats 6400000 in
theorem node_any2 (R : Nat) (m : List Int) (n : Nat) (sh : Bool) (w : World) (h : Rdr w R m n sh) (hR : R < w.heap.size) (hb : Hid (Byt m)) (hl : n ≤ 1048576) (d : Nod) (m' : List Int) (sh' : Bool) (e : Hid (sNo (m, sh) = (d, m', sh'))) :
  Calls Tryz.prog 40 #[.pointer (some ⟨R, 0, none⟩)] w fun r w' => ∃ (pP : Option Addr) (NP cP : Nat) (pV : Option Addr) (NV cV : Nat) (ow mo : Int) (pH : Option Addr) (NH cH : Nat) (ep ge : Int) (Ae : List Lf), r = .returned (.agg #[.slice pP NP cP, .slice pV NV cV, .int .u64 ow, .int .i64 mo, .slice pH NH cH, .int .u64 ep, .int .u64 ge, .slice none 0 0]) ∧ elNo w' d [.slice pP NP cP, .slice pV NV cV, .int .u64 ow, .int .i64 mo, .slice pH NH cH, .int .u64 ep, .int .u64 ge, .slice none 0 0] Ae ∧ Apt w.heap.size w' Ae ∧ Rdr w' R m' m'.length sh' ∧ Kept [blk R] w w' := by
 have hmn : m.length = n := h.1
 obtain ⟨⟨P, m1, s1⟩, E1⟩ : ∃ y, Hid (sT m sh = y) := ⟨_, (by show _ = _; rfl)⟩
 obtain ⟨⟨V, m2, s2⟩, E2⟩ : ∃ y, Hid (sT m1 s1 = y) := ⟨_, (by show _ = _; rfl)⟩
 obtain ⟨⟨ow, m3, s3⟩, E3⟩ : ∃ y, Hid (sNs (m2, s2) = y) := ⟨_, (by show _ = _; rfl)⟩
 obtain ⟨⟨mo, m4, s4⟩, E4⟩ : ∃ y, Hid (sB m3 s3 = y) := ⟨_, (by show _ = _; rfl)⟩
 obtain ⟨⟨H, m5, s5⟩, E5⟩ : ∃ y, Hid (lF sNs (m4, s4) = y) := ⟨_, (by show _ = _; rfl)⟩
 obtain ⟨⟨ep, m6, s6⟩, E6⟩ : ∃ y, Hid (sNs (m5, s5) = y) := ⟨_, (by show _ = _; rfl)⟩
 obtain ⟨⟨ge, m7, s7⟩, E7⟩ : ∃ y, Hid (sNs (m6, s6) = y) := ⟨_, (by show _ = _; rfl)⟩
 have ED : Hid (d = ⟨P, V, ow, mo, H, ep, ge, []⟩ ∧ m' = m7 ∧ sh' = s7) := by
  have := uh e
  rw [sNo] at this
  simp only [uh E1, uh E2, uh E3, uh E4, uh E5, uh E6, uh E7, Prod.mk.injEq] at this
  exact ⟨this.1.symm, this.2.1.symm, this.2.2.symm⟩
 have k1 := sT_byt (sh := sh) (uh hb)
 rw [uh E1] at k1
 obtain ⟨-, c1, -, d1⟩ := k1
 dsimp only at c1 d1
 have k2 := sT_byt (sh := s1) c1
 rw [uh E2] at k2
 obtain ⟨-, c2, -, d2⟩ := k2
 dsimp only at c2 d2
 have k3 := sNs_ok (m2, s2) c2 (by dsimp only; omega)
 rw [uh E3] at k3
 obtain ⟨-, c3, d3, -⟩ := k3
 dsimp only at c3 d3
 have k4 := sB_byt (sh := s3) c3
 rw [uh E4] at k4
 obtain ⟨c4, -, -, d4⟩ := k4
 dsimp only at c4 d4
 have k5 := lF_ok sNs_ok (m4, s4) c4 (by dsimp only; omega)
 rw [uh E5] at k5
 obtain ⟨-, c5, d5, -⟩ := k5
 dsimp only at c5 d5
 have k6 := sNs_ok (m5, s5) c5 (by dsimp only; omega)
 rw [uh E6] at k6
 obtain ⟨-, c6, d6, -⟩ := k6
 dsimp only at c6 d6
 have B1 := hide c1
 have B2 := hide c2
 have B3 := hide c3
 have B4 := hide c4
 have B5 := hide c5
 have B6 := hide c6
 have g1 : m1.length ≤ 1048576 := by omega
 have g2 : m2.length ≤ 1048576 := by omega
 have g3 : m3.length ≤ 1048576 := by omega
 have g4 : m4.length ≤ 1048576 := by omega
 have g5 : m5.length ≤ 1048576 := by omega
 have g6 : m6.length ≤ 1048576 := by omega
 clear c1 c2 c3 c4 c5 c6 d1 d2 d3 d4 d5 d6 hmn
 obtain ⟨NP, eP⟩ : ∃ k, Hid (P.length = k) := ⟨_, (by show _ = _; rfl)⟩
 obtain ⟨NV, eV⟩ : ∃ k, Hid (V.length = k) := ⟨_, (by show _ = _; rfl)⟩
 obtain ⟨NH, eH⟩ : ∃ k, Hid (H.length = k) := ⟨_, (by show _ = _; rfl)⟩
 obtain ⟨W, hW⟩ : ∃ W, W = (w.alloc (.cells #[.slice none 0 0, .slice none 0 0, .int .u64 0, .int .i64 0, .slice none 0 0, .int .u64 0, .int .u64 0, .slice none 0 0] 66)) := ⟨_, rfl⟩
 have bW : Below w.heap.size w W := by rw [hW]; exact (Below.refl _ _).alloc (Nat.le_refl _) _
 have C0 : Hid (CellsAre W w.heap.size [.slice none 0 0, .slice none 0 0, .int .u64 0, .int .i64 0, .slice none 0 0, .int .u64 0, .int .u64 0, .slice none 0 0]) := by
  show CellsAre _ _ _
  rw [hW]; exact CellsAre.alloc w #[.slice none 0 0, .slice none 0 0, .int .u64 0, .int .i64 0, .slice none 0 0, .int .u64 0, .int .u64 0, .slice none 0 0] _
 have zW : W.heap.size = w.heap.size + 1 := by rw [hW]; simp
 have R0 := hide (h.below bW hR)
 have K0 := hide (Kept.of_below (vs := [blk R]) bW)
 go_enter Tryz.func40, Tryz.ntmps40
 go_wp2_with fail
 rw [← hW]
 clear hW h bW
 refine (text_any R m n sh _ (uh R0) (uh hb) hl (by omega) P m1 s1 E1 NP eP).mono ?_
 rintro z9 y1 ⟨pP, cP, rfl, oP, hr1, hk1⟩
 obtain ⟨lP, fP⟩ := Own.pb oP
 have FP1 := hide fP
 have C1 := hide ((uh C0).keptR hk1 (by omega) (by omega))
 have K1 := hide ((uh K0).trans hk1)
 have R1 := hide hr1
 have z1 := hk1.size
 clear hk1 hr1 C0 K0 R0  oP fP
 go_wp2_with fail
 refine (text_any R m1 m1.length s1 _ (uh R1) (uh B1) g1 (by omega) V m2 s2 E2 NV eV).mono ?_
 rintro z9 y2 ⟨pV, cV, rfl, oV', hr2, hk2⟩
 obtain ⟨lV, fV⟩ := Own.pb oV'
 have FV2 := hide fV
 have C2 := hide ((uh C1).keptR hk2 (by omega) (by omega))
 have K2 := hide ((uh K1).trans hk2)
 have R2 := hide hr2
 have z2 := hk2.size
 have FP2 := hide ((uh FP1).keptR hk2 (by omega))
 clear hk2 hr2 C1 K1 R1 FP1 oV' fV
 go_wp2_with fail
 refine (number_any R m2 m2.length s2 _ (uh R2) (uh B2) g2 ow m3 s3 E3).mono ?_
 rintro z9 y3 ⟨rfl, hr3, hk3⟩
 have C3 := hide ((uh C2).keptR hk3 (by omega) (by omega))
 have K3 := hide ((uh K2).trans hk3)
 have R3 := hide hr3
 have z3 := hk3.size
 have FP3 := hide ((uh FP2).keptR hk3 (by omega))
 have FV3 := hide ((uh FV2).keptR hk3 (by omega))
 clear hk3 hr3 C2 K2 R2 FP2 FV2
 go_wp2_with fail
 refine (small_any R m3 m3.length s3 _ (uh R3) (uh B3) g3 mo m4 s4 E4).mono ?_
 rintro z9 y4 ⟨rfl, hr4, hk4⟩
 have C4 := hide ((uh C3).keptR hk4 (by omega) (by omega))
 have K4 := hide ((uh K3).trans hk4)
 have R4 := hide hr4
 have z4 := hk4.size
 have FP4 := hide ((uh FP3).keptR hk4 (by omega))
 have FV4 := hide ((uh FV3).keptR hk4 (by omega))
 clear hk4 hr4 C3 K3 R3 FP3 FV3
 go_wp2_with fail
 refine (lfU_any R m4 m4.length s4 _ (uh R4) (by omega) B4 g4 H m5 s5 E5 NH eH).mono ?_
 rintro z9 y5 ⟨pH, cH, rfl, oH, hr5, hk5⟩
 obtain ⟨lH, fH⟩ := OwnU.pu oH
 have FH5 := hide fH
 have C5 := hide ((uh C4).keptR hk5 (by omega) (by omega))
 have K5 := hide ((uh K4).trans hk5)
 have R5 := hide hr5
 have z5 := hk5.size
 have FP5 := hide ((uh FP4).keptR hk5 (by omega))
 have FV5 := hide ((uh FV4).keptR hk5 (by omega))
 clear hk5 hr5 C4 K4 R4 FP4 FV4 oH fH
 go_wp2_with fail
 refine (number_any R m5 m5.length s5 _ (uh R5) (uh B5) g5 ep m6 s6 E6).mono ?_
 rintro z9 y6 ⟨rfl, hr6, hk6⟩
 have C6 := hide ((uh C5).keptR hk6 (by omega) (by omega))
 have K6 := hide ((uh K5).trans hk6)
 have R6 := hide hr6
 have z6 := hk6.size
 have FP6 := hide ((uh FP5).keptR hk6 (by omega))
 have FV6 := hide ((uh FV5).keptR hk6 (by omega))
 have FH6 := hide ((uh FH5).keptR hk6 (by omega))
 clear hk6 hr6 C5 K5 R5 FP5 FV5 FH5
 go_wp2_with fail
 refine (number_any R m6 m6.length s6 _ (uh R6) (uh B6) g6 ge m7 s7 E7).mono ?_
 rintro z9 y7 ⟨rfl, hr7, hk7⟩
 have C7 := hide ((uh C6).keptR hk7 (by omega) (by omega))
 have K7 := hide ((uh K6).trans hk7)
 have R7 := hide hr7
 have z7 := hk7.size
 have FP7 := hide ((uh FP6).keptR hk7 (by omega))
 have FV7 := hide ((uh FV6).keptR hk7 (by omega))
 have FH7 := hide ((uh FH6).keptR hk7 (by omega))
 clear hk7 hr7 C6 K6 R6 FP6 FV6 FH6
 have r0 := (uh C7).1 0 _ rfl
 have r1 := (uh C7).1 1 _ rfl
 have r2 := (uh C7).1 2 _ rfl
 have r3 := (uh C7).1 3 _ rfl
 have r4 := (uh C7).1 4 _ rfl
 have r5 := (uh C7).1 5 _ rfl
 have r6 := (uh C7).1 6 _ rfl
 have r7 := (uh C7).1 7 _ rfl
 have rf := (uh C7).2
 go_wp2
 obtain ⟨Z, hZ⟩ : ∃ Z, Z = ((((((((y7.setCell ⟨w.heap.size, 0, none⟩ (.slice pP NP cP)).setCell ⟨w.heap.size, 1, none⟩ (.slice pV NV cV)).setCell ⟨w.heap.size, 2, none⟩ (.int .u64 ow)).setCell ⟨w.heap.size, 3, none⟩ (.int .i64 mo)).setCell ⟨w.heap.size, 4, none⟩ (.slice pH NH cH)).setCell ⟨w.heap.size, 5, none⟩ (.int .u64 ep)).setCell ⟨w.heap.size, 6, none⟩ (.int .u64 ge)).setCell ⟨w.heap.size, 7, none⟩ (.slice none 0 0)) := ⟨_, rfl⟩
 have hkz : ∀ b, b ≠ w.heap.size → Z.heap[b]? = y7.heap[b]? := fun b hb => by
  rw [hZ]
  iterate 8 rw [RowKit.Below.heap_setCell _ _ _ _ hb]
 obtain ⟨ed, em, es⟩ := uh ED
 subst em es
 refine bodyPost_ret (v := .agg #[.slice pP NP cP, .slice pV NV cV, .int .u64 ow, .int .i64 mo, .slice pH NH cH, .int .u64 ep, .int .u64 ge, .slice none 0 0]) (by simp [results, Tryz.results40, go_sem, r0, r1, r2, r3, r4, r5, r6, r7]) rfl ?_
 rw [← hZ]
 have k0 := (uh FP7).far (z0 := w.heap.size) (by omega) hkz
 have k1 := (uh FV7).far (z0 := w.heap.size) (by omega) hkz
 have k4 := (uh FH7).far (z0 := w.heap.size) (by omega) hkz
 rw [← uh eP] at k0
 rw [← uh eV] at k1
 rw [← uh eH] at k4
 obtain ⟨en, apn⟩ := elNo.mk4 (nd := ⟨P, V, ow, mo, H, ep, ge, []⟩) (B := w.heap.size) k0 k1 k4 (PU.nil Z y7.heap.size y7.heap.size) (by omega) (by omega) (by omega) (by omega) (by omega) (by omega) (by omega) (by omega) (by omega) (by omega)
 dsimp only at en
 rw [uh eP, uh eV, uh eH] at en
 rw [ed]
 refine ⟨_, _, _, _, _, _, _, _, _, _, _, _, _, _, rfl, en, apn, (uh R7).keep fun b hb => hkz b (by omega), ?_⟩
 rw [hZ]
 exact ((((((((uh K7).setN (by simp) _).setN (by simp) _).setN (by simp) _).setN (by simp) _).setN (by simp) _).setN (by simp) _).setN (by simp) _).setN (by simp) _
set_option maxHeartbeats 3200000 in
theorem lfN_any (R : Nat) (m : List Int) (n : Nat) (sh : Bool) (w : World) (h : Rdr w R m n sh) (hR : R < w.heap.size) (hb : Hid (Byt m)) (hl : n ≤ 1048576) (xs : List Nod) (m' : List Int) (sh' : Bool) (e : Hid (lF sNo (m, sh) = (xs, m', sh'))) (N : Nat) (eN : Hid (xs.length = N)) :
  Calls Tryz.prog 39 #[.pointer (some ⟨R, 0, none⟩), .func (.func 40) #[.pointer (some ⟨R, 0, none⟩)] #[]] w fun r w' => ∃ p' c', r = .returned (.slice p' N c') ∧ (∃ Ls, OwnT elNo 66 8 w.heap.size w' ((.slice p' N c')) xs Ls) ∧ Rdr w' R m' m'.length sh' ∧ Kept [blk R] w w' := by
 obtain ⟨iu, hiu, uz0, uz1, uz2⟩ := info_parts Tryz.infoNod
 have hmn : m.length = n := h.1
 obtain ⟨⟨x, m1, s1⟩, e1⟩ : ∃ y, Hid (sNs (m, sh) = y) := ⟨_, (by show _ = _; rfl)⟩
 have ok1 := sNs_ok (m, sh) (uh hb) (by rw [hmn]; exact hl)
 rw [uh e1] at ok1
 obtain ⟨hx, hb1, hl1, -⟩ := ok1
 dsimp only at hl1
 obtain ⟨X, rfl⟩ : ∃ v : Nat, x = (v : Int) := ⟨x.toNat, by have := hx.1; omega⟩
 have hX : (X : Int) < 18446744073709551616 := hx.2
 have e2 : Hid (lfK sNo X [] (m1, s1) = (xs, m', sh')) := by
  have := uh e
  rw [lF, uh e1] at this
  exact this
 have HB1 := hide hb1
 clear hx hb1
 go_enter Tryz.func39, Tryz.ntmps39
 go_wp2_with fail
 refine (number_any R m n sh _ h (uh hb) hl X m1 s1 e1).mono ?_
 rintro r w1 ⟨rfl, hR1, hk1⟩
 have HR1 := hide hR1
 have HK1 := hide hk1
 clear hR1 hk1 h
 go_wp2
 go_loopw [5, 9] (fun lv iv wr => ∃ (i : Nat) (acc : List Nod) (k : Nat) (m2 : List Int) (s2 : Bool) (n2 : Nat) (p : Option Addr) (c : Nat), i ≤ X ∧ lv = .slice p k c ∧ iv = .int .u64 i ∧ k + n2 ≤ 1048576 ∧ Hid (acc.length = k) ∧ Hid (m2.length = n2) ∧ Hid (lfK sNo (X - i) acc (m2, s2) = (xs, m', sh')) ∧ Hid (Byt m2) ∧ Hid (Rdr wr R m2 n2 s2) ∧ Hid (∃ Ls, OwnT elNo 66 8 w.heap.size wr ((.slice p k c)) acc Ls) ∧ Hid (Kept [blk R] w wr)) (fun _ iv _ => X - (intOf iv).toNat)
 case atStart => exact ⟨0, [], 0, m1, s1, m1.length, none, 0, Nat.zero_le _, rfl, rfl, by omega, (by show _ = _; rfl), (by show _ = _; rfl), e2, HB1, HR1, ⟨[], OwnT.nil _ _ _ _ _⟩, HK1⟩
 case round =>
  clear HR1 HK1 HB1 e2
  obtain ⟨i, acc, k, m2, s2, n2, p, c, hi, rfl, rfl, hkn, ek, en2, e3, hb2, hr2, ho2, hk2⟩ := hrel
  have hzr := (uh hk2).size
  by_cases hlt : i < X
  ·have hlt' : (i : Int) < (X : Int) := by omega
   have wi : IntKind.u64.wrap ((i : Int) + 1) = ((i + 1 : Nat) : Int) := by rw [IntKind.wrap_u64]; omega
   obtain ⟨⟨d, m3, s3⟩, e4⟩ : ∃ y, Hid (sNo (m2, s2) = y) := ⟨_, (by show _ = _; rfl)⟩
   have ok3 := sNo_ok (m2, s2) (uh hb2) (by show m2.length ≤ _; rw [uh en2]; omega)
   rw [uh e4] at ok3
   obtain ⟨-, hb3, hl3, hl4⟩ := ok3
   dsimp only at hl3 hl4
   rw [uh en2] at hl3 hl4
   have e5 : Hid (lfK sNo (X - i - 1 + 1) acc (m2, s2) = (xs, m', sh')) := by rw [show X - i - 1 + 1 = X - i by omega]; exact e3
   have HB3 := hide hb3
   clear hb3
   go_wp2_with fail
   refine (node_any2 R m2 n2 s2 _ (uh hr2) (by omega) hb2 (by omega) d m3 s3 e4).mono ?_
   rintro r w3 ⟨pP, NP, cP, pV, NV, cV, ow, mo, pH, NH, cH, ep, ge, Ae, rfl, eln, apE, hr3, hk3⟩
   have EE := hide (And.intro eln (And.intro trivial apE))
   clear eln apE
   have HK3 := hide ((uh hk2).trans hk3)
   have HR3 := hide hr3
   have z3 := hk3.size
   have hr4 : Rdr (w3.alloc (.cells #[.slice pP NP cP, .slice pV NV cV, .int .u64 ow, .int .i64 mo, .slice pH NH cH, .int .u64 ep, .int .u64 ge, .slice none 0 0] 66)) R m3 m3.length s3 := hr3.below ((Below.refl _ _).alloc (Nat.le_refl _) _) (by omega)
   obtain ⟨l3, f3, pr, cr, ⟨g0, g1⟩, -⟩ := hr4
   obtain ⟨Ls, hoT⟩ := uh ho2
   have O3 := hide (hoT.keptR elNo.keep hk3 (by omega))
   have HLT := hide hoT.lt
   clear hoT
   clear hr3 hk3
   cases s3 with
   | true =>
    clear hl4
    have e6 : xs = [] ∧ m' = m3 ∧ sh' = true := by
     have := uh e5
     rw [lfK, uh e4, if_pos rfl] at this
     simp only [Prod.mk.injEq] at this
     exact ⟨this.1.symm, this.2.1.symm, this.2.2.symm⟩
    obtain ⟨rfl, rfl, rfl⟩ := e6
    have hN0 : N = 0 := (uh eN).symm
    subst hN0
    go_wp2
    go_ret
    exact ⟨none, 0, rfl, ⟨[], OwnT.nil _ _ _ _ _⟩, (uh HR3).below ((Below.refl _ _).alloc (Nat.le_refl _) _) (by omega), (uh HK3).alloc _⟩
   | false =>
    have hl5 := hl4 rfl
    clear hl4
    have e6 : Hid (lfK sNo (X - (i + 1)) (acc ++ [d]) (m3, false) = (xs, m', sh')) := by
     have := uh e5
     rw [lfK, uh e4, if_neg (by simp)] at this
     exact this
    obtain ⟨n3, en3⟩ : ∃ k, Hid (m3.length = k) := ⟨_, (by show _ = _; rfl)⟩
    rw [uh en3] at hl5 hl3 HR3 l3 g0
    clear l3 g0
    obtain ⟨v3, hv3⟩ : ∃ V, V = (w3.alloc (.cells #[.slice pP NP cP, .slice pV NV cV, .int .u64 ow, .int .i64 mo, .slice pH NH cH, .int .u64 ep, .int .u64 ge, .slice none 0 0] 66)).alloc (.cells #[.slice pP NP cP, .slice pV NV cV, .int .u64 ow, .int .i64 mo, .slice pH NH cH, .int .u64 ep, .int .u64 ge, .slice none 0 0] 66) := ⟨_, rfl⟩
    have hb3 : Below w3.heap.size w3 v3 := by rw [hv3]; exact ((Below.refl _ _).alloc (Nat.le_refl _) _).alloc (by simp) _
    have hcC : ∀ i u, ([.slice pP NP cP, .slice pV NV cV, .int .u64 ow, .int .i64 mo, .slice pH NH cH, .int .u64 ep, .int .u64 ge, .slice none 0 0] : List Value)[i]? = some u → v3.cell? ⟨w3.heap.size + 1, i, none⟩ = some u := by
     have e0 : (w3.alloc (.cells #[.slice pP NP cP, .slice pV NV cV, .int .u64 ow, .int .i64 mo, .slice pH NH cH, .int .u64 ep, .int .u64 ge, .slice none 0 0] 66)).heap.size = w3.heap.size + 1 := by simp
     rw [hv3, ← e0]
     exact cells_new
    have HCC := hide hcC
    have z4 : v3.heap.size = w3.heap.size + 2 := by rw [hv3]; simp
    have kE : ∀ a ∈ Ae, v3.heap[a.b]? = w3.heap[a.b]? := fun a ha => hb3.block _ ((uh EE).2.2.inn.lt ha)
    have elx : elNo v3 d [.slice pP NP cP, .slice pV NV cV, .int .u64 ow, .int .i64 mo, .slice pH NH cH, .int .u64 ep, .int .u64 ge, .slice none 0 0] Ae := elNo.keep _ _ _ _ _ (uh EE).1 kE
    have apx : Apt wr.heap.size v3 Ae := (uh EE).2.2.keep kE
    obtain ⟨row, hrow0, happ⟩ := ((uh O3).below elNo.keep hb3).appM elNo.keep elx rfl apx (by omega) (fun a ha => ((uh HLT).2 a ha).2) (fun b eb => ((uh HLT).1 b eb).2)
    have hlO : Hid (∀ b, (Value.slice p k c).ownBlock = some b → w.heap.size ≤ b) := fun b eb => ((uh O3).lt.1 b eb).1
    rw [uh ek] at hrow0 happ
    have HAPP := hide happ
    have HROW := hide hrow0
    clear happ hrow0
    have R4 := hide ((uh HR3).below hb3 (by omega))
    have K4 := hide ((uh HK3).trans (Kept.of_below hb3))
    clear hcC
    go_wp2_with (at_builtin; rw [← hv3]; refine wpList_append_fr rfl _ _ 25 rfl w.heap.size 66 iu _ 8 128 Tryz.underlying25 hiu uz0 uz1 uz2 rfl (by decide) (.slice p k c) k _ rfl (uh HROW) (w3.heap.size + 1) 1 1 [.slice pP NP cP, .slice pV NV cV, .int .u64 ow, .int .i64 mo, .slice pH NH cH, .int .u64 ep, .int .u64 ge, .slice none 0 0] rfl rfl (uh HCC) (fun u hu => by simp at hu; rcases hu with rfl | rfl | rfl | rfl | rfl | rfl | rfl | rfl <;> rfl) (by unfold maxLen; omega) (by omega) (by omega) ?_)
    intro v' w9 hrow hg hfr0
    have hfr : ∀ g, v'.ownBlock = some g → (Value.slice p k c).ownBlock = some g ∨ v3.heap.size ≤ g := fun g eg => by have := hfr0 g eg; rw [hv3]; simpa using this
    rw [← hv3] at hg
    obtain ⟨sn, pN, cN, rfl⟩ := uh HAPP v' w9 hrow hg hfr
    have SN : Hid (∃ Ls, OwnT elNo 66 8 w.heap.size w9 ((.slice pN (k + 1) cN)) (acc ++ [d]) Ls) := ⟨_, sn⟩
    have K9 := hide ((uh K4).grownR hg (fun b eb => uh hlO b eb))
    have R9 := hide ((uh R4).keep fun b hbR => hg.block b (by omega) (fun eb => by have := uh hlO b eb.symm; omega))
    have EK : Hid ((acc ++ [d]).length = k + 1) := by show _ = _; rw [List.length_append, uh ek]; rfl
    clear hrow hg hfr hfr0 sn hv3 hb3 g1 f3
    go_wp2
    go_roundw
    case rel => exact ⟨i + 1, acc ++ [d], k + 1, m3, false, n3, pN, cN, by omega, rfl, by go_num, by omega, EK, en3, e6, HB3, R9, SN, K9⟩
    case measure => simp [intOf]; omega
  ·have hlt' : ¬ (i : Int) < (X : Int) := by omega
   have eiX : X = i := by omega
   have e6 : xs = acc ∧ m' = m2 ∧ sh' = s2 := by
    have := uh e3
    rw [show X - i = 0 by omega, lfK] at this
    simp only [Prod.mk.injEq] at this
    exact ⟨this.1.symm, this.2.1.symm, this.2.2.symm⟩
   obtain ⟨rfl, rfl, rfl⟩ := e6
   have hNk : N = k := (uh eN).symm.trans (uh ek)
   subst hNk
   have R9 : Hid (Rdr wr R m' m'.length sh') := by rw [uh en2]; exact hr2
   go_wp2
   go_ret
   exact ⟨p, c, rfl, uh ho2, uh R9, uh hk2⟩
end Go.Proofs.YtnbgnhhnpmmloaaGreatDoor
