import Derived.Test.YtekooebndehokaaDoorDOz
import Derived.Test.YtekooebndehokaaDoorDOy
namespace Go.Proofs.YtekooebndehokaaDoor
open Go.ChangeShapes Go.WideShapes Go.ChangeAt Go.RowKit
set_option linter.unusedVariables false
set_option linter.unusedSimpArgs false
set_option maxRecDepth 100000

/-- where a slice of the call's own lies -/
def Adr (w : World) (q : Option Addr) (d : Nat) : Prop := ((q = none ∧ d = 0) ∨ ∃ b o, q = some ⟨b, o, none⟩) ∧ ∀ b o, q = some ⟨b, o, none⟩ → b < w.heap.size
theorem Own.adr {B : Nat} {w : World} {q : Option Addr} {n d : Nat} {l : List Int} (h : Own B w (.slice q n d) l) : Adr w q d := by
  refine ⟨?_, fun b o e => ?_⟩
  · rcases h.2 with ⟨e, h0⟩ | ⟨g, cap, cur, e, _⟩
    · simp only [Value.slice.injEq] at e; exact .inl ⟨e.1, e.2.2⟩
    · simp only [Value.slice.injEq] at e; exact .inr ⟨g, 0, e.1⟩
  · subst e
    exact (h.lt b rfl).2
/-- what a contract of DecodeOp says: both sides give it -/
abbrev DecRes (F : Nat) (w : World) (l : List Int) (n : Nat) (k s f : Int) (P V : List Int) (NP NV : Nat) (code : Int) : Prop :=
  ∀ (q : Option Addr) (d : Nat) (w' : World), Below w.heap.size w w' → Rd w' (.slice q n d) l → n ≤ d → Adr w' q d → Calls Tryd.prog F #[.slice q n d] w' fun r w'' => ∃ p' c' q' d' B, r = .returned (.tuple #[opV k s (.slice p' NP c') f (.slice q' NV d') 0 0, .int .i64 code]) ∧ w'.heap.size ≤ B ∧ Own w'.heap.size w'' (.slice p' NP c') P ∧ Btw w'.heap.size B (.slice p' NP c') ∧ Own B w'' (.slice q' NV d') V ∧ Below w'.heap.size w' w''
theorem decNil {F : Nat} {w : World} {l : List Int} {n : Nat} (h : ∀ (q : Option Addr) (d : Nat) (w' : World), Below w.heap.size w w' → Rd w' (.slice q n d) l → n ≤ d → Adr w' q d → Calls Tryd.prog F #[.slice q n d] w' fun e w'' => e = .returned (.tuple #[opV 0 0 (.slice none 0 0) 0 (.slice none 0 0) 0 0, .int .i64 13]) ∧ Below w'.heap.size w' w'') : DecRes F w l n 0 0 0 [] [] 0 0 13 :=
  fun q d w' hb hr hn ha => (h q d w' hb hr hn ha).mono (by
    rintro r w'' ⟨rfl, h2⟩
    exact ⟨none, 0, none, 0, w'.heap.size, rfl, Nat.le_refl _, World.ownsRow_nil _ _ _ _, (fun b e => by simp [Value.ownBlock] at e), World.ownsRow_nil _ _ _ _, h2⟩)
theorem opB_byt {k s f : Nat} {P V : List Int} (hk : k < 256) (hs : s < 18446744073709551616) (hf : f < 256) (hP : Byt P) (hV : Byt V) (lP : P.length ≤ 1048576) (lV : V.length ≤ 1048576) : Byt (opB k s P f V) :=
  Byt.app (fun z hz => by simp at hz; subst hz; omega) (Byt.app (vi_byt hs) (Byt.app (Byt.app (vi_byt (by omega)) hP) (Byt.app (fun z hz => by simp at hz; subst hz; omega) (Byt.app (vi_byt (by omega)) hV))))
theorem Dec.parts {l : List Int} {K S F : Nat} {P V : List Int} (h : Dec l K S P F V) : P.length ≤ l.length ∧ V.length ≤ l.length := by
  obtain ⟨_, _, _, _, _, _, e⟩ := h
  rw [e, opB, tx, tx]
  simp only [List.length_append, List.length_cons, List.length_nil]
  omega
theorem spec_no {w : World} {l : List Int} {n : Nat} (en : l.length = n) (hb : Byt l) (hl : n ≤ 1048576) (hno : ∀ K S P F V, ¬ Dec l K S P F V) : DecRes 19 w l n 0 0 0 [] [] 0 0 13 :=
  decNil fun q d w' hbel hr hn ha => by
    obtain ⟨⟨k, o1⟩, e1⟩ : ∃ y, oB (some l) = y := ⟨_, rfl⟩
    obtain ⟨⟨s, o2⟩, e2⟩ : ∃ y, oV o1 = y := ⟨_, rfl⟩
    obtain ⟨⟨P, o3⟩, e3⟩ : ∃ y, oT o2 = y := ⟨_, rfl⟩
    obtain ⟨⟨f, o4⟩, e4⟩ : ∃ y, oB o3 = y := ⟨_, rfl⟩
    obtain ⟨⟨V, o5⟩, e5⟩ : ∃ y, oT o4 = y := ⟨_, rfl⟩
    exact specDec_no q d n l en w' hr hb hl hn k s f P V o1 o2 o3 o4 o5 e1 e2 e3 e4 e5 P.length V.length rfl rfl (fun K S F _ _ _ => hno K S P F V)
theorem spec_yes {w : World} {l : List Int} {n : Nat} (en : l.length = n) (hb : Byt l) (hl : n ≤ 1048576) {K S F : Nat} {P V : List Int} (h : Dec l K S P F V) : DecRes 19 w l n K S F P V P.length V.length 0 := fun q d w' hbel hr hn ha => by
  have hp := h.parts
  obtain ⟨r1, r2, r3, r4, r5⟩ := read_opB K S F P V h.2.2.1 (by omega) (by omega)
  exact specDec_yes q d n l en w' hr hb hl hn K S F P V _ _ _ _ _ (by show oB (some l) = _; rw [h.2.2.2.2.2.2]; exact r1) r2 r3 r4 r5 P.length V.length rfl rfl K S F rfl rfl rfl rfl h
theorem small_c {m : List Int} {n : Nat} {t : Bool} (hm : m.length = n) (hb : Byt m) (hl : n ≤ 1048576) {x : Int} {m' : List Int} {t' : Bool} (e : sB m t = (x, m', t')) : SmallC m n t x m' m'.length t' := fun R w' h => small_any R m n t w' h hb hl x m' t' e
theorem number_c {m : List Int} {n : Nat} {t : Bool} (hb : Byt m) (hl : n ≤ 1048576) {x : Int} {m' : List Int} {t' : Bool} (e : sN 10 0 0 m t = (x, m', t')) : NumberC m n t x m' m'.length t' := fun R w' h => number_any R m n t w' h hb hl x m' t' e
theorem text_c {m : List Int} {n : Nat} {t : Bool} (hb : Byt m) (hl : n ≤ 1048576) {x m' : List Int} {t' : Bool} (e : sT m t = (x, m', t')) : TextC m n t x x.length m' m'.length t' := fun R w' h hR => text_any R m n t w' h hb hl hR x m' t' e x.length rfl
theorem impl_yes {w : World} {l : List Int} {n : Nat} (en : l.length = n) (hb : Byt l) (hl : n ≤ 1048576) (hT : Tab w) {K S F : Nat} {P V : List Int} (h : Dec l K S P F V) : DecRes 20 w l n K S F P V P.length V.length 0 := fun q d w' hbel hr hn ha => by
  have hp := h.parts
  obtain ⟨h1, h2, hS, hF, hfm, hj, hdl⟩ := id h
  have b1 : Byt (vi S ++ (tx P ++ ([(F : Int)] ++ tx V))) := fun z hz => hb z (by rw [hdl, opB]; exact List.mem_append_right _ hz)
  have b2 : Byt (tx P ++ ([(F : Int)] ++ tx V)) := fun z hz => b1 z (List.mem_append_right _ hz)
  have b3 : Byt ([(F : Int)] ++ tx V) := fun z hz => b2 z (List.mem_append_right _ hz)
  have b4 : Byt (tx V) := fun z hz => b3 z (List.mem_append_right _ hz)
  have l0 : l.length = 1 + (vi S ++ (tx P ++ ([(F : Int)] ++ tx V))).length := by rw [hdl, opB, List.length_append]; rfl
  have l1 : (vi S ++ (tx P ++ ([(F : Int)] ++ tx V))).length = (vi S).length + (tx P ++ ([(F : Int)] ++ tx V)).length := List.length_append
  have l2 : (tx P ++ ([(F : Int)] ++ tx V)).length = (tx P).length + ([(F : Int)] ++ tx V).length := List.length_append
  have l3 : ([(F : Int)] ++ tx V).length = 1 + (tx V).length := List.length_append
  have hTw : Tab w' := fun k a b => (hT k a b).below hbel
  have hrow := hTw K h1 h2
  rw [show (rowOf K).2.2.2.2.2.2 = true from hj] at hrow
  have e5 : sT (tx V) false = (V, [], false) := by have := sT_tx V [] false (by omega); rwa [List.append_nil] at this
  refine implDec_yes q d n l en w' hr hl hn ha.1 ha.2 hTw K S F P V _ _ _ _ [] _ _ _ _ _ P.length V.length false false false false false
    (small_c (m' := vi S ++ (tx P ++ ([(F : Int)] ++ tx V))) en hb hl (by rw [hdl]; rfl)) (number_c b1 (by omega) (sN_vi S _ false hS)) (text_c b2 (by omega) (sT_tx P _ false (by omega))) (small_c (m' := tx V) rfl b3 (by omega) rfl) (text_c b4 (by omega) e5)
    (opB K S P F V) (opB K S P F V).length rfl (by rw [← hdl]; exact hb) hb ?_ (by show _ = _; rw [← hdl]; simp) rfl
  intro q1 q2 d1 d2 w2 hb2 g1 g2
  have hrow2 := hrow.below hb2
  exact implEncOp_yes K h1 h2 _ _ _ _ _ _ S F hS hF 0 0 q1 q2 _ _ d1 d2 P V rfl rfl w2 g1 g2 (by omega) (by omega) hrow2 hfm _ rfl
theorem enc_impl {w : World} (hT : Tab w) (k s f : Int) (P V : List Int) (s0 : 0 ≤ s) (s1 : s < 18446744073709551616) (hP : Byt P) (hV : Byt V) (lP : P.length ≤ 1048576) (lV : V.length ≤ 1048576) :
    ∃ LE : List Int, Byt LE ∧ EncRes 14 w k s f 0 0 P.length V.length LE.length P V LE ∧ (LE = [] ∨ ∃ K S F : Nat, k = K ∧ s = S ∧ f = F ∧ ∀ l, LE = l → Dec l K S P F V) := by
  by_cases hk : 1 ≤ k ∧ k ≤ 13
  · obtain ⟨S, rfl⟩ : ∃ S : Nat, s = (S : Int) := ⟨s.toNat, by omega⟩
    obtain ⟨K, rfl⟩ : ∃ K : Nat, k = (K : Int) := ⟨k.toNat, by omega⟩
    have h1 : 1 ≤ K := by omega
    have h2 : K ≤ 13 := by omega
    by_cases hB : (fmR K S f P.length V.length 0 0 && joR K) = true
    · obtain ⟨hf, hj⟩ := Bool.and_eq_true_iff.1 hB
      obtain ⟨f0, f2⟩ := flag_bound h1 h2 hf
      obtain ⟨F, rfl⟩ : ∃ F : Nat, f = (F : Int) := ⟨f.toNat, by omega⟩
      refine ⟨opB K S P F V, opB_byt (by omega) (by omega) (by omega) hP hV lP lV, ?_, .inr ⟨K, S, F, rfl, rfl, rfl, fun l e => ⟨h1, h2, by omega, by omega, hf, hj, e.symm⟩⟩⟩
      intro q1 q2 d1 d2 w2 hb2 g1 g2
      have hrow2 := (hT K h1 h2).below hb2
      rw [show (rowOf K).2.2.2.2.2.2 = true from hj] at hrow2
      exact implEncOp_yes K h1 h2 _ _ _ _ _ _ S F (by omega) (by omega) 0 0 q1 q2 _ _ d1 d2 P V rfl rfl w2 g1 g2 lP lV hrow2 hf _ rfl
    · have hB' : (fmR K S f P.length V.length 0 0 && joR K) = false := by simpa using hB
      refine ⟨[], fun z hz => by simp at hz, encNil ?_, .inl rfl⟩
      intro q1 q2 d1 d2 w' hb
      exact implEncOp_no K h1 h2 _ _ _ _ _ _ _ S f 0 0 q1 q2 _ _ d1 d2 w' ((hT K h1 h2).below hb) _ rfl hB'
  · refine ⟨[], fun z hz => by simp at hz, encNil ?_, .inl rfl⟩
    intro q1 q2 d1 d2 w' hb
    exact implEncOp_out k s f 0 0 q1 q2 _ _ d1 d2 w' (by omega)
theorem impl_no {w : World} {l : List Int} {n : Nat} (en : l.length = n) (hb : Byt l) (hl : n ≤ 1048576) (hT : Tab w) (hno : ∀ K S P F V, ¬ Dec l K S P F V) : DecRes 20 w l n 0 0 0 [] [] 0 0 13 :=
  decNil fun q d w' hbel hr hn ha => by
    obtain ⟨⟨k, m1, t1⟩, e1⟩ : ∃ y, sB l false = y := ⟨_, rfl⟩
    obtain ⟨⟨s, m2, t2⟩, e2⟩ : ∃ y, sN 10 0 0 m1 t1 = y := ⟨_, rfl⟩
    obtain ⟨⟨P, m3, t3⟩, e3⟩ : ∃ y, sT m2 t2 = y := ⟨_, rfl⟩
    obtain ⟨⟨f, m4, t4⟩, e4⟩ : ∃ y, sB m3 t3 = y := ⟨_, rfl⟩
    obtain ⟨⟨V, m5, t5⟩, e5⟩ : ∃ y, sT m4 t4 = y := ⟨_, rfl⟩
    have B1 := sB_byt (sh := false) hb
    rw [e1] at B1
    obtain ⟨B1, _, _, L1⟩ := B1
    have B2 := sN_byt 10 0 0 m1 t1 B1 (by omega)
    rw [e2] at B2
    obtain ⟨B2, L2, s0, s1⟩ := B2
    have B3 := sT_byt (sh := t2) B2
    rw [e3] at B3
    obtain ⟨BP, B3, LP, L3⟩ := B3
    have B4 := sB_byt (sh := t3) B3
    rw [e4] at B4
    obtain ⟨B4, _, _, L4⟩ := B4
    have B5 := sT_byt (sh := t4) B4
    rw [e5] at B5
    obtain ⟨BV, _, LV, _⟩ := B5
    dsimp only at B1 L1 B2 L2 s0 s1 BP B3 LP L3 B4 L4 BV LV
    have hTw : Tab w' := fun k a b => (hT k a b).below hbel
    obtain ⟨LE, BL, hE, hLE⟩ := enc_impl hTw k s f P V s0 s1 BP BV (by omega) (by omega)
    refine implDec_no q d n l en w' hr hl hn ha.1 ha.2 hTw k s f P V m1 m2 m3 m4 m5 _ _ _ _ _ P.length V.length t1 t2 t3 t4 t5
      (small_c en hb hl e1) (number_c B1 (by omega) e2) (text_c B2 (by omega) e3) (small_c rfl B3 (by omega) e4) (text_c B4 (by omega) e5)
      LE LE.length rfl BL hb hE (decide (LE = l)) rfl ?_
    by_cases hd : LE = l
    · left
      rcases hLE with h0 | ⟨K, S, F, _, _, _, h⟩
      · have hl0 : l = [] := by rw [← hd, h0]
        have h1 : t1 = true := by have := congrArg (fun y => y.2.2) e1; rw [hl0] at this; exact this.symm
        have h2 : t2 = true := by have := sN_mono 10 0 0 m1 t1 h1; rw [e2] at this; exact this
        have h3 : t3 = true := by have := sT_mono (m := m2) h2; rw [e3] at this; exact this
        have h4 : t4 = true := by have := sB_mono (m := m3) h3; rw [e4] at this; exact this
        have := sT_mono (m := m4) h4
        rw [e5] at this
        exact this
      · exact absurd (h l hd) (hno K S P F V)
    · right
      simpa using hd
end Go.Proofs.YtekooebndehokaaDoor
