/- Walk: the law FracsMakes. -/
import Derived.Test.YtgpoljbccimkjaaGreatDoorBookB
import Derived.Test.YtgpoljbccimkjaaGreatDoorRuns
import Derived.Test.YtgpoljbccimkjaaGreatDoorQB
import Derived.Test.YtgpoljbccimkjaaGreatDoorOwn2
import Derived.Test.YtgpoljbccimkjaaGreatDoorTab
namespace Go.Proofs.YtgpoljbccimkjaaGreatDoor
set_option linter.unusedSimpArgs false
set_option linter.unusedVariables false
open Go.RowKit Go.Shelf

/-- Beside the book p and its row vr all cells stay as they are. -/
def FarB (p : Nat) (vr : Value) (w w' : World) : Prop := ∀ q i, q < w.heap.size → q ≠ p → vr.ownBlock ≠ some q → w'.cell? ⟨q, i, none⟩ = w.cell? ⟨q, i, none⟩

set_option maxRecDepth 100000 in
set_option maxHeartbeats 4000000 in
theorem keepLimb_far (B p n c : Nat) (a : Option Addr) (vr : Value) (E : List Ent) (w : World) (hb : BookAt w B p vr E) (hB : B ≤ w.heap.size) (hn : E.length ≤ 1000) :
    Calls Tryz.prog 167 #[.pointer (some ⟨p, 0, none⟩), .slice a n c] w fun e w' => e = .returned (.tuple #[]) ∧ (∃ vr', BookAt w' B p vr' (E ++ [⟨.slice a n c, nil0, E.length + 1⟩])) ∧ Below B w w' ∧ FarB p vr w w' := by
  obtain ⟨i0, hi, hz0, hz1, hz2⟩ := info_parts infoHL
  obtain ⟨hbox, hrow, hne, hBp⟩ := hb
  have hplt := hbox.lt
  have k0 := hbox.at0
  have f0 := (hbox 0 (by simp)).2
  obtain ⟨W0, e0, hx, hrow0, hs0, HB0, HF0⟩ : ∃ W0, w.setCell ⟨p, 0, none⟩ (.int .i64 ((E.length : Int) + 1)) = W0 ∧ BoxV W0 p [.int .i64 ((E.length : Int) + 1), nil0, vr, nil0, nil0, nil0, nil0, nil0, nil0, nil0, nil0, nil0, nil0] ∧ W0.ownsRow B 138 3 vr E.length (rowCells E) ∧ W0.heap.size = w.heap.size ∧ Hid (Below B w W0) ∧ Hid (∀ q i, q ≠ p → W0.cell? ⟨q, i, none⟩ = w.cell? ⟨q, i, none⟩) := by
    refine ⟨_, rfl, fun i hi => ?_, row_set hrow (p := ⟨p, 0, none⟩) hne _, by simp, (Below.refl _ _).setCell (p := ⟨p, 0, none⟩) hBp _, fun q i hq => World.cell?_setCell_far _ _ _ _ (fun e => hq e.symm)⟩
    rw [World.frozen?_setCell]
    refine ⟨?_, (hbox i (by simpa using hi)).2⟩
    rcases Nat.eq_zero_or_pos i with rfl | hpos
    · rw [World.cell?_setCell_same _ _ _ k0]; rfl
    · rw [World.cell?_setCell_other _ _ _ _ (by simp), (hbox i (by simpa using hi)).1]
      obtain ⟨j, rfl⟩ : ∃ j, i = j + 1 := ⟨i - 1, by omega⟩
      rfl
  have HX := Lib.hid hx
  have HR := Lib.hid hrow0
  have k0' := hx.at0
  have k2 := hx.at2
  have f2 := (hx 2 (by simp)).2
  have hplt' : p < W0.heap.size := by omega
  clear hbox hrow hrow0 hx
  go_enter Tryz.func167, Tryz.ntmps167
  go_wp2_with fail
  go_region_law (refine step_append_lies _ rfl (.tmp 15) (.tmp 22) 33 rfl B 138 i0 _ 3 56 underHL hi hz0 hz1 hz2 rfl (by decide) vr E.length (rowCells E) (by simp [Act.eval, Act.put]) (row_below HR.out (by repeat (first | exact Below.refl _ _ | with_reducible refine Below.drew ?_ | with_reducible refine below_drewN ?_ _ | with_reducible refine Below.setCell ?_ (by first | (simp; done) | (simp; omega) | omega) _ | with_reducible refine Below.alloc ?_ (by first | (simp; done) | (simp; omega) | omega) _))) ⟨W0.heap.size, 0, none⟩ 1 1 [.slice a n c, .slice none 0 0, .int .i64 ((E.length : Int) + 1)] (by simp [Act.eval, Act.put]) rfl (World.news_of_block (heap_alloc_new _ _)) (by simp [Value.oneCell']) (by decide) (by unfold maxLen; omega) (by omega) (by simp; omega) _ rfl ?_; intro g cap w1 hown hgrow hat hlt; have hc2 : w1.cell? ⟨p, 2, none⟩ = some vr := Eq.trans (hgrow.cell_far ⟨p, 2, none⟩ (by simp; omega) (fun e => hne e.symm)) (Eq.trans (Below.cell (B := W0.heap.size) (w := W0) (by repeat (first | exact Below.refl _ _ | with_reducible refine Below.drew ?_ | with_reducible refine below_drewN ?_ _ | with_reducible refine Below.setCell ?_ (by first | (simp; done) | (simp; omega) | omega) _ | with_reducible refine Below.alloc ?_ (by first | (simp; done) | (simp; omega) | omega) _)) (p := ⟨p, 2, none⟩) hplt') k2); have hf2 : w1.frozen? ⟨p, 2, none⟩ = false := Eq.trans (hgrow.frozen_far ⟨p, 2, none⟩ (by simp; omega) (fun e => hne e.symm)) (Eq.trans (Below.frozen (B := W0.heap.size) (w := W0) (by repeat (first | exact Below.refl _ _ | with_reducible refine Below.drew ?_ | with_reducible refine below_drewN ?_ _ | with_reducible refine Below.setCell ?_ (by first | (simp; done) | (simp; omega) | omega) _ | with_reducible refine Below.alloc ?_ (by first | (simp; done) | (simp; omega) | omega) _)) (p := ⟨p, 2, none⟩) hplt') f2))
  all_goals
    go_end0
    obtain ⟨W2, hgr, hbel⟩ : ∃ W2 : World, W2.grownBy w1 vr.ownBlock ∧ Below W0.heap.size W0 W2 := ⟨_, hgrow, (by repeat (first | exact Below.refl _ _ | with_reducible refine Below.drew ?_ | with_reducible refine below_drewN ?_ _ | with_reducible refine Below.setCell ?_ (by first | (simp; done) | (simp; omega) | omega) _ | with_reducible refine Below.alloc ?_ (by first | (simp; done) | (simp; omega) | omega) _))⟩
    have hkd := keep_done HB0.out HX.out HR.out hne hBp (by omega) hbel hown hgr (hat.elim .inl fun h => .inr (by simp at h; omega))
    refine ⟨rfl, hkd.1, hkd.2, fun q i hq hqp hqv => ?_⟩
    refine Eq.trans (World.cell?_setCell_far _ _ _ _ (fun e => hqp e.symm)) ?_
    refine Eq.trans (hgr.cell_far ⟨q, i, none⟩ (by have := hbel.size; show q < _; omega) (fun e => hqv e.symm)) ?_
    exact Eq.trans (hbel.cell (p := ⟨q, i, none⟩) (by show q < _; omega)) (HF0.out q i hqp)

theorem Limbs_far (B p n c : Nat) (a : Option Addr) (vr : Value) (E : List Ent) (w : World) (hb : BookAt w B p vr E) (hB : B ≤ w.heap.size) (hn : E.length ≤ 1000) :
    Calls Tryz.prog 85 #[.pointer (some ⟨p, 0, none⟩), .slice a n c] w fun e w' => Kept B p (E ++ [⟨.slice a n c, nil0, E.length + 1⟩]) w e w' ∧ FarB p vr w w' := by
  have HB := Lib.hid hb
  clear hb
  go_enter Tryz.func85, Tryz.ntmps85
  go_wp2_with fail
  refine (keepLimb_far B p n c a vr E w HB.out hB hn).mono ?_
  rintro e w' ⟨rfl, h1, h2, h3⟩
  have H1 := Lib.hid h1
  have H3 := Lib.hid h3
  clear h1 h3
  go_wp2_with fail
  go_end0
  exact ⟨⟨rfl, H1.out, h2⟩, H3.out⟩

theorem Num_far (B p n c : Nat) (a : Option Addr) (s : Bool) (vr : Value) (E : List Ent) (w : World) (hb : BookAt w B p vr E) (hB : B ≤ w.heap.size) (hn : E.length ≤ 1000) :
    Calls Tryz.prog 22 #[.pointer (some ⟨p, 0, none⟩), .agg #[.bool s, .slice a n c]] w fun e w' => Kept B p (E ++ [⟨.slice a n c, nil0, E.length + 1⟩]) w e w' ∧ FarB p vr w w' := by
  obtain ⟨W0, e0, n1, hb0, hz0⟩ := box1 w (.bool s) (.slice a n c)
  have HB := Lib.hid (hb.below hb0)
  obtain ⟨c0, c1, -, -⟩ := n1
  have B0 := Lib.hid hb0
  clear hb hb0
  go_enter Tryz.func22, Tryz.ntmps22
  go_wp2_with fail
  clear e0
  refine (Limbs_far B p n c a vr E W0 HB.out (by omega) hn).mono ?_
  rintro e w' ⟨⟨rfl, h1, h2⟩, h3⟩
  have H1 := Lib.hid h1
  have H3 := Lib.hid h3
  clear h1 h3
  go_wp2_with fail
  go_end0
  exact ⟨⟨rfl, H1.out, (B0.out.mono hB).trans h2⟩, fun q i hq hqp hqv => (H3.out q i (by omega) hqp hqv).trans (B0.out.cell (p := ⟨q, i, none⟩) hq)⟩

theorem box_fr1 (w : World) (x0 x1 x2 x3 : Value) : ∃ W0, w.alloc (.cells #[x0, x1, x2, x3] 58) = W0 ∧ BoxV W0 w.heap.size [x0, x1, x2, x3] ∧ Below w.heap.size w W0 ∧ w.heap.size < W0.heap.size :=
  ⟨_, rfl, BoxV.new _ _ _, (Below.refl _ _).alloc (Nat.le_refl _) _, by simp⟩

set_option maxRecDepth 100000 in
set_option maxHeartbeats 2000000 in
theorem FracB_any (B p n c n' c' : Nat) (a a' : Option Addr) (s s' : Bool) (vr : Value) (E : List Ent) (w : World) (hb : BookAt w B p vr E) (hB : B ≤ w.heap.size) (hn : E.length ≤ 900) :
    Calls Tryz.prog 51 #[.pointer (some ⟨p, 0, none⟩), .agg #[.bool s, .slice a n c, .bool s', .slice a' n' c']] w fun e w' => Kept B p (E ++ [⟨.slice a n c, nil0, E.length + 1⟩] ++ [⟨.slice a' n' c', nil0, E.length + 2⟩]) w e w' := by
  have hpl : p < w.heap.size := hb.1.lt
  have hvl : ∀ q, vr.ownBlock = some q → q < w.heap.size := fun q hq => (hb.2.1.lt q hq).2
  obtain ⟨W0, e0, n1, hb0, hz0⟩ := box_fr1 w (.bool s) (.slice a n c) (.bool s') (.slice a' n' c')
  have HB := Lib.hid (hb.below hb0)
  have N1 := n1.keep
  have B0 := Lib.hid hb0
  have HE : Hid (B ≤ w.heap.size ∧ E.length ≤ 900 ∧ w.heap.size < W0.heap.size) := ⟨hB, hn, hz0⟩
  have HV : Hid (w.heap.size ≠ p ∧ vr.ownBlock ≠ some w.heap.size) := ⟨by omega, fun e => by have := hvl _ e; omega⟩
  obtain ⟨c0, c1, c2, c3⟩ := n1.c4
  clear hb hb0 n1 hB hn hvl hpl hz0
  go_enter Tryz.func51, Tryz.ntmps51
  go_wp2_with fail
  clear e0
  refine (Num_far B p n c a s vr E W0 HB.out (by have := HE.out; omega) (by have := HE.out; omega)).mono ?_
  rintro e w1 ⟨⟨rfl, ⟨vr1, h1⟩, hb1⟩, hf1⟩
  have H1 := Lib.hid h1
  have B1 := Lib.hid hb1
  obtain ⟨-, -, d2, d3⟩ := (N1.out _ (Below.refl _ _)).c4
  have k2 := (hf1 w.heap.size 2 HE.out.2.2 HV.out.1 HV.out.2).trans d2
  have k3 := (hf1 w.heap.size 3 HE.out.2.2 HV.out.1 HV.out.2).trans d3
  clear h1 hb1 hf1 c0 c1 c2 c3 d2 d3
  go_wp2_with fail
  refine (Num_any B p n' c' a' s' vr1 (E ++ [⟨.slice a n c, nil0, E.length + 1⟩]) w1 H1.out (by have := HE.out; have := B1.out.size; omega) (by have := HE.out; simp; omega)).mono ?_
  rintro e w2 ⟨rfl, h2, hb2⟩
  have H2 := Lib.hid h2
  have B2 := Lib.hid hb2
  clear h2 hb2 k2 k3
  go_wp2_with fail
  go_end0
  have hle : (E ++ [(⟨.slice a n c, nil0, E.length + 1⟩ : Ent)]).length = E.length + 1 := by simp
  have h3 := H2.out
  rw [hle] at h3
  exact ⟨rfl, h3, ((B0.out.mono HE.out.1).trans B1.out).trans B2.out⟩

end Go.Proofs.YtgpoljbccimkjaaGreatDoor

namespace Go.Proofs.YtgpoljbccimkjaaGreatDoor
set_option linter.unusedSimpArgs false
set_option linter.unusedVariables false
open Go.RowKit Go.Shelf

/-- The number above, the one below; both 0 with an error. -/
def mkP (s : Bool) (l : List Nat) (s' : Bool) (l' : List Nat) : Int := if divC s l s' l' = 0 then (Rat.divInt (valS s l) (valS s' l')).num else 0
def mkD (s : Bool) (l : List Nat) (s' : Bool) (l' : List Nat) : Int := if divC s l s' l' = 0 then ((Rat.divInt (valS s l) (valS s' l')).den : Int) else 0
theorem mk_none {s s' : Bool} {l l' : List Nat} {c : Int} (h : divC s l s' l' = c) (hc : c ≠ 0) : mkP s l s' l' = 0 ∧ mkD s l s' l' = 0 := by
  unfold mkP mkD
  rw [h, if_neg hc, if_neg hc]
  exact ⟨rfl, rfl⟩
theorem mk_some {s s' : Bool} {l l' : List Nat} (h : divC s l s' l' = 0) : mkP s l s' l' = (Rat.divInt (valS s l) (valS s' l')).num ∧ mkD s l s' l' = ((Rat.divInt (valS s l) (valS s' l')).den : Int) := by
  unfold mkP mkD
  rw [h, if_pos rfl, if_pos rfl]
  exact ⟨rfl, rfl⟩

/-- What Make answers, of its own. -/
def MkOwn (n : Nat) (w' : World) (e : Ending) (k : Nat) (C P Q : Int) : Prop := ∃ s a l c s' a' l' c', e = .returned (.tuple #[.agg #[.bool s, .slice a l.length c, .bool s', .slice a' l'.length c'], .int .i64 C]) ∧ OwnL n w' (.slice a l.length c) l ∧ OwnL n w' (.slice a' l'.length c') l' ∧ Apart (.slice a l.length c) (.slice a' l'.length c') ∧ OkAt w' (.agg #[.bool s, .slice a l.length c]) k P ∧ OkAt w' (.agg #[.bool s', .slice a' l'.length c']) k Q ∧ l.length ≤ k ∧ l'.length ≤ k
theorem mk_nothing (n : Nat) (W : World) (k : Nat) (C : Int) : MkOwn n W (.returned (.tuple #[frNone, .int .i64 C])) k C 0 0 :=
  ⟨false, none, [], 0, false, none, [], 0, rfl, OwnL.nil _ _, OwnL.nil _ _, (fun g h => by cases h), (OkAt.noughts W).wide (Nat.zero_le _), (OkAt.noughts W).wide (Nat.zero_le _), Nat.zero_le _, Nat.zero_le _⟩

set_option maxRecDepth 100000 in
set_option maxHeartbeats 4000000 in
theorem Make_arg {w : World} {s s' : Bool} {v v' : Value} {l l' : List Nat} (h : Lim w v l) (h' : Lim w v' l') (ho : okB s l = false ∨ okB s' l' = false) :
    Calls Tryz.prog 52 #[.agg #[.bool s, v], .agg #[.bool s', v']] w fun e w' => e = .returned (.tuple #[frNone, .int .i64 1]) ∧ Below w.heap.size w w' := by
  have HL := keepLimT h
  have HL' := keepLimT h'
  obtain ⟨a, c, rfl, -⟩ := h
  obtain ⟨a', c', rfl, -⟩ := h'
  obtain ⟨W0, e0, n1, n2, n4, hb0⟩ := box_red w (.bool s) (.slice a l.length c) (.bool s') (.slice a' l'.length c')
  have N1 := n1.keep
  have N2 := n2.keep
  have N4 := n4.keep
  have B0 := Lib.hid hb0
  obtain ⟨c0, c1, -, -⟩ := n1.c2
  clear n1 n2 n4 hb0
  go_enter Tryz.func52, Tryz.ntmps52
  go_wp2_with fail
  clear e0
  refine (check_any s _ l _ (HL.out _ B0.out)).mono ?_
  rintro e w1 ⟨rfl, hb1⟩
  have N2 := (N2.out _ hb1).keep
  have N4 := (N4.out _ hb1).keep
  have B1 := Lib.hid (Below.step B0.out hb1)
  clear hb1 c0 c1
  cases hx : okB s l with
  | false =>
    have hN := N4.out _ (Below.refl _ _)
    have N := Lib.hid hN
    obtain ⟨g0, g1, g2, g3⟩ := hN.c4
    obtain ⟨f0, f1, f2, f3⟩ := hN.f4
    clear hx ho hN
    go_wp2_with fail
    obtain ⟨W', e, hst, hbx⟩ := N.out.store (ys := [.bool false, .slice none 0 0, .bool false, .slice none 0 0]) rfl rfl
    simp only [setAll] at e
    rw [e]
    exact ret_frn (t := 4) (s0 := 5) rfl rfl rfl rfl hbx ⟨rfl, hst.below w (by omega) B1.out⟩
  | true =>
    have ho' : okB s' l' = false := by
      rcases ho with h | h
      · rw [h] at hx; cases hx
      · exact h
    have HO := Lib.hid ho'
    obtain ⟨d0, d1, -, -⟩ := (N2.out _ (Below.refl _ _)).c2
    clear hx ho ho'
    go_wp2_with fail
    refine (check_any s' _ l' _ (HL'.out _ B1.out)).mono ?_
    rintro e w2 ⟨rfl, hb2⟩
    rw [HO.out]
    have B2 := Lib.hid (Below.step B1.out hb2)
    have hN := N4.out _ hb2
    have N := Lib.hid hN
    obtain ⟨g0, g1, g2, g3⟩ := hN.c4
    obtain ⟨f0, f1, f2, f3⟩ := hN.f4
    clear hN hb2 d0 d1
    go_wp2_with fail
    obtain ⟨W', e, hst, hbx⟩ := N.out.store (ys := [.bool false, .slice none 0 0, .bool false, .slice none 0 0]) rfl rfl
    simp only [setAll] at e
    rw [e]
    exact ret_frn (t := 4) (s0 := 5) rfl rfl rfl rfl hbx ⟨rfl, hst.below w (by omega) B2.out⟩

theorem Make_both {w : World} {s s' : Bool} {v v' : Value} {l l' : List Nat} {k : Nat} (h : Lim w v l) (h' : Lim w v' l') (hl : l.length ≤ k) (hl' : l'.length ≤ k) (hk : k ≤ 900000) :
    Calls Tryz.prog 52 #[.agg #[.bool s, v], .agg #[.bool s', v']] w fun e w' => MkOwn w.heap.size w' e k (divC s l s' l') (mkP s l s' l') (mkD s l s' l') ∧ Below w.heap.size w w' := by
  rcases div_forms s l s' l' with ⟨ho, h1, -, -⟩ | ⟨ho, ho', hz, h1, -, -⟩ | ⟨ho, ho', hz, h1, -, -⟩
  · rw [(mk_none h1 (by decide)).1, (mk_none h1 (by decide)).2, h1]
    refine (Make_arg h h' ho).mono ?_
    rintro e w' ⟨rfl, h3⟩
    exact ⟨mk_nothing _ _ _ _, h3⟩
  · rw [(mk_none h1 (by decide)).1, (mk_none h1 (by decide)).2, h1]
    refine (Make_zero (k := k) (k' := k) ⟨s, v, l, rfl, h, ho, rfl, hl⟩ ⟨s', v', l', rfl, h', ho', hz, hl'⟩).mono ?_
    rintro e w' ⟨rfl, h3⟩
    exact ⟨mk_nothing _ _ _ _, h3⟩
  · rw [(mk_some h1).1, (mk_some h1).2, h1]
    refine (Make_own (k := k) (k' := k) ⟨s, v, l, rfl, h, ho, rfl, hl⟩ ⟨s', v', l', rfl, h', ho', rfl, hl'⟩ (by omega) (by omega) hz).mono ?_
    rintro e w' ⟨⟨t, a, m, c, t', a', m', c', rfl, q1, q2, q3, q4, q5, q6⟩, h3⟩
    rw [Nat.max_self] at q4 q5 q6
    have q7 := FrOk.nums q4
    exact ⟨⟨t, a, m, c, t', a', m', c', rfl, q1, q2, q3, q7.1, q7.2, q5, q6⟩, h3⟩

set_option maxRecDepth 100000 in
set_option maxHeartbeats 4000000 in
theorem qMake_arg {w : World} {s s' : Bool} {v v' : Value} {l l' : List Nat} (h : Lim w v l) (h' : Lim w v' l') (ho : okB s l = false ∨ okB s' l' = false) :
    Calls Tryz.prog 53 #[.agg #[.bool s, v], .agg #[.bool s', v']] w fun e w' => e = .returned (.tuple #[frNone, .int .i64 1]) ∧ Below w.heap.size w w' := by
  have HL := keepLimT h
  have HL' := keepLimT h'
  obtain ⟨a, c, rfl, -⟩ := h
  obtain ⟨a', c', rfl, -⟩ := h'
  obtain ⟨W0, e0, n1, n2, n4, hb0⟩ := box_red w (.bool s) (.slice a l.length c) (.bool s') (.slice a' l'.length c')
  have N1 := n1.keep
  have N2 := n2.keep
  have N4 := n4.keep
  have B0 := Lib.hid hb0
  obtain ⟨c0, c1, -, -⟩ := n1.c2
  clear n1 n2 n4 hb0
  go_enter Tryz.func53, Tryz.ntmps53
  go_wp2_with fail
  clear e0
  refine (rCheck_any s _ l _ (HL.out _ B0.out)).mono ?_
  rintro e w1 ⟨rfl, hb1⟩
  have N2 := (N2.out _ hb1).keep
  have N4 := (N4.out _ hb1).keep
  have B1 := Lib.hid (Below.step B0.out hb1)
  clear hb1 c0 c1
  cases hx : okB s l with
  | false =>
    have hN := N4.out _ (Below.refl _ _)
    have N := Lib.hid hN
    obtain ⟨g0, g1, g2, g3⟩ := hN.c4
    obtain ⟨f0, f1, f2, f3⟩ := hN.f4
    clear hx ho hN
    go_wp2_with fail
    obtain ⟨W', e, hst, hbx⟩ := N.out.store (ys := [.bool false, .slice none 0 0, .bool false, .slice none 0 0]) rfl rfl
    simp only [setAll] at e
    rw [e]
    exact ret_frn (t := 4) (s0 := 5) rfl rfl rfl rfl hbx ⟨rfl, hst.below w (by omega) B1.out⟩
  | true =>
    have ho' : okB s' l' = false := by
      rcases ho with h | h
      · rw [h] at hx; cases hx
      · exact h
    have HO := Lib.hid ho'
    obtain ⟨d0, d1, -, -⟩ := (N2.out _ (Below.refl _ _)).c2
    clear hx ho ho'
    go_wp2_with fail
    refine (rCheck_any s' _ l' _ (HL'.out _ B1.out)).mono ?_
    rintro e w2 ⟨rfl, hb2⟩
    rw [HO.out]
    have B2 := Lib.hid (Below.step B1.out hb2)
    have hN := N4.out _ hb2
    have N := Lib.hid hN
    obtain ⟨g0, g1, g2, g3⟩ := hN.c4
    obtain ⟨f0, f1, f2, f3⟩ := hN.f4
    clear hN hb2 d0 d1
    go_wp2_with fail
    obtain ⟨W', e, hst, hbx⟩ := N.out.store (ys := [.bool false, .slice none 0 0, .bool false, .slice none 0 0]) rfl rfl
    simp only [setAll] at e
    rw [e]
    exact ret_frn (t := 4) (s0 := 5) rfl rfl rfl rfl hbx ⟨rfl, hst.below w (by omega) B2.out⟩

set_option maxRecDepth 100000 in
set_option maxHeartbeats 4000000 in
theorem qMake_ok {w : World} {s s' : Bool} {v v' : Value} {l l' : List Nat} {k : Nat} (h : Lim w v l) (h' : Lim w v' l') (ho : okB s l = true) (ho' : okB s' l' = true) (hl : l.length ≤ k) (hl' : l'.length ≤ k) (hk : k ≤ 900000) :
    Calls Tryz.prog 53 #[.agg #[.bool s, v], .agg #[.bool s', v']] w fun e w' => (valS s' l' = 0 → e = .returned (.tuple #[frNone, .int .i64 6])) ∧ (valS s' l' ≠ 0 → ∃ u, e = .returned (.tuple #[u, .int .i64 0]) ∧ FrOk w' u k (Rat.divInt (valS s l) (valS s' l'))) ∧ Below w.heap.size w w' := by
  have HL := keepLimT h
  have HL' := keepLimT h'
  have HO := Lib.hid ho
  have HO' := Lib.hid ho'
  have HK : Hid (l.length ≤ k ∧ l'.length ≤ k ∧ k ≤ 900000) := ⟨hl, hl', hk⟩
  obtain ⟨a, c, rfl, -⟩ := h
  obtain ⟨a', c', rfl, -⟩ := h'
  obtain ⟨W0, e0, n1, n2, n4, hb0⟩ := box_red w (.bool s) (.slice a l.length c) (.bool s') (.slice a' l'.length c')
  have N1 := n1.keep
  have N2 := n2.keep
  have N4 := n4.keep
  have B0 := Lib.hid hb0
  obtain ⟨c0, c1, -, -⟩ := n1.c2
  obtain ⟨Z', hZ'⟩ : ∃ Z', valS s' l' = Z' := ⟨_, rfl⟩
  have HZ := Lib.hid hZ'
  clear n1 n2 n4 hb0 ho ho' hl hl' hk hZ'
  go_enter Tryz.func53, Tryz.ntmps53
  go_wp2_with fail
  clear e0
  refine (rCheck_any s _ l _ (HL.out _ B0.out)).mono ?_
  rintro e w1 ⟨rfl, hb1⟩
  rw [HO.out]
  have N1 := (N1.out _ hb1).keep
  have N2 := (N2.out _ hb1).keep
  have N4 := (N4.out _ hb1).keep
  have B1 := Lib.hid (Below.step B0.out hb1)
  clear hb1 c0 c1
  obtain ⟨d0, d1, -, -⟩ := (N2.out _ (Below.refl _ _)).c2
  go_wp2_with fail
  refine (rCheck_any s' _ l' _ (HL'.out _ B1.out)).mono ?_
  rintro e w2 ⟨rfl, hb2⟩
  rw [HO'.out]
  have N1 := (N1.out _ hb2).keep
  have N2 := (N2.out _ hb2).keep
  have N4 := (N4.out _ hb2).keep
  have B2 := Lib.hid (Below.step B1.out hb2)
  clear hb2 d0 d1
  obtain ⟨d0, d1, -, -⟩ := (N2.out _ (Below.refl _ _)).c2
  go_wp2_with fail
  have hB' : OkAt w2 (.agg #[.bool s', .slice a' l'.length c']) k Z' := ⟨s', _, l', rfl, HL'.out _ B2.out, HO'.out, HZ.out, HK.out.2.1⟩
  have HB := Lib.hid hB'
  clear hB'
  by_cases hz : Z' = 0
  · refine (rSign_q HB.out.num 0 (cmpI_eq hz)).mono ?_
    rintro e w3 ⟨rfl, hb3⟩
    have B3 := Lib.hid (Below.step B2.out hb3)
    have HZ0 : Hid (valS s' l' = 0) := HZ.out.trans hz
    have hN := N4.out _ hb3
    have N := Lib.hid hN
    obtain ⟨g0, g1, g2, g3⟩ := hN.c4
    obtain ⟨f0, f1, f2, f3⟩ := hN.f4
    clear hN hb3 d0 d1 hz
    go_wp2_with fail
    obtain ⟨W', e, hst, hbx⟩ := N.out.store (ys := [.bool false, .slice none 0 0, .bool false, .slice none 0 0]) rfl rfl
    simp only [setAll] at e
    rw [e]
    exact ret_frn (t := 4) (s0 := 5) rfl rfl rfl rfl hbx ⟨fun _ => rfl, fun h => absurd HZ0.out h, hst.below w (by omega) B3.out⟩
  · have HNZ : Hid (Z' ≠ 0) := hz
    have hr : cmpI Z' 0 = 1 ∨ cmpI Z' 0 = -1 := by
      unfold cmpI
      by_cases hn : Z' < 0
      · exact .inr (if_pos hn)
      · refine .inl ?_
        rw [if_neg hn, if_pos (by omega)]
    clear hz
    rcases hr with hr | hr
    all_goals
      refine (rSign_q HB.out.num _ hr).mono ?_
      rintro e w3 ⟨rfl, hb3⟩
      have B3 := Lib.hid (Below.step B2.out hb3)
      have N4 := (N4.out _ hb3).keep
      have HB := Lib.hid (HB.out.below hb3)
      clear d0 d1 hr
      obtain ⟨c0, c1, -, -⟩ := (N1.out _ hb3).c2
      obtain ⟨d0, d1, -, -⟩ := (N2.out _ hb3).c2
      clear hb3
      go_wp2_with fail
      refine (qlowest_num (k := k) (k' := k) ⟨s, _, l, rfl, HL.out _ B3.out, HO.out, rfl, HK.out.1⟩ HB.out HK.out.2.2 HK.out.2.2 HNZ.out).mono ?_
      rintro e w4 ⟨⟨u, rfl, hu⟩, hb4⟩
      rw [Nat.max_self] at hu
      have HU := Lib.hid hu
      obtain ⟨z1, p1, i1, j1, z2, p2, i2, j2, rfl, -⟩ := hu.split
      have B4 := Lib.hid (Below.step B3.out hb4)
      have hN := N4.out _ hb4
      have N := Lib.hid hN
      obtain ⟨g0, g1, g2, g3⟩ := hN.c4
      obtain ⟨f0, f1, f2, f3⟩ := hN.f4
      clear hN hb4 hu c0 c1 d0 d1
      go_wp2_with fail
      obtain ⟨W', e, hst, hbx⟩ := N.out.store (ys := [.bool z1, .slice p1 i1 j1, .bool z2, .slice p2 i2 j2]) rfl rfl
      simp only [setAll] at e
      rw [e]
      exact ret_frn (t := 4) (s0 := 5) rfl rfl rfl rfl hbx ⟨fun h => absurd (HZ.out.symm.trans h) HNZ.out, fun _ => ⟨_, rfl, by rw [HZ.out]; exact HU.out.store hst⟩, hst.below w (by omega) B4.out⟩

/-- It answers two numbers in one, and an error. -/
def MkAt (w' : World) (e : Ending) (k : Nat) (C P Q : Int) : Prop := ∃ u, e = .returned (.tuple #[u, .int .i64 C]) ∧ IsOO k P k Q u w'
theorem qMake_both {w : World} {s s' : Bool} {v v' : Value} {l l' : List Nat} {k : Nat} (h : Lim w v l) (h' : Lim w v' l') (hl : l.length ≤ k) (hl' : l'.length ≤ k) (hk : k ≤ 900000) :
    Calls Tryz.prog 53 #[.agg #[.bool s, v], .agg #[.bool s', v']] w fun e w' => MkAt w' e k (divC s l s' l') (mkP s l s' l') (mkD s l s' l') ∧ Below w.heap.size w w' := by
  have none_at : ∀ W : World, IsOO k 0 k 0 frNone W := fun W => ⟨false, none, 0, 0, false, none, 0, 0, rfl, (OkAt.noughts W).wide (Nat.zero_le _), (OkAt.noughts W).wide (Nat.zero_le _)⟩
  rcases div_forms s l s' l' with ⟨ho, h1, -, -⟩ | ⟨ho, ho', hz, h1, -, -⟩ | ⟨ho, ho', hz, h1, -, -⟩
  · rw [(mk_none h1 (by decide)).1, (mk_none h1 (by decide)).2, h1]
    refine (qMake_arg h h' ho).mono ?_
    rintro e w' ⟨rfl, h3⟩
    exact ⟨⟨_, rfl, none_at _⟩, h3⟩
  · rw [(mk_none h1 (by decide)).1, (mk_none h1 (by decide)).2, h1]
    refine (qMake_ok h h' ho ho' hl hl' hk).mono ?_
    rintro e w' ⟨h3, -, h4⟩
    exact ⟨⟨_, h3 hz, none_at _⟩, h4⟩
  · rw [(mk_some h1).1, (mk_some h1).2, h1]
    refine (qMake_ok h h' ho ho' hl hl' hk).mono ?_
    rintro e w' ⟨-, h3, h4⟩
    obtain ⟨u, rfl, hu⟩ := h3 hz
    obtain ⟨z1, p1, i1, j1, z2, p2, i2, j2, rfl, g1, g2⟩ := hu.split
    exact ⟨⟨_, rfl, z1, p1, i1, j1, z2, p2, i2, j2, rfl, g1, g2⟩, h4⟩

end Go.Proofs.YtgpoljbccimkjaaGreatDoor

namespace Go.Proofs.YtgpoljbccimkjaaGreatDoor
set_option linter.unusedSimpArgs false
set_option linter.unusedVariables false
open Go.RowKit Go.Shelf

def eight (L0 L1 L2 L3 L4 L5 L6 L7 : List Nat) (i : Nat) : List Nat := match i with | 0 => L0 | 1 => L1 | 2 => L2 | 3 => L3 | 4 => L4 | 5 => L5 | 6 => L6 | 7 => L7 | _ => []
def grp8 (i : Nat) : Nat := match i with | 0 => 0 | 1 => 1 | 2 => 2 | 3 => 2 | 4 => 3 | 5 => 3 | 6 => 4 | _ => 4
theorem eight_get {α : Type _} {x0 x1 x2 x3 x4 x5 x6 x7 : α} {P : Nat → α → Prop} (h0 : P 0 x0) (h1 : P 1 x1) (h2 : P 2 x2) (h3 : P 3 x3) (h4 : P 4 x4) (h5 : P 5 x5) (h6 : P 6 x6) (h7 : P 7 x7) : ∀ (i : Nat) (e : α), [x0, x1, x2, x3, x4, x5, x6, x7][i]? = some e → P i e
  | 0, e, he => by obtain rfl := Option.some.inj he; exact h0
  | 1, e, he => by obtain rfl := Option.some.inj he; exact h1
  | 2, e, he => by obtain rfl := Option.some.inj he; exact h2
  | 3, e, he => by obtain rfl := Option.some.inj he; exact h3
  | 4, e, he => by obtain rfl := Option.some.inj he; exact h4
  | 5, e, he => by obtain rfl := Option.some.inj he; exact h5
  | 6, e, he => by obtain rfl := Option.some.inj he; exact h6
  | 7, e, he => by obtain rfl := Option.some.inj he; exact h7
  | n + 8, e, he => by simp at he
theorem eight_all {L0 L1 L2 L3 L4 L5 L6 L7 : List Nat} {n : Nat} (h0 : L0.length ≤ n) (h1 : L1.length ≤ n) (h2 : L2.length ≤ n) (h3 : L3.length ≤ n) (h4 : L4.length ≤ n) (h5 : L5.length ≤ n) (h6 : L6.length ≤ n) (h7 : L7.length ≤ n) : ∀ i, (eight L0 L1 L2 L3 L4 L5 L6 L7 i).length ≤ n
  | 0 => h0 | 1 => h1 | 2 => h2 | 3 => h3 | 4 => h4 | 5 => h5 | 6 => h6 | 7 => h7 | _ + 8 => Nat.zero_le _
theorem eight_apart {x0 x1 x2 x3 x4 x5 x6 x7 : Ent} (h2 : Apart x2.v x3.v) (h4 : Apart x4.v x5.v) (h6 : Apart x6.v x7.v) : ∀ i j e e', [x0, x1, x2, x3, x4, x5, x6, x7][i]? = some e → [x0, x1, x2, x3, x4, x5, x6, x7][j]? = some e' → i ≠ j → grp8 i = grp8 j → Apart e.v e'.v := by
  intro i j e e' he he' hij hg
  have hi : i < 8 := (List.getElem?_eq_some_iff.1 he).1
  have hj : j < 8 := (List.getElem?_eq_some_iff.1 he').1
  have hp : (i = 2 ∧ j = 3) ∨ (i = 3 ∧ j = 2) ∨ (i = 4 ∧ j = 5) ∨ (i = 5 ∧ j = 4) ∨ (i = 6 ∧ j = 7) ∨ (i = 7 ∧ j = 6) := by
    have hi' : i = 0 ∨ i = 1 ∨ i = 2 ∨ i = 3 ∨ i = 4 ∨ i = 5 ∨ i = 6 ∨ i = 7 := by omega
    have hj' : j = 0 ∨ j = 1 ∨ j = 2 ∨ j = 3 ∨ j = 4 ∨ j = 5 ∨ j = 6 ∨ j = 7 := by omega
    rcases hi' with rfl | rfl | rfl | rfl | rfl | rfl | rfl | rfl <;> rcases hj' with rfl | rfl | rfl | rfl | rfl | rfl | rfl | rfl <;> first | (exact absurd rfl hij) | (exfalso; revert hg; decide) | omega
  rcases hp with ⟨rfl, rfl⟩ | ⟨rfl, rfl⟩ | ⟨rfl, rfl⟩ | ⟨rfl, rfl⟩ | ⟨rfl, rfl⟩ | ⟨rfl, rfl⟩
  · obtain rfl := Option.some.inj he
    obtain rfl := Option.some.inj he'
    exact h2
  · obtain rfl := Option.some.inj he
    obtain rfl := Option.some.inj he'
    exact h2.flip
  · obtain rfl := Option.some.inj he
    obtain rfl := Option.some.inj he'
    exact h4
  · obtain rfl := Option.some.inj he
    obtain rfl := Option.some.inj he'
    exact h4.flip
  · obtain rfl := Option.some.inj he
    obtain rfl := Option.some.inj he'
    exact h6
  · obtain rfl := Option.some.inj he
    obtain rfl := Option.some.inj he'
    exact h6.flip

theorem OfL_own (n : Int) (w : World) (h1 : -9223372036854775808 ≤ n) (h2 : n ≤ 9223372036854775807) :
    Calls Tryz.prog 29 #[.int .i64 n] w fun e w' => AnsOwn w.heap.size w' e 3 n ∧ Below w.heap.size w w' := by
  refine (Of_any n w h1 h2).mono ?_
  rintro e w' ⟨h5, h6⟩
  exact ⟨h5.own (by omega), h6⟩
/-- Two numbers in one, in memory of their own. -/
def PairOwn (n : Nat) (w' : World) (e : Ending) (k : Nat) (P Q : Int) : Prop := ∃ s a l c s' a' l' c', e = .returned (.agg #[.bool s, .slice a l.length c, .bool s', .slice a' l'.length c']) ∧ OwnL n w' (.slice a l.length c) l ∧ OwnL n w' (.slice a' l'.length c') l' ∧ Apart (.slice a l.length c) (.slice a' l'.length c') ∧ OkAt w' (.agg #[.bool s, .slice a l.length c]) k P ∧ OkAt w' (.agg #[.bool s', .slice a' l'.length c']) k Q ∧ l.length ≤ k ∧ l'.length ≤ k
set_option maxRecDepth 100000 in
set_option maxHeartbeats 2000000 in
theorem OfF_own (n : Int) (w : World) (h1 : -9223372036854775808 ≤ n) (h2 : n ≤ 9223372036854775807) :
    Calls Tryz.prog 54 #[.int .i64 n] w fun e w' => PairOwn w.heap.size w' e 3 n 1 ∧ Below w.heap.size w w' := by
  have HB : Hid (-9223372036854775808 ≤ n ∧ n ≤ 9223372036854775807) := ⟨h1, h2⟩
  clear h1 h2
  obtain ⟨W0, e0, hN, hb0, hz0⟩ := box_fr w
  have N0 := hN.keep
  have B0 := Lib.hid hb0
  have HZ := Lib.hid hz0
  clear hN hb0 hz0
  go_enter Tryz.func54, Tryz.ntmps54
  go_wp2_with fail
  clear e0
  refine (OfL_own n _ HB.out.1 HB.out.2).mono ?_
  rintro e w1 ⟨⟨s1, a1, l1, c1, rfl, o1, q1, z1⟩, hb1⟩
  have K1 := q1.keep
  have O1 := Lib.hid o1
  have Z1 := Lib.hid z1
  have I1 := Lib.hid hb1.size
  have B1 := Lib.hid hb1
  clear q1 hb1 o1 z1
  go_wp2_with fail
  refine (OfL_own 1 _ (by decide) (by decide)).mono ?_
  rintro e w2 ⟨⟨s2, a2, l2, c2, rfl, o2, q2, z2⟩, hb2⟩
  have K2 := Lib.hid q2
  have O2 := Lib.hid o2
  have Z2 := Lib.hid z2
  have K1' := Lib.hid (K1.out _ hb2)
  have O1' := Lib.hid (O1.out.below hb2)
  have B2 := Lib.hid (Below.step B1.out hb2)
  have hN2 := N0.out _ B2.out
  have N2 := Lib.hid hN2
  obtain ⟨d0, d1, d2, d3⟩ := hN2.c4
  obtain ⟨f0, f1, f2, f3⟩ := hN2.f4
  clear q2 hb2 hN2 o2 z2
  go_wp2_with fail
  have hz := HZ.out
  have i1 := I1.out
  obtain ⟨W', e, hst, hbx⟩ := N2.out.store (ys := [.bool s1, .slice a1 l1.length c1, .bool s2, .slice a2 l2.length c2]) rfl (noU32_4 ..)
  have p1 : OwnL W0.heap.size W' (.slice a1 l1.length c1) l1 := by rw [← e]; exact OwnL.setAll (by omega) _ _ _ O1'.out
  have p2 : OwnL w1.heap.size W' (.slice a2 l2.length c2) l2 := by rw [← e]; exact OwnL.setAll (by omega) _ _ _ O2.out
  have hap : Apart (.slice a1 l1.length c1) (.slice a2 l2.length c2) := fun g h1 h2 => by
    have x1 := O1.out.lt h1
    have x2 := O2.out.ge h2
    omega
  simp only [setAll] at e
  rw [e]
  obtain ⟨g0, g1, g2, g3⟩ := hbx.c4
  exact bodyPost_ret (v := .agg #[.bool s1, .slice a1 l1.length c1, .bool s2, .slice a2 l2.length c2]) (by simp [results, Tryz.results54, go_sem, g0, g1, g2, g3]) rfl ⟨⟨s1, a1, l1, c1, s2, a2, l2, c2, rfl, p1.mono (by omega), p2.mono (by omega), hap, K1'.out.store hst, K2.out.store hst, Z1.out, Z2.out⟩, hst.below w (Nat.le_refl _) (Below.step B0.out B2.out)⟩

set_option maxRecDepth 100000 in
set_option maxHeartbeats 2000000 in
theorem qOf_v {u : Value} {w : World} {n : Int} (h : u = .int .i64 n) (h1 : -9223372036854775808 ≤ n) (h2 : n ≤ 9223372036854775807) :
    Calls Tryz.prog 55 #[u] w fun e w' => (∃ r, e = .returned r ∧ IsOO 3 n 3 1 r w') ∧ Below w.heap.size w w' := by
  subst h
  have HB : Hid (-9223372036854775808 ≤ n ∧ n ≤ 9223372036854775807) := ⟨h1, h2⟩
  clear h1 h2
  obtain ⟨W0, e0, hN, hb0, -⟩ := box_fr w
  have N0 := hN.keep
  have B0 := Lib.hid hb0
  clear hN hb0
  go_enter Tryz.func55, Tryz.ntmps55
  go_wp2_with fail
  clear e0
  refine (rOf_num n _ HB.out.1 HB.out.2).mono ?_
  rintro e w1 ⟨⟨u1, rfl, h1⟩, hb1⟩
  have K1 := h1.keep
  obtain ⟨s1, a1, n1, c1, rfl, -⟩ := h1.shape
  have B1 := Lib.hid hb1
  clear h1 hb1
  go_wp2_with fail
  refine (rOf_num 1 _ (by decide) (by decide)).mono ?_
  rintro e w2 ⟨⟨u2, rfl, h2⟩, hb2⟩
  have K2 := Lib.hid h2
  have K1' := Lib.hid (K1.out _ hb2)
  obtain ⟨s2, a2, n2, c2, rfl, -⟩ := h2.shape
  have B2 := Lib.hid (Below.step B1.out hb2)
  have hN2 := N0.out _ B2.out
  have N2 := Lib.hid hN2
  obtain ⟨d0, d1, d2, d3⟩ := hN2.c4
  obtain ⟨f0, f1, f2, f3⟩ := hN2.f4
  clear h2 hb2 hN2
  go_wp2_with fail
  obtain ⟨W', e, hst, hbx⟩ := N2.out.store (ys := [.bool s1, .slice a1 n1 c1, .bool s2, .slice a2 n2 c2]) rfl (noU32_4 ..)
  simp only [setAll] at e
  rw [e]
  obtain ⟨g0, g1, g2, g3⟩ := hbx.c4
  exact bodyPost_ret (v := .agg #[.bool s1, .slice a1 n1 c1, .bool s2, .slice a2 n2 c2]) (by simp [results, Tryz.results55, go_sem, g0, g1, g2, g3]) rfl ⟨⟨_, rfl, s1, a1, n1, c1, s2, a2, n2, c2, rfl, K1'.out.store hst, K2.out.store hst⟩, hst.below w (Nat.le_refl _) (Below.step B0.out B2.out)⟩

set_option maxHeartbeats 2000000 in
theorem SameOO {w : World} {u v : Value} {k k' j j' : Nat} {P Q : Int} (h : IsOO k P k' Q u w) (h' : IsOO j P j' Q v w) :
    Calls Tryz.prog 46 #[u, v] w fun e w' => e = .returned (.bool true) ∧ Below w.heap.size w w' := by
  obtain ⟨s, a, n, c, s', a', n', c', rfl, g1, g2⟩ := h
  obtain ⟨t, p, m, d, t', p', m', d', rfl, g3, g4⟩ := h'
  obtain ⟨W0, e0, n1, n2, hb0⟩ := box_frs2 w (.bool s) (.slice a n c) (.bool s') (.slice a' n' c') (.bool t) (.slice p m d) (.bool t') (.slice p' m' d')
  have N1 := n1.keep
  have N2 := n2.keep
  have G1 := (g1.below hb0).keep
  have G2 := (g2.below hb0).keep
  have G3 := (g3.below hb0).keep
  have G4 := (g4.below hb0).keep
  have B0 := Lib.hid hb0
  obtain ⟨c0, c1, -, -⟩ := n1.c4
  obtain ⟨c2, c3, -, -⟩ := n2.c4
  clear n1 n2 g1 g2 g3 g4 hb0
  go_enter Tryz.func46, Tryz.ntmps46
  go_wp2_with fail
  clear e0
  refine (Same_num (G1.out _ (Below.refl _ _)) (G3.out _ (Below.refl _ _)) true (decide_eq_true rfl)).mono ?_
  rintro e w1 ⟨rfl, hb1⟩
  obtain ⟨-, -, d2, d3⟩ := (N1.out _ hb1).c4
  obtain ⟨-, -, d4, d5⟩ := (N2.out _ hb1).c4
  have B1 := Lib.hid hb1
  clear hb1 c0 c1 c2 c3
  go_wp2_with fail
  refine (Same_num (G2.out _ B1.out) (G4.out _ B1.out) true (decide_eq_true rfl)).mono ?_
  rintro e w2 ⟨rfl, hb2⟩
  go_wp2_with fail
  go_ret
  exact ⟨rfl, Below.step B0.out (Below.step B1.out hb2)⟩

end Go.Proofs.YtgpoljbccimkjaaGreatDoor

namespace Go.Proofs.YtgpoljbccimkjaaGreatDoor
set_option linter.unusedSimpArgs false
set_option linter.unusedVariables false
open Go.RowKit Go.Shelf

set_option maxRecDepth 100000 in
set_option maxHeartbeats 4000000 in
theorem FracsMakes_true (w : World) (s1 : Bool) (v1 : Value) (l1 : List Nat) (h1 : Lim w v1 l1) (s2 : Bool) (v2 : Value) (l2 : List Nat) (h2 : Lim w v2 l2) (n : Int) (hn : -9223372036854775808 ≤ n ∧ n ≤ 9223372036854775807) (_ : Tab w) :
    Calls Tryz.prog 6 #[.agg #[.bool s1, v1], .agg #[.bool s2, v2], .int .i64 n] w fun e w' => e = .returned (.bool true) ∧ Below w.heap.size w w' := by
  have h1' := h1
  have h2' := h2
  obtain ⟨a1, c1, rfl, -⟩ := h1
  obtain ⟨a2, c2, rfl, -⟩ := h2
  have m1 := h1'.max
  have m2 := h2'.max
  obtain ⟨W0, e0, n1, n2, hb0, -, -⟩ := box2 w (.bool s1) (.slice a1 l1.length c1) (.bool s2) (.slice a2 l2.length c2)
  have U1 := keepLim (h1'.below hb0)
  have U2 := keepLim (h2'.below hb0)
  have N1 := n1.v.keep
  have N2 := n2.v.keep
  have RW := Lib.hid hb0
  have HN := Lib.hid hn
  obtain ⟨p1, p2, -, -⟩ := n1
  obtain ⟨p3, p4, -, -⟩ := n2
  clear h1' h2' hb0 hn
  by_cases hbig : 25 < l1.length
  · have hd : decide ((25 : Int) < (l1.length : Int)) = true := decide_eq_true (by omega)
    clear hbig
    go_enter Tryz.func6, Tryz.ntmps6
    go_wp2_with fail
    go_ret
    exact ⟨rfl, RW.out⟩
  · have hd : decide ((25 : Int) < (l1.length : Int)) = false := decide_eq_false (by omega)
    by_cases hbig2 : 25 < l2.length
    · have hd2 : decide ((25 : Int) < (l2.length : Int)) = true := decide_eq_true (by omega)
      clear hbig hbig2
      go_enter Tryz.func6, Tryz.ntmps6
      go_wp2_with fail
      go_ret
      exact ⟨rfl, RW.out⟩
    · have hd2 : decide ((25 : Int) < (l2.length : Int)) = false := decide_eq_false (by omega)
      have K : Hid (l1.length ≤ 25 ∧ l2.length ≤ 25) := by show _ ∧ _; omega
      have IW := Lib.hid RW.out.size
      clear hbig hbig2
      go_enter Tryz.func6, Tryz.ntmps6
      go_wp2_with fail
      clear e0 hd hd2 m1 m2
      refine (TwinNum_room s1 _ l1 _ (U1.out _ (Below.refl _ _)) (by have := K.out; omega)).mono ?_
      rintro e w5 ⟨⟨aX, cX, rfl, o5⟩, hb5⟩
      obtain ⟨W5, e5, nx5, bx5, -⟩ := box1 w5 (.bool s1) (.slice aX l1.length cX)
      have R5 := Below.step hb5 bx5
      have I5 : Hid (W0.heap.size ≤ w5.heap.size ∧ w5.heap.size ≤ W5.heap.size) := ⟨hb5.size, bx5.size⟩
      have N1 := (N1.out _ R5).keep
      have N2 := (N2.out _ R5).keep
      have U1 := keepLim (U1.out _ R5)
      have U2 := keepLim (U2.out _ R5)
      have TX := keepLim (o5.lim.below bx5)
      have UX := keepLim (o5.front1.lim.below bx5)
      have OX := (o5.front1.below bx5).keep
      have SX := Lib.hid o5.front1.within
      have N5 := nx5.v.keep
      have RW := Lib.hid (Below.step RW.out R5)
      clear hb5 nx5 bx5 R5 o5 p1 p2 p3 p4
      obtain ⟨p1, p2, -, -⟩ := (N2.out _ (Below.refl _ _)).c2
      go_wp2_with fail
      refine (TwinNum_room s2 _ l2 _ (U2.out _ (Below.refl _ _)) (by have := K.out; omega)).mono ?_
      rintro e w6 ⟨⟨aY, cY, rfl, o6⟩, hb6⟩
      obtain ⟨W6, e6, nx6, bx6, -⟩ := box1 w6 (.bool s2) (.slice aY l2.length cY)
      have R6 := Below.step hb6 bx6
      have I6 : Hid (W5.heap.size ≤ w6.heap.size ∧ w6.heap.size ≤ W6.heap.size) := ⟨hb6.size, bx6.size⟩
      have N1 := (N1.out _ R6).keep
      have N2 := (N2.out _ R6).keep
      have U1 := keepLim (U1.out _ R6)
      have U2 := keepLim (U2.out _ R6)
      have TX := keepLim (TX.out _ R6)
      have UX := keepLim (UX.out _ R6)
      have OX := (OX.out _ R6).keep
      have N5 := (N5.out _ R6).keep
      have TY := keepLim (o6.lim.below bx6)
      have UY := keepLim (o6.front1.lim.below bx6)
      have OY := (o6.front1.below bx6).keep
      have SY := Lib.hid o6.front1.within
      have N6 := nx6.v.keep
      have RW := Lib.hid (Below.step RW.out R6)
      clear hb6 nx6 bx6 R6 o6 p1 p2
      obtain ⟨p1, p2, -, -⟩ := (N5.out _ (Below.refl _ _)).c2
      obtain ⟨p3, p4, -, -⟩ := (N6.out _ (Below.refl _ _)).c2
      go_wp2_with fail
      refine (Make_both (s := s1) (s' := s2) (k := 25) (UX.out _ (Below.refl _ _)) (UY.out _ (Below.refl _ _)) K.out.1 K.out.2 (by decide)).mono ?_
      rintro e w7 ⟨⟨s7, a7, l7, c7, t7, b7, m7, d7, rfl, o7, q7, ap7, g7, k7, y7, z7⟩, hb7⟩
      obtain ⟨W7, e7, nx7, bx7, -⟩ := box_fr1 w7 (.bool s7) (.slice a7 l7.length c7) (.bool t7) (.slice b7 m7.length d7)
      have R7 := Below.step hb7 bx7
      have I7 : Hid (W6.heap.size ≤ w7.heap.size ∧ w7.heap.size ≤ W7.heap.size) := ⟨hb7.size, bx7.size⟩
      have N1 := (N1.out _ R7).keep
      have N2 := (N2.out _ R7).keep
      have U1 := keepLim (U1.out _ R7)
      have U2 := keepLim (U2.out _ R7)
      have TX := keepLim (TX.out _ R7)
      have UX := keepLim (UX.out _ R7)
      have OX := (OX.out _ R7).keep
      have N5 := (N5.out _ R7).keep
      have TY := keepLim (TY.out _ R7)
      have UY := keepLim (UY.out _ R7)
      have OY := (OY.out _ R7).keep
      have N6 := (N6.out _ R7).keep
      have HC7 : Hid (∀ W, Below W7.heap.size W7 W → IsOO 25 (mkP s1 l1 s2 l2) 25 (mkD s1 l1 s2 l2) (.agg #[.bool s7, .slice a7 l7.length c7, .bool t7, .slice b7 m7.length d7]) W) := fun W hb => ⟨_, _, _, _, _, _, _, _, rfl, (g7.below bx7).below hb, (k7.below bx7).below hb⟩
      have N7 := nx7.keep
      have OA7 := (o7.below bx7).keep
      have OB7 := (q7.below bx7).keep
      have SA7 := Lib.hid o7.within
      have SB7 := Lib.hid q7.within
      have SP7 := Lib.hid ap7
      have SY7 := Lib.hid y7
      have SZ7 := Lib.hid z7
      have RW := Lib.hid (Below.step RW.out R7)
      clear hb7 nx7 bx7 R7 g7 k7 o7 q7 ap7 y7 z7 p1 p2 p3 p4
      obtain ⟨p1, p2, -, -⟩ := (N5.out _ (Below.refl _ _)).c2
      obtain ⟨p3, p4, -, -⟩ := (N6.out _ (Below.refl _ _)).c2
      go_wp2_with fail
      refine (Make_both (s := s1) (s' := s2) (k := 25) (UX.out _ (Below.refl _ _)) (UY.out _ (Below.refl _ _)) K.out.1 K.out.2 (by decide)).mono ?_
      rintro e w8 ⟨⟨s8, a8, l8, c8, t8, b8, m8, d8, rfl, o8, q8, ap8, g8, k8, y8, z8⟩, hb8⟩
      obtain ⟨W8, e8, nx8, bx8, -⟩ := box_fr1 w8 (.bool s8) (.slice a8 l8.length c8) (.bool t8) (.slice b8 m8.length d8)
      have R8 := Below.step hb8 bx8
      have I8 : Hid (W7.heap.size ≤ w8.heap.size ∧ w8.heap.size ≤ W8.heap.size) := ⟨hb8.size, bx8.size⟩
      have N1 := (N1.out _ R8).keep
      have N2 := (N2.out _ R8).keep
      have U1 := keepLim (U1.out _ R8)
      have U2 := keepLim (U2.out _ R8)
      have TX := keepLim (TX.out _ R8)
      have UX := keepLim (UX.out _ R8)
      have OX := (OX.out _ R8).keep
      have N5 := (N5.out _ R8).keep
      have TY := keepLim (TY.out _ R8)
      have UY := keepLim (UY.out _ R8)
      have OY := (OY.out _ R8).keep
      have N6 := (N6.out _ R8).keep
      have HC7 := Lib.hid (fun W hb => HC7.out W (Below.step R8 hb))
      have N7 := (N7.out _ R8).keep
      have OA7 := (OA7.out _ R8).keep
      have OB7 := (OB7.out _ R8).keep
      have HC8 : Hid (∀ W, Below W8.heap.size W8 W → IsOO 25 (mkP s1 l1 s2 l2) 25 (mkD s1 l1 s2 l2) (.agg #[.bool s8, .slice a8 l8.length c8, .bool t8, .slice b8 m8.length d8]) W) := fun W hb => ⟨_, _, _, _, _, _, _, _, rfl, (g8.below bx8).below hb, (k8.below bx8).below hb⟩
      have N8 := nx8.keep
      have OA8 := (o8.below bx8).keep
      have OB8 := (q8.below bx8).keep
      have SA8 := Lib.hid o8.within
      have SB8 := Lib.hid q8.within
      have SP8 := Lib.hid ap8
      have SY8 := Lib.hid y8
      have SZ8 := Lib.hid z8
      have RW := Lib.hid (Below.step RW.out R8)
      clear hb8 nx8 bx8 R8 g8 k8 o8 q8 ap8 y8 z8 p1 p2 p3 p4
      obtain ⟨p1, p2, -, -⟩ := (N1.out _ (Below.refl _ _)).c2
      obtain ⟨p3, p4, -, -⟩ := (N2.out _ (Below.refl _ _)).c2
      go_wp2_with fail
      refine (qMake_both (s := s1) (s' := s2) (k := 25) (U1.out _ (Below.refl _ _)) (U2.out _ (Below.refl _ _)) K.out.1 K.out.2 (by decide)).mono ?_
      rintro e w9 ⟨⟨u9, rfl, i9⟩, hb9⟩
      obtain ⟨s9, a9, l9, c9, t9, b9, m9, d9, rfl, g9, k9⟩ := i9
      obtain ⟨W9, e9, nx9, bx9, -⟩ := box_fr1 w9 (.bool s9) (.slice a9 l9 c9) (.bool t9) (.slice b9 m9 d9)
      have R9 := Below.step hb9 bx9
      have I9 : Hid (W8.heap.size ≤ w9.heap.size ∧ w9.heap.size ≤ W9.heap.size) := ⟨hb9.size, bx9.size⟩
      have N1 := (N1.out _ R9).keep
      have N2 := (N2.out _ R9).keep
      have U1 := keepLim (U1.out _ R9)
      have U2 := keepLim (U2.out _ R9)
      have TX := keepLim (TX.out _ R9)
      have UX := keepLim (UX.out _ R9)
      have OX := (OX.out _ R9).keep
      have N5 := (N5.out _ R9).keep
      have TY := keepLim (TY.out _ R9)
      have UY := keepLim (UY.out _ R9)
      have OY := (OY.out _ R9).keep
      have N6 := (N6.out _ R9).keep
      have HC7 := Lib.hid (fun W hb => HC7.out W (Below.step R9 hb))
      have N7 := (N7.out _ R9).keep
      have OA7 := (OA7.out _ R9).keep
      have OB7 := (OB7.out _ R9).keep
      have HC8 := Lib.hid (fun W hb => HC8.out W (Below.step R9 hb))
      have N8 := (N8.out _ R9).keep
      have OA8 := (OA8.out _ R9).keep
      have OB8 := (OB8.out _ R9).keep
      have HC9 : Hid (∀ W, Below W9.heap.size W9 W → IsOO 25 (mkP s1 l1 s2 l2) 25 (mkD s1 l1 s2 l2) (.agg #[.bool s9, .slice a9 l9 c9, .bool t9, .slice b9 m9 d9]) W) := fun W hb => ⟨_, _, _, _, _, _, _, _, rfl, (g9.below bx9).below hb, (k9.below bx9).below hb⟩
      have N9 := nx9.keep
      have RW := Lib.hid (Below.step RW.out R9)
      clear hb9 nx9 bx9 R9 g9 k9 p1 p2 p3 p4
      go_wp2_with fail
      refine (OfF_own n _ HN.out.1 HN.out.2).mono ?_
      rintro e w10 ⟨⟨s10, a10, l10, c10, t10, b10, m10, d10, rfl, o10, q10, ap10, g10, k10, y10, z10⟩, hb10⟩
      obtain ⟨W10, e10, nx10, bx10, -⟩ := box_fr1 w10 (.bool s10) (.slice a10 l10.length c10) (.bool t10) (.slice b10 m10.length d10)
      have R10 := Below.step hb10 bx10
      have I10 : Hid (W9.heap.size ≤ w10.heap.size ∧ w10.heap.size ≤ W10.heap.size) := ⟨hb10.size, bx10.size⟩
      have N1 := (N1.out _ R10).keep
      have N2 := (N2.out _ R10).keep
      have U1 := keepLim (U1.out _ R10)
      have U2 := keepLim (U2.out _ R10)
      have TX := keepLim (TX.out _ R10)
      have UX := keepLim (UX.out _ R10)
      have OX := (OX.out _ R10).keep
      have N5 := (N5.out _ R10).keep
      have TY := keepLim (TY.out _ R10)
      have UY := keepLim (UY.out _ R10)
      have OY := (OY.out _ R10).keep
      have N6 := (N6.out _ R10).keep
      have HC7 := Lib.hid (fun W hb => HC7.out W (Below.step R10 hb))
      have N7 := (N7.out _ R10).keep
      have OA7 := (OA7.out _ R10).keep
      have OB7 := (OB7.out _ R10).keep
      have HC8 := Lib.hid (fun W hb => HC8.out W (Below.step R10 hb))
      have N8 := (N8.out _ R10).keep
      have OA8 := (OA8.out _ R10).keep
      have OB8 := (OB8.out _ R10).keep
      have HC9 := Lib.hid (fun W hb => HC9.out W (Below.step R10 hb))
      have N9 := (N9.out _ R10).keep
      have HC10 : Hid (∀ W, Below W10.heap.size W10 W → IsOO 3 (n) 3 (1) (.agg #[.bool s10, .slice a10 l10.length c10, .bool t10, .slice b10 m10.length d10]) W) := fun W hb => ⟨_, _, _, _, _, _, _, _, rfl, (g10.below bx10).below hb, (k10.below bx10).below hb⟩
      have N10 := nx10.keep
      have OA10 := (o10.below bx10).keep
      have OB10 := (q10.below bx10).keep
      have SA10 := Lib.hid o10.within
      have SB10 := Lib.hid q10.within
      have SP10 := Lib.hid ap10
      have SY10 := Lib.hid y10
      have SZ10 := Lib.hid z10
      have RW := Lib.hid (Below.step RW.out R10)
      clear hb10 nx10 bx10 R10 g10 k10 o10 q10 ap10 y10 z10
      go_upto_region 9 with fail
      clear e5 e6 e7 e8 e9 e10
      rename_i hK0 K1 hK1
      refine wp_region_known [(53, true), (54, false), (55, false), (58, true), (59, false), (60, false), (61, false), (64, false), (65, false), (66, false), (70, true), (71, false), (72, false), (73, false), (76, true), (77, false), (78, false), (79, false), (82, true), (83, false), (84, false)]
        [(2, IsV (.int .i64 n)), (3, IsV (.pointer (some ⟨w.heap.size, 0, none⟩))), (4, IsV (.pointer (some ⟨(w.heap.size + 1), 0, none⟩))), (7, IsV (.pointer (some ⟨w5.heap.size, 0, none⟩))), (8, IsV (.pointer (some ⟨w6.heap.size, 0, none⟩))), (9, IsV (.pointer (some ⟨w7.heap.size, 0, none⟩))), (10, IsV (.int .i64 (divC s1 l1 s2 l2))), (11, IsV (.pointer (some ⟨w8.heap.size, 0, none⟩))), (12, IsV (.int .i64 (divC s1 l1 s2 l2))), (13, IsV (.pointer (some ⟨w9.heap.size, 0, none⟩))), (14, IsV (.int .i64 (divC s1 l1 s2 l2))), (15, IsV (.pointer (some ⟨w10.heap.size, 0, none⟩)))]
        [(51, IsOO 25 (mkP s1 l1 s2 l2) 25 (mkD s1 l1 s2 l2)), (52, IsOO 25 (mkP s1 l1 s2 l2) 25 (mkD s1 l1 s2 l2)), (56, IsOO 25 (mkP s1 l1 s2 l2) 25 (mkD s1 l1 s2 l2)), (57, IsOO 25 (mkP s1 l1 s2 l2) 25 (mkD s1 l1 s2 l2)), (62, IsV (.int .i64 (divC s1 l1 s2 l2))), (63, IsV (.int .i64 (divC s1 l1 s2 l2))), (67, IsOO 3 (n) 3 (1)), (68, IsV (.int .i64 n)), (69, IsOO 3 (n) 3 (1)), (74, IsT s1 aX cX l1), (75, IsU s1 a1 c1 l1), (80, IsT s2 aY cY l2), (81, IsU s2 a2 c2 l2)]
        97 (by kernel_rfl) rfl (by kernel_rfl) (by kernel_rfl) ⟨rfl, rfl, rfl, rfl, rfl, rfl, rfl, rfl, rfl, rfl, rfl, rfl, trivial⟩ ⟨IsV.grows _ , IsV.grows _ , IsV.grows _ , IsV.grows _ , IsV.grows _ , IsV.grows _ , IsV.grows _ , IsV.grows _ , IsV.grows _ , IsV.grows _ , IsV.grows _ , IsV.grows _ , IsOO.grows _ _ _ _ , IsOO.grows _ _ _ _ , IsOO.grows _ _ _ _ , IsOO.grows _ _ _ _ , IsV.grows _ , IsV.grows _ , IsOO.grows _ _ _ _ , IsV.grows _ , IsOO.grows _ _ _ _ , IsT.grows _ _ _ _ , IsU.grows _ _ _ _ , IsT.grows _ _ _ _ , IsU.grows _ _ _ _ , trivial⟩ ?_ ?_
      · refine AllStep.cons (step_loadT (fun _ _ h => h) (fun W hb => run_load4 rfl rfl rfl (N7.out W hb).at0 (N7.out W hb).at1 (N7.out W hb).at2 (N7.out W hb).at3) (fun w hb => HC7.out w hb)) ?_
        refine AllStep.cons (step_loadT (fun _ _ h => h) (fun W hb => run_load4 rfl rfl rfl (N9.out W hb).at0 (N9.out W hb).at1 (N9.out W hb).at2 (N9.out W hb).at3) (fun w hb => HC9.out w hb)) ?_
        refine AllStep.cons (step_call2 (Plain.of Tryz.func46 rfl rfl) (fun _ _ _ _ hu hv => (SameOO hu hv).mono (fun _ _ h => ansV h))) ?_
        refine AllStep.cons (step_not true (fun _ _ h => h) (fun _ => rfl)) ?_
        refine AllStep.cons (step_move (fun _ _ h => h)) ?_
        refine AllStep.cons (step_loadT (fun _ _ h => h) (fun W hb => run_load4 rfl rfl rfl (N8.out W hb).at0 (N8.out W hb).at1 (N8.out W hb).at2 (N8.out W hb).at3) (fun w hb => HC8.out w hb)) ?_
        refine AllStep.cons (step_loadT (fun _ _ h => h) (fun W hb => run_load4 rfl rfl rfl (N9.out W hb).at0 (N9.out W hb).at1 (N9.out W hb).at2 (N9.out W hb).at3) (fun w hb => HC9.out w hb)) ?_
        refine AllStep.cons (step_call2 (Plain.of Tryz.func46 rfl rfl) (fun _ _ _ _ hu hv => (SameOO hu hv).mono (fun _ _ h => ansV h))) ?_
        refine AllStep.cons (step_not true (fun _ _ h => h) (fun _ => rfl)) ?_
        refine AllStep.cons (step_pickF (fun _ _ h => h) (fun _ _ h => h)) ?_
        refine AllStep.cons (step_move (fun _ _ h => h)) ?_
        refine AllStep.cons (step_move (fun _ _ h => h)) ?_
        refine AllStep.cons (step_move (fun _ _ h => h)) ?_
        refine AllStep.cons (step_neEE (fun _ _ h => h) (fun _ _ h => h) (by simp) (fun _ => rfl)) ?_
        refine AllStep.cons (step_pickF (fun _ _ h => h) (fun _ _ h => h)) ?_
        refine AllStep.cons (step_move (fun _ _ h => h)) ?_
        refine AllStep.cons (step_loadT (fun _ _ h => h) (fun W hb => run_load4 rfl rfl rfl (N10.out W hb).at0 (N10.out W hb).at1 (N10.out W hb).at2 (N10.out W hb).at3) (fun w hb => HC10.out w hb)) ?_
        refine AllStep.cons (step_move (fun _ _ h => h)) ?_
        refine AllStep.cons (step_call1 (Plain.of Tryz.func55 rfl rfl) (fun _ _ _ hu => qOf_v hu HN.out.1 HN.out.2)) ?_
        refine AllStep.cons (step_call2 (Plain.of Tryz.func46 rfl rfl) (fun _ _ _ _ hu hv => (SameOO hu hv).mono (fun _ _ h => ansV h))) ?_
        refine AllStep.cons (step_not true (fun _ _ h => h) (fun _ => rfl)) ?_
        refine AllStep.cons (step_pickF (fun _ _ h => h) (fun _ _ h => h)) ?_
        refine AllStep.cons (step_move (fun _ _ h => h)) ?_
        refine AllStep.cons (step_load (fun _ _ h => h) (fun _ hb => (N5.out _ hb).c2) (fun w hb => ⟨rfl, TX.out w hb⟩)) ?_
        refine AllStep.cons (step_load (fun _ _ h => h) (fun _ hb => (N1.out _ hb).c2) (fun w hb => ⟨rfl, U1.out w hb⟩)) ?_
        refine AllStep.cons (step_call2 (Plain.of Tryz.func21 rfl rfl) (fun _ _ _ _ hu hv => (LeftNum_at hu hv (by have := K.out; omega)).mono (fun _ _ h => ansV h))) ?_
        refine AllStep.cons (step_not true (fun _ _ h => h) (fun _ => rfl)) ?_
        refine AllStep.cons (step_pickF (fun _ _ h => h) (fun _ _ h => h)) ?_
        refine AllStep.cons (step_move (fun _ _ h => h)) ?_
        refine AllStep.cons (step_load (fun _ _ h => h) (fun _ hb => (N6.out _ hb).c2) (fun w hb => ⟨rfl, TY.out w hb⟩)) ?_
        refine AllStep.cons (step_load (fun _ _ h => h) (fun _ hb => (N2.out _ hb).c2) (fun w hb => ⟨rfl, U2.out w hb⟩)) ?_
        refine AllStep.cons (step_call2 (Plain.of Tryz.func21 rfl rfl) (fun _ _ _ _ hu hv => (LeftNum_at hu hv (by have := K.out; omega)).mono (fun _ _ h => ansV h))) ?_
        refine AllStep.cons (step_not true (fun _ _ h => h) (fun _ => rfl)) ?_
        refine AllStep.cons (step_pickF (fun _ _ h => h) (fun _ _ h => h)) ?_
        exact AllStep.nil
      · intro a1 wa hb1 hs1 hd1 hk1
        have N1 := (N1.out _ hb1).keep
        have N2 := (N2.out _ hb1).keep
        have U1 := keepLim (U1.out _ hb1)
        have U2 := keepLim (U2.out _ hb1)
        have TX := keepLim (TX.out _ hb1)
        have UX := keepLim (UX.out _ hb1)
        have OX := (OX.out _ hb1).keep
        have N5 := (N5.out _ hb1).keep
        have TY := keepLim (TY.out _ hb1)
        have UY := keepLim (UY.out _ hb1)
        have OY := (OY.out _ hb1).keep
        have N6 := (N6.out _ hb1).keep
        have N7 := (N7.out _ hb1).keep
        have OA7 := (OA7.out _ hb1).keep
        have OB7 := (OB7.out _ hb1).keep
        have N8 := (N8.out _ hb1).keep
        have OA8 := (OA8.out _ hb1).keep
        have OB8 := (OB8.out _ hb1).keep
        have N9 := (N9.out _ hb1).keep
        have N10 := (N10.out _ hb1).keep
        have OA10 := (OA10.out _ hb1).keep
        have OB10 := (OB10.out _ hb1).keep
        have RW := Lib.hid (Below.step RW.out hb1)
        have IA := Lib.hid hb1.size
        obtain ⟨u, hx⟩ : ∃ u : Nat → Value, ∀ t, a1.eval (.tmp t) = u t := ⟨_, fun _ => rfl⟩
        have ha : a1 = ⟨#[u 0, u 1, .int .i64 n, .pointer (some ⟨w.heap.size, 0, none⟩), .pointer (some ⟨(w.heap.size + 1), 0, none⟩), u 5, u 6, .pointer (some ⟨w5.heap.size, 0, none⟩), .pointer (some ⟨w6.heap.size, 0, none⟩), .pointer (some ⟨w7.heap.size, 0, none⟩), .int .i64 (divC s1 l1 s2 l2), .pointer (some ⟨w8.heap.size, 0, none⟩), .int .i64 (divC s1 l1 s2 l2), .pointer (some ⟨w9.heap.size, 0, none⟩), .int .i64 (divC s1 l1 s2 l2), .pointer (some ⟨w10.heap.size, 0, none⟩), u 16, u 17, u 18, u 19, u 20, u 21, u 22, u 23, u 24, u 25, u 26, u 27, u 28, u 29, u 30, u 31, u 32, u 33, u 34, u 35, u 36, u 37, u 38, u 39, u 40, u 41, u 42, u 43, u 44, u 45, u 46, u 47, u 48, u 49, u 50, u 51, u 52, u 53, u 54, u 55, u 56, u 57, u 58, u 59, u 60, u 61, u 62, u 63, u 64, u 65, u 66, u 67, u 68, u 69, u 70, u 71, u 72, u 73, u 74, u 75, u 76, u 77, u 78, u 79, u 80, u 81, u 82, u 83, .bool false, u 85, u 86, u 87, u 88, u 89, u 90, u 91, u 92, u 93, u 94, u 95, u 96], []⟩ := act_eq hs1 hd1 ⟨hx 0, hx 1, hk1 2, hk1 3, hk1 4, hx 5, hx 6, hk1 7, hk1 8, hk1 9, hk1 10, hk1 11, hk1 12, hk1 13, hk1 14, hk1 15, hx 16, hx 17, hx 18, hx 19, hx 20, hx 21, hx 22, hx 23, hx 24, hx 25, hx 26, hx 27, hx 28, hx 29, hx 30, hx 31, hx 32, hx 33, hx 34, hx 35, hx 36, hx 37, hx 38, hx 39, hx 40, hx 41, hx 42, hx 43, hx 44, hx 45, hx 46, hx 47, hx 48, hx 49, hx 50, hx 51, hx 52, hx 53, hx 54, hx 55, hx 56, hx 57, hx 58, hx 59, hx 60, hx 61, hx 62, hx 63, hx 64, hx 65, hx 66, hx 67, hx 68, hx 69, hx 70, hx 71, hx 72, hx 73, hx 74, hx 75, hx 76, hx 77, hx 78, hx 79, hx 80, hx 81, hx 82, hx 83, hk1 84, hx 85, hx 86, hx 87, hx 88, hx 89, hx 90, hx 91, hx 92, hx 93, hx 94, hx 95, hx 96, trivial⟩
        subst ha
        refine hK1 _ _ ?_
        refine wp_cond_false rfl ?_
        refine wp_skip ?_
        refine hK0 _ _ ?_
        clear hx hs1 hd1 hk1 hb1 hK1 hK0
        go_upto_region 12 with fail
        obtain ⟨WB, eB, nB, bB, sB⟩ : ∃ WB, wa.alloc (.cells #[.int .i64 0, .slice none 0 0, .slice none 0 0, .slice none 0 0, .slice none 0 0, .slice none 0 0, .slice none 0 0, .slice none 0 0, .slice none 0 0, .slice none 0 0, .slice none 0 0, .slice none 0 0, .slice none 0 0] 45) = WB ∧ BoxV WB wa.heap.size [.int .i64 0, nil0, nil0, nil0, nil0, nil0, nil0, nil0, nil0, nil0, nil0, nil0, nil0] ∧ Below wa.heap.size wa WB ∧ wa.heap.size < WB.heap.size := ⟨_, rfl, BoxV.new _ _ _, (Below.refl _ _).alloc (Nat.le_refl _) _, by simp⟩
        rw [eB]
        clear eB
        have Q := Lib.hid (book_new wa WB nB)
        have BW := Lib.hid bB
        clear nB bB sB
        obtain ⟨p1, p2, -, -⟩ := (N5.out _ BW.out).c2
        go_wp2_with fail
        refine (Num_any wa.heap.size wa.heap.size l1.length cX aX s1 _ [] _ Q.out BW.out.size (by simp)).mono ?_
        rintro e v12 ⟨rfl, ⟨vr12, hq⟩, hb⟩
        have Q : Hid (BookAt v12 wa.heap.size wa.heap.size vr12 [⟨.slice aX l1.length cX, nil0, 1⟩]) := hq
        have BW := Lib.hid (BW.out.trans hb)
        clear hq hb p1 p2
        obtain ⟨p1, p2, -, -⟩ := (N6.out _ BW.out).c2
        go_wp2_with fail
        refine (Num_any wa.heap.size wa.heap.size l2.length cY aY s2 _ [⟨.slice aX l1.length cX, nil0, 1⟩] _ Q.out BW.out.size (by simp)).mono ?_
        rintro e v13 ⟨rfl, ⟨vr13, hq⟩, hb⟩
        have Q : Hid (BookAt v13 wa.heap.size wa.heap.size vr13 [⟨.slice aX l1.length cX, nil0, 1⟩, ⟨.slice aY l2.length cY, nil0, 2⟩]) := hq
        have BW := Lib.hid (BW.out.trans hb)
        clear hq hb p1 p2
        obtain ⟨p1, p2, p3, p4⟩ := (N7.out _ BW.out).c4
        go_wp2_with fail
        refine (FracB_any wa.heap.size wa.heap.size l7.length c7 m7.length d7 a7 b7 s7 t7 _ [⟨.slice aX l1.length cX, nil0, 1⟩, ⟨.slice aY l2.length cY, nil0, 2⟩] _ Q.out BW.out.size (by simp)).mono ?_
        rintro e v14 ⟨rfl, ⟨vr14, hq⟩, hb⟩
        have Q : Hid (BookAt v14 wa.heap.size wa.heap.size vr14 [⟨.slice aX l1.length cX, nil0, 1⟩, ⟨.slice aY l2.length cY, nil0, 2⟩, ⟨.slice a7 l7.length c7, nil0, 3⟩, ⟨.slice b7 m7.length d7, nil0, 4⟩]) := hq
        have BW := Lib.hid (BW.out.trans hb)
        clear hq hb p1 p2 p3 p4
        obtain ⟨p1, p2, p3, p4⟩ := (N8.out _ BW.out).c4
        go_wp2_with fail
        refine (FracB_any wa.heap.size wa.heap.size l8.length c8 m8.length d8 a8 b8 s8 t8 _ [⟨.slice aX l1.length cX, nil0, 1⟩, ⟨.slice aY l2.length cY, nil0, 2⟩, ⟨.slice a7 l7.length c7, nil0, 3⟩, ⟨.slice b7 m7.length d7, nil0, 4⟩] _ Q.out BW.out.size (by simp)).mono ?_
        rintro e v15 ⟨rfl, ⟨vr15, hq⟩, hb⟩
        have Q : Hid (BookAt v15 wa.heap.size wa.heap.size vr15 [⟨.slice aX l1.length cX, nil0, 1⟩, ⟨.slice aY l2.length cY, nil0, 2⟩, ⟨.slice a7 l7.length c7, nil0, 3⟩, ⟨.slice b7 m7.length d7, nil0, 4⟩, ⟨.slice a8 l8.length c8, nil0, 5⟩, ⟨.slice b8 m8.length d8, nil0, 6⟩]) := hq
        have BW := Lib.hid (BW.out.trans hb)
        clear hq hb p1 p2 p3 p4
        obtain ⟨p1, p2, p3, p4⟩ := (N10.out _ BW.out).c4
        go_wp2_with fail
        refine (FracB_any wa.heap.size wa.heap.size l10.length c10 m10.length d10 a10 b10 s10 t10 _ [⟨.slice aX l1.length cX, nil0, 1⟩, ⟨.slice aY l2.length cY, nil0, 2⟩, ⟨.slice a7 l7.length c7, nil0, 3⟩, ⟨.slice b7 m7.length d7, nil0, 4⟩, ⟨.slice a8 l8.length c8, nil0, 5⟩, ⟨.slice b8 m8.length d8, nil0, 6⟩] _ Q.out BW.out.size (by simp)).mono ?_
        rintro e v16 ⟨rfl, ⟨vr16, hq⟩, hb⟩
        have Q : Hid (BookAt v16 wa.heap.size wa.heap.size vr16 [⟨.slice aX l1.length cX, nil0, 1⟩, ⟨.slice aY l2.length cY, nil0, 2⟩, ⟨.slice a7 l7.length c7, nil0, 3⟩, ⟨.slice b7 m7.length d7, nil0, 4⟩, ⟨.slice a8 l8.length c8, nil0, 5⟩, ⟨.slice b8 m8.length d8, nil0, 6⟩, ⟨.slice a10 l10.length c10, nil0, 7⟩, ⟨.slice b10 m10.length d10, nil0, 8⟩]) := hq
        have BW := Lib.hid (BW.out.trans hb)
        clear hq hb p1 p2 p3 p4
        go_wp2_with fail
        have i5 := I5.out
        have i6 := I6.out
        have i7 := I7.out
        have i8 := I8.out
        have i9 := I9.out
        have i10 := I10.out
        have iA := IA.out
        have iW := IW.out
        have kk := K.out
        have kk1 := kk.1
        have kk2 := kk.2
        have y7 := SY7.out
        have z7 := SZ7.out
        have y8 := SY8.out
        have z8 := SZ8.out
        have y10 := SY10.out
        have z10 := SZ10.out
        refine (Apart_any w.heap.size wa.heap.size wa.heap.size _ [⟨.slice aX l1.length cX, nil0, 1⟩, ⟨.slice aY l2.length cY, nil0, 2⟩, ⟨.slice a7 l7.length c7, nil0, 3⟩, ⟨.slice b7 m7.length d7, nil0, 4⟩, ⟨.slice a8 l8.length c8, nil0, 5⟩, ⟨.slice b8 m8.length d8, nil0, 6⟩, ⟨.slice a10 l10.length c10, nil0, 7⟩, ⟨.slice b10 m10.length d10, nil0, 8⟩] (eight l1 l2 l7 m7 l8 m8 l10 m10) _ Q.out (by simp)
          (eight_get (P := fun i (e : Ent) => OwnL w.heap.size v16 e.v (eight l1 l2 l7 m7 l8 m8 l10 m10 i) ∧ ∀ b, e.v.ownBlock = some b → b < wa.heap.size) ⟨(OX.out _ BW.out).mono (by omega), fun b hb => by have := SX.out b hb; omega⟩ ⟨(OY.out _ BW.out).mono (by omega), fun b hb => by have := SY.out b hb; omega⟩ ⟨(OA7.out _ BW.out).mono (by omega), fun b hb => by have := SA7.out b hb; omega⟩ ⟨(OB7.out _ BW.out).mono (by omega), fun b hb => by have := SB7.out b hb; omega⟩ ⟨(OA8.out _ BW.out).mono (by omega), fun b hb => by have := SA8.out b hb; omega⟩ ⟨(OB8.out _ BW.out).mono (by omega), fun b hb => by have := SB8.out b hb; omega⟩ ⟨(OA10.out _ BW.out).mono (by omega), fun b hb => by have := SA10.out b hb; omega⟩ ⟨(OB10.out _ BW.out).mono (by omega), fun b hb => by have := SB10.out b hb; omega⟩)
          (Sep.groups (six0 W0.heap.size W5.heap.size W6.heap.size W7.heap.size W8.heap.size W10.heap.size W10.heap.size) grp8 (six0_mono (by omega) (by omega) (by omega) (by omega) (by omega) (by omega)) (eight_get (P := fun i (e : Ent) => Within e.v (six0 W0.heap.size W5.heap.size W6.heap.size W7.heap.size W8.heap.size W10.heap.size W10.heap.size (grp8 i)) (six0 W0.heap.size W5.heap.size W6.heap.size W7.heap.size W8.heap.size W10.heap.size W10.heap.size (grp8 i + 1))) (show Within _ W0.heap.size W5.heap.size from SX.out.mono (by omega) (by omega)) (show Within _ W5.heap.size W6.heap.size from SY.out.mono (by omega) (by omega)) (show Within _ W6.heap.size W7.heap.size from SA7.out.mono (by omega) (by omega)) (show Within _ W6.heap.size W7.heap.size from SB7.out.mono (by omega) (by omega)) (show Within _ W7.heap.size W8.heap.size from SA8.out.mono (by omega) (by omega)) (show Within _ W7.heap.size W8.heap.size from SB8.out.mono (by omega) (by omega)) (show Within _ W8.heap.size W10.heap.size from SA10.out.mono (by omega) (by omega)) (show Within _ W8.heap.size W10.heap.size from SB10.out.mono (by omega) (by omega))) (eight_apart SP7.out SP8.out SP10.out))
          (eight_get (P := fun i (e : Ent) => e.n = i + 1 ∧ e.g = nil0) ⟨rfl, rfl⟩ ⟨rfl, rfl⟩ ⟨rfl, rfl⟩ ⟨rfl, rfl⟩ ⟨rfl, rfl⟩ ⟨rfl, rfl⟩ ⟨rfl, rfl⟩ ⟨rfl, rfl⟩) (by simp) (eight_all (by omega) (by omega) (by omega) (by omega) (by omega) (by omega) (by omega) (by omega)) (by omega) BW.out.size).mono ?_
        rintro e v19 ⟨rfl, hb⟩
        have RF := Lib.hid ((RW.out.trans (BW.out.mono RW.out.size)).trans hb)
        clear hb
        go_wp2_with fail
        go_ret
        exact ⟨rfl, RF.out⟩

end Go.Proofs.YtgpoljbccimkjaaGreatDoor
