/- Walk: a fraction in memory of its own. -/
import Derived.Test.YtgpoljbccimkjaaGreatDoorFRed
import Derived.Test.YtgpoljbccimkjaaGreatDoorDivide2
namespace Go.Proofs.YtgpoljbccimkjaaGreatDoor
set_option linter.unusedSimpArgs false
set_option linter.unusedVariables false
open Go.RowKit Go.Shelf

theorem BoxV.set_at {W : World} {b i : Nat} {vs : List Value} {x : Value} (h : BoxV W b vs) (hx : vs[i]? = some x) (hn : noU32 x = true) (y : Value) : ∃ V, W.setCell ⟨b, i, none⟩ y = V ∧ Stored W V b ∧ BoxV V b (vs.set i y) ∧ ∀ n u l, b < n → OwnL n W u l → OwnL n V u l := by
  have hi : i < vs.length := (List.getElem?_eq_some_iff.1 hx).1
  have hc := (h i hi).1
  rw [hx] at hc
  refine ⟨_, rfl, Stored.one hc hn y, fun j hj => ?_, fun n u l hb ho => ho.setBox hb _ _⟩
  rw [List.length_set] at hj
  refine ⟨?_, by rw [World.frozen?_setCell]; exact (h j hj).2⟩
  by_cases hij : i = j
  · subst hij
    rw [World.cell?_setCell_same _ _ _ hc, List.getElem?_set_self hi]
  · rw [World.cell?_setCell_other _ _ _ _ (by simp <;> omega), List.getElem?_set_ne hij]
    exact (h j hj).1
theorem OwnL.setAll {n b : Nat} {u : Value} {l : List Nat} (hb : b < n) : ∀ (ys : List Value) (W : World) (o : Nat), OwnL n W u l → OwnL n (setAll W b o ys) u l
  | [], _, _, h => h
  | y :: ys, W, o, h => OwnL.setAll hb ys _ _ (h.setBox hb o y)

/-- It answers a fraction that may be, in memory of its own from block n on. -/
def FrOwn (n : Nat) (w' : World) (e : Ending) (k : Nat) (q : Rat) : Prop := ∃ s a l c s' a' l' c', e = .returned (.agg #[.bool s, .slice a l.length c, .bool s', .slice a' l'.length c']) ∧ OwnL n w' (.slice a l.length c) l ∧ OwnL n w' (.slice a' l'.length c') l' ∧ Apart (.slice a l.length c) (.slice a' l'.length c') ∧ FrOk w' (.agg #[.bool s, .slice a l.length c, .bool s', .slice a' l'.length c']) k q ∧ l.length ≤ k ∧ l'.length ≤ k
theorem FrOwn.ans {n k : Nat} {w' : World} {e : Ending} {q : Rat} (h : FrOwn n w' e k q) : FrAns w' e k q := by
  obtain ⟨s, a, l, c, s', a', l', c', rfl, -, -, -, h, -⟩ := h
  exact ⟨_, rfl, h⟩
theorem box_copy (w : World) (x0 x1 x2 x3 : Value) : ∃ W0, (w.alloc (.cells #[x0, x1, x2, x3] 58)).alloc (.cells #[.bool false, .slice none 0 0, .bool false, .slice none 0 0] 58) = W0 ∧
    BoxV W0 w.heap.size [x0, x1, x2, x3] ∧ BoxV W0 (w.heap.size + 1) nought4 ∧ Below w.heap.size w W0 ∧ W0.heap.size = w.heap.size + 2 := by
  obtain ⟨W1, e1⟩ : ∃ W, w.alloc (.cells #[x0, x1, x2, x3] 58) = W := ⟨_, rfl⟩
  obtain ⟨a1, a2, a3⟩ := BoxV.new1 (vs := [x0, x1, x2, x3]) e1 rfl
  rw [e1]
  obtain ⟨W4, e4⟩ : ∃ W, W1.alloc (.cells #[.bool false, .slice none 0 0, .bool false, .slice none 0 0] 58) = W := ⟨_, rfl⟩
  obtain ⟨d1, d2, d3⟩ := BoxV.new1 (vs := nought4) e4 a3
  exact ⟨W4, e4, a1.below d2, d1, Below.step a2 d2, by omega⟩

set_option maxRecDepth 100000 in
set_option maxHeartbeats 4000000 in
theorem copied_own {w : World} {u : Value} {k : Nat} {q : Rat} (h : FrOk w u k q) (hk : k ≤ 1000000) :
    Calls Tryz.prog 145 #[u] w fun e w' => FrOwn w.heap.size w' e k q ∧ Below w.heap.size w w' := by
  obtain ⟨s, v, l, s', v', l', rfl, h2, h3, h4, h5, h6, h7, h8, h9⟩ := h
  have HL : Hid (∀ W, Below w.heap.size w W → Lim W v l) := fun _ hb => h2.below hb
  have HL' : Hid (∀ W, Below w.heap.size w W → Lim W v' l') := fun _ hb => h3.below hb
  have HF : Hid (okB s l = true ∧ okB s' l' = true ∧ valS s l = q.num ∧ valS s' l' = (q.den : Int) ∧ l.length ≤ k ∧ l'.length ≤ k) := ⟨h4, h5, h6, h7, h8, h9⟩
  have HK : Hid (l.length ≤ 1000000 ∧ l'.length ≤ 1000000) := ⟨by omega, by omega⟩
  obtain ⟨a, c, rfl, -⟩ := h2
  obtain ⟨a', c', rfl, -⟩ := h3
  obtain ⟨W0, e0, n1, n2, hb0, hz0⟩ := box_copy w (.bool s) (.slice a l.length c) (.bool s') (.slice a' l'.length c')
  have N1 := n1.keep
  have N2 := n2.keep
  have B0 := Lib.hid hb0
  have HZ0 := Lib.hid hz0
  obtain ⟨c0, c1, c2, c3⟩ := n1.c4
  clear h4 h5 h6 h7 h8 h9 hk n1 n2 hb0 hz0
  go_enter Tryz.func145, Tryz.ntmps145
  go_upto_region 1 with fail
  clear e0
  go_region_with (first | (go_at_call 153; (with_reducible refine (Clone_any (.slice a l.length c) l _ (HL.out _ (by repeat (first | exact Below.refl _ _ | with_reducible refine Below.drew ?_ | with_reducible refine below_drewN ?_ _ | with_reducible refine Below.setCell ?_ (by first | (simp; done) | (simp; omega) | omega) _ | with_reducible refine Below.alloc ?_ (by first | (simp; done) | (simp; omega) | omega) _ | (with_reducible refine Below.step ?_ B0.out)))) HK.out.1).mono ?_); rintro e w1 ⟨⟨v1, rfl, ho1⟩, hb10⟩; have hb1 := Below.undrew' hb10; have O1 := Lib.hid ho1; obtain ⟨a1, k1, rfl, -⟩ := ho1.lim; obtain ⟨d0, d1, d2, d3⟩ := (N1.out _ hb1).c4) | (go_at_call 153; (with_reducible refine (Clone_any (.slice a' l'.length c') l' _ (HL'.out _ (by repeat (first | exact Below.refl _ _ | with_reducible refine Below.drew ?_ | with_reducible refine below_drewN ?_ _ | with_reducible refine Below.setCell ?_ (by first | (simp; done) | (simp; omega) | omega) _ | with_reducible refine Below.alloc ?_ (by first | (simp; done) | (simp; omega) | omega) _ | (with_reducible refine Below.step ?_ hb1) | (with_reducible refine Below.step ?_ B0.out)))) HK.out.2).mono ?_); rintro e w2 ⟨⟨v2, rfl, ho2⟩, hb2⟩; have O2 := Lib.hid ho2; obtain ⟨a2, k2, rfl, -⟩ := ho2.lim; obtain ⟨g0, g1, g2, g3⟩ := ((N1.out _ hb1).below hb2).c4; obtain ⟨f0, f1, f2, f3⟩ := ((N1.out _ hb1).below hb2).f4))
  all_goals
    have hB2 : Below W0.heap.size W0 w2 := hb1.trans (hb2.mono hb1.size)
    have hsz : W0.heap.size ≤ w1.heap.size := hb1.size
    have hz0 := HZ0.out
    obtain ⟨V1, e1, st1, bx1, ow1⟩ := (N1.out _ hB2).set_at (i := 1) rfl rfl (.slice a1 l.length k1)
    obtain ⟨V2, e2, st2, bx2, ow2⟩ := bx1.set_at (i := 3) rfl rfl (.slice a2 l'.length k2)
    have n2 := st2.box (by omega) (st1.box (by omega) (N2.out _ hB2))
    have o1 : OwnL w.heap.size V2 (.slice a1 l.length k1) l := (ow2 _ _ _ (by omega) (ow1 _ _ _ (by omega) ((O1.out.mono (show W0.heap.size ≤ _ from Nat.le_refl _)).below hb2))).mono (by omega)
    have o2 : OwnL w.heap.size V2 (.slice a2 l'.length k2) l' := (ow2 _ _ _ (by omega) (ow1 _ _ _ (by omega) O2.out)).mono (by omega)
    have o1' : OwnL W0.heap.size V2 (.slice a1 l.length k1) l := ow2 _ _ _ (by omega) (ow1 _ _ _ (by omega) ((O1.out.mono (show W0.heap.size ≤ _ from Nat.le_refl _)).below hb2))
    have o2' : OwnL W0.heap.size V2 (.slice a2 l'.length k2) l' := (ow2 _ _ _ (by omega) (ow1 _ _ _ (by omega) (O2.out.mono hsz)))
    have hap : Apart (.slice a1 l.length k1) (.slice a2 l'.length k2) := fun g h1 h2 => by
      have x1 := O1.out.lt h1
      have x2 := O2.out.ge h2
      omega
    have P1 := Lib.hid o1'
    have P2 := Lib.hid o2'
    have PA := Lib.hid hap
    have PB := Lib.hid (st2.below w (Nat.le_refl _) (st1.below w (Nat.le_refl _) (Below.step B0.out hB2)))
    have PN := Lib.hid n2
    rw [e1, e2]
    obtain ⟨x0, x1, x2, x3⟩ := bx2.c4
    obtain ⟨y0, y1, y2, y3⟩ := n2.c4
    obtain ⟨z0, z1, z2, z3⟩ := n2.f4
    clear O1 O2 hb1 hb2 hb10 hB2 st1 bx1 ow1 st2 bx2 ow2 n2 o1 o2 o1' o2' hap e1 e2 d0 d1 d2 d3 g0 g1 g2 g3 f0 f1 f2 f3
    go_wp2_with fail
    obtain ⟨W', e, hst, hbx⟩ := PN.out.store (ys := [.bool s, .slice a1 l.length k1, .bool s', .slice a2 l'.length k2]) rfl rfl
    have q1 : OwnL W0.heap.size W' (.slice a1 l.length k1) l := by rw [← e]; exact OwnL.setAll (by omega) _ _ _ P1.out
    have q2 : OwnL W0.heap.size W' (.slice a2 l'.length k2) l' := by rw [← e]; exact OwnL.setAll (by omega) _ _ _ P2.out
    simp only [Go.Proofs.YtgpoljbccimkjaaGreatDoor.setAll] at e
    rw [e]
    exact ret_fr (t := 2) rfl rfl rfl hbx ⟨⟨s, a1, l, k1, s', a2, l', k2, rfl, q1.mono (by omega), q2.mono (by omega), PA.out, ⟨s, _, l, s', _, l', rfl, q1.lim, q2.lim, HF.out⟩, HF.out.2.2.2.2.1, HF.out.2.2.2.2.2⟩, hst.below w (by omega) PB.out⟩

end Go.Proofs.YtgpoljbccimkjaaGreatDoor
