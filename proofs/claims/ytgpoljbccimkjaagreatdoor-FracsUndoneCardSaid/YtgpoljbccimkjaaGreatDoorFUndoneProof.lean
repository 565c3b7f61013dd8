/- FracsUndone: for every input the law answers true and leaves what it was handed as it was; the library's tables are as the program lays them. -/
import Derived.Test.YtgpoljbccimkjaaGreatDoorFGreat
import Derived.Test.YtgpoljbccimkjaaGreatDoorFRow
namespace Go.Proofs.YtgpoljbccimkjaaGreatDoor
set_option linter.unusedSimpArgs false
set_option linter.unusedVariables false
open Go.RowKit Go.Shelf

theorem undone_z (A : Rat) : A - A = Rat.divInt 0 1 := by rw [show Rat.divInt 0 1 = 0 from by decide +kernel]; grind
theorem undone_a {A B : Rat} (h : B ≠ 0) : A * B / B = A := by grind
theorem undone_b {A B : Rat} (h : B ≠ 0) : A / B * B = A := by grind
theorem undone_c {A B : Rat} (h : B ≠ 0) : A * (Rat.divInt 1 1 / B) = A / B := by rw [show Rat.divInt 1 1 = 1 from by decide +kernel]; grind

/-- A fraction, and no error. -/
def IsFT (k : Nat) (q : Rat) (v : Value) (w : World) : Prop := ∃ u, v = .tuple #[u, .int .i64 0] ∧ FrOk w u k q
theorem IsFT.grows (k : Nat) (q : Rat) : Grows (IsFT k q) := fun _ _ _ h hb => by
  obtain ⟨u, h1, h2⟩ := h
  exact ⟨u, h1, h2.below hb⟩
theorem IsFT.fst {k : Nat} {q : Rat} {v : Value} {w : World} (h : IsFT k q v w) : ∃ vs u, v = .tuple vs ∧ vs[0]? = some u ∧ IsF k q u w := by
  obtain ⟨u, h1, h2⟩ := h
  exact ⟨_, u, h1, rfl, h2⟩
theorem IsFT.snd {k : Nat} {q : Rat} {v : Value} {w : World} (h : IsFT k q v w) : ∃ vs u, v = .tuple vs ∧ vs[1]? = some u ∧ IsV (.int .i64 0) u w := by
  obtain ⟨u, h1, h2⟩ := h
  exact ⟨_, _, h1, rfl, rfl⟩
theorem ansFT {w : World} {e : Ending} {k : Nat} {q : Rat} {B : Prop} (h : FrTup w e k q ∧ B) : (∃ r, e = .returned r ∧ IsFT k q r w) ∧ B := by
  obtain ⟨⟨u, rfl, h1⟩, h2⟩ := h
  exact ⟨⟨_, rfl, u, rfl, h1⟩, h2⟩
section
variable {bs : List (Nat × Bool)} {fs : List (Nat × (Value → World → Prop))} {w0 : World} {d : Nat} {ty : TypeId} {pos : String} {af : Array Edge} {g : Option (Nat × Bool)}
theorem step_extract {x i : Nat} (h : ∀ v w, Known bs fs x v w → ∃ vs u, v = .tuple vs ∧ vs[i]? = some u ∧ Known bs fs d u w) : StepOk Tryz.prog bs fs w0 ⟨some d, .extract (.tmp x) i, ty, pos, af, g⟩ :=
  step_value rfl fun a w hb hk => by
    obtain ⟨vs, u, e, hu, hku⟩ := h _ _ (hk x (looks1 rfl))
    exact ⟨u, w, by simp [execOp, e, Instr.extract, hu], hku, Below.refl _ _⟩
end
theorem sign_zero {B : Rat} (h : B = 0) : (cmpR B 0 == 0) = true := by
  subst h
  rfl
theorem sign_some {B : Rat} (h : B ≠ 0) : (cmpR B 0 == 0) = false := by
  unfold cmpR
  by_cases h1 : B < 0
  · rw [if_pos h1]
    rfl
  · rw [if_neg h1, if_pos (by grind)]
    rfl

set_option maxRecDepth 100000 in
set_option maxHeartbeats 8000000 in
theorem FracsUndone_true (w : World) (s1 s1' : Bool) (v1 v1' : Value) (l1 l1' : List Nat) (h1 : Lim w v1 l1) (h1' : Lim w v1' l1') (s2 s2' : Bool) (v2 v2' : Value) (l2 l2' : List Nat) (h2 : Lim w v2 l2) (h2' : Lim w v2' l2') (htab : Tab w) :
    Calls Tryz.prog 9 #[.agg #[.bool s1, v1, .bool s1', v1'], .agg #[.bool s2, v2, .bool s2', v2']] w fun e w' => e = .returned (.bool true) ∧ Below w.heap.size w w' := by
  have g1 := h1
  have g1' := h1'
  have g2 := h2
  have g2' := h2'
  obtain ⟨a1, c1, rfl, -⟩ := h1
  obtain ⟨a1', c1', rfl, -⟩ := h1'
  obtain ⟨a2, c2, rfl, -⟩ := h2
  obtain ⟨a2', c2', rfl, -⟩ := h2'
  have HMX : Hid (l1.length ≤ 9223372036854775807 ∧ l1'.length ≤ 9223372036854775807 ∧ l2.length ≤ 9223372036854775807 ∧ l2'.length ≤ 9223372036854775807) := ⟨g1.max, g1'.max, g2.max, g2'.max⟩
  obtain ⟨W0, e0, n1, n2, hb0⟩ := box_frs2 w (.bool s1) (.slice a1 l1.length c1) (.bool s1') (.slice a1' l1'.length c1') (.bool s2) (.slice a2 l2.length c2) (.bool s2') (.slice a2' l2'.length c2')
  have T0 : Hid (∀ W, Below w.heap.size w W → Tab W) := fun W hb => htab.below hb
  have G1 := Lib.hid (g1.below hb0)
  have G1' := Lib.hid (g1'.below hb0)
  have G2 := Lib.hid (g2.below hb0)
  have G2' := Lib.hid (g2'.below hb0)
  have N1 := n1.keep
  have N2 := n2.keep
  have B0 := Lib.hid hb0
  clear g1 g1' g2 g2' n1 n2 hb0 htab
  go_enter Tryz.func9, Tryz.ntmps9
  go_wp2_with fail
  clear e0
  refine (aliveF_true _ (T0.out _ B0.out)).mono ?_
  rintro e w1 ⟨rfl, hb1⟩
  have B1 := Lib.hid hb1
  obtain ⟨p0, p1, p2, p3⟩ := (N1.out _ hb1).c4
  obtain ⟨p4, p5, p6, p7⟩ := (N2.out _ hb1).c4
  clear hb1
  go_wp2_with fail
  by_cases hbig : (10 < l1.length ∨ 10 < l1'.length) ∨ (10 < l2.length ∨ 10 < l2'.length)
  · refine (greatF2 (most := 10) (r := true) (n1 := l1.length) (n2 := l1'.length) (n3 := l2.length) (n4 := l2'.length) (p1 := a1) (p2 := a1') (p3 := a2) (p4 := a2') (c1 := c1) (c2 := c1') (c3 := c2) (c4 := c2') rfl (by decide) HMX.out.1 HMX.out.2.1 HMX.out.2.2.1 HMX.out.2.2.2 (by go_simp) (by go_simp) (by go_simp) (by go_simp) (decide_eq_true hbig)).mono ?_
    rintro e w2 ⟨rfl, rfl⟩
    go_wp2_with fail
    refine (aliveF_true _ (T0.out _ (Below.step B0.out (Below.step B1.out (by repeat (first | exact Below.refl _ _ | with_reducible refine Below.drew ?_ | with_reducible refine below_drewN ?_ _ | with_reducible refine Below.setCell ?_ (by first | (simp; done) | (simp; omega) | omega) _ | with_reducible refine Below.alloc ?_ (by first | (simp; done) | (simp; omega) | omega) _)))))).mono ?_
    rintro e w9 ⟨rfl, hb9⟩
    have B9 := Lib.hid (Below.step B0.out (Below.step B1.out (Below.step (w := w1) (by repeat (first | exact Below.refl _ _ | with_reducible refine Below.drew ?_ | with_reducible refine below_drewN ?_ _ | with_reducible refine Below.setCell ?_ (by first | (simp; done) | (simp; omega) | omega) _ | with_reducible refine Below.alloc ?_ (by first | (simp; done) | (simp; omega) | omega) _)) hb9)))
    clear hb9
    go_wp2_with fail
    go_ret
    exact ⟨rfl, B9.out⟩
  · refine (greatF2 (most := 10) (r := false) (n1 := l1.length) (n2 := l1'.length) (n3 := l2.length) (n4 := l2'.length) (p1 := a1) (p2 := a1') (p3 := a2) (p4 := a2') (c1 := c1) (c2 := c1') (c3 := c2) (c4 := c2') rfl (by decide) HMX.out.1 HMX.out.2.1 HMX.out.2.2.1 HMX.out.2.2.2 (by go_simp) (by go_simp) (by go_simp) (by go_simp) (decide_eq_false hbig)).mono ?_
    rintro e w2 ⟨rfl, rfl⟩
    obtain ⟨W2, e2, b2⟩ : ∃ W2, w1.alloc (.cells #[.bool s1, .slice a1 l1.length c1, .bool s1', .slice a1' l1'.length c1', .bool s2, .slice a2 l2.length c2, .bool s2', .slice a2' l2'.length c2'] 58) = W2 ∧ Below w1.heap.size w1 W2 := ⟨_, rfl, (Below.refl _ _).alloc (Nat.le_refl _) _⟩
    have R2 := Below.step B1.out b2
    rw [e2]
    obtain ⟨A, hA⟩ : ∃ A, ratZ s1 l1 s1' l1' = A := ⟨_, rfl⟩
    obtain ⟨B, hB⟩ : ∃ B, ratZ s2 l2 s2' l2' = B := ⟨_, rfl⟩
    have ha := FrAt.of (s := s1) (s' := s1') (k := 10) (G1.out.below R2) (G1'.out.below R2) (by omega) (by omega)
    have hb := FrAt.of (s := s2) (s' := s2') (k := 10) (G2.out.below R2) (G2'.out.below R2) (by omega) (by omega)
    rw [hA] at ha
    rw [hB] at hb
    have HA := ha.keep
    have HB := hb.keep
    have N1 := (N1.out _ R2).keep
    have N2 := (N2.out _ R2).keep
    have RW := Lib.hid (Below.step B0.out R2)
    obtain ⟨q0, q1, q2, q3⟩ := (N1.out _ (Below.refl _ _)).c4
    clear ha hb hA hB R2 b2 e2 hbig p0 p1 p2 p3 p4 p5 p6 p7
    go_wp2_with fail
    refine (CheckF_at (HA.out _ (Below.refl _ _)) (by decide)).mono ?_
    rintro e w3 ⟨⟨rfl, ha⟩ | ⟨rfl, -⟩, hb3⟩
    rotate_left
    · have R3 := Lib.hid (Below.step RW.out hb3)
      clear hb3
      go_wp2_with fail
      refine (aliveF_true _ (T0.out _ R3.out)).mono ?_
      rintro e w9 ⟨rfl, hb9⟩
      have B9 := Lib.hid (Below.step R3.out hb9)
      clear hb9
      go_wp2_with fail
      go_ret
      exact ⟨rfl, B9.out⟩
    have HA := (ha.below hb3).keep
    have HB := (HB.out _ hb3).keep
    have N1 := (N1.out _ hb3).keep
    have N2 := (N2.out _ hb3).keep
    have RW := Lib.hid (Below.step RW.out hb3)
    obtain ⟨p0, p1, p2, p3⟩ := (N2.out _ (Below.refl _ _)).c4
    clear hb3 ha q0 q1 q2 q3
    go_wp2_with fail
    refine (CheckF_at (HB.out _ (Below.refl _ _)) (by decide)).mono ?_
    rintro e w3' ⟨⟨rfl, hb⟩ | ⟨rfl, -⟩, hb3⟩
    rotate_left
    · have R3 := Lib.hid (Below.step RW.out hb3)
      clear hb3
      go_wp2_with fail
      refine (aliveF_true _ (T0.out _ R3.out)).mono ?_
      rintro e w9 ⟨rfl, hb9⟩
      have B9 := Lib.hid (Below.step R3.out hb9)
      clear hb9
      go_wp2_with fail
      go_ret
      exact ⟨rfl, B9.out⟩
    have HB := (hb.below hb3).keep
    have HA := (HA.out _ hb3).keep
    have N1 := (N1.out _ hb3).keep
    have N2 := (N2.out _ hb3).keep
    have RW := Lib.hid (Below.step RW.out hb3)
    clear hb3 hb p0 p1 p2 p3
    go_upto_region 3 with fail
    rename_i hK0 K3 hK3
    refine wp_region_known [(36, true), (37, false), (38, false), (43, true), (44, false), (45, false), (46, false), (53, true), (54, false), (55, false)]
      [(2, IsV (.pointer (some ⟨w.heap.size, 0, none⟩))), (3, IsV (.pointer (some ⟨(w.heap.size + 1), 0, none⟩)))]
      [(30, IsF 10 (A)), (31, IsF 10 (B)), (32, IsF 21 ((A + B))), (33, IsF 10 (B)), (34, IsF 32 (((A + B) - B))), (35, IsF 10 (A)), (39, IsF 10 (A)), (40, IsF 10 (A)), (41, IsF 21 ((A - A))), (42, IsF 3 (Rat.divInt 0 1)), (47, IsF 10 (A)), (48, IsF 10 (B)), (49, IsF 21 ((A - B))), (50, IsF 10 (B)), (51, IsF 32 (((A - B) + B))), (52, IsF 10 (A))]
      118 (by kernel_rfl) rfl (by kernel_rfl) (by kernel_rfl) ⟨rfl, rfl, trivial⟩ ⟨IsV.grows _ , IsV.grows _ , IsF.grows _ _ , IsF.grows _ _ , IsF.grows _ _ , IsF.grows _ _ , IsF.grows _ _ , IsF.grows _ _ , IsF.grows _ _ , IsF.grows _ _ , IsF.grows _ _ , IsF.grows _ _ , IsF.grows _ _ , IsF.grows _ _ , IsF.grows _ _ , IsF.grows _ _ , IsF.grows _ _ , IsF.grows _ _ , trivial⟩ ?_ ?_
    · refine AllStep.cons (step_loadT (fun _ _ h => h) (fun W hb => run_load4 rfl rfl rfl (N1.out W hb).at0 (N1.out W hb).at1 (N1.out W hb).at2 (N1.out W hb).at3) (fun w hb => HA.out w hb)) ?_
      refine AllStep.cons (step_loadT (fun _ _ h => h) (fun W hb => run_load4 rfl rfl rfl (N2.out W hb).at0 (N2.out W hb).at1 (N2.out W hb).at2 (N2.out W hb).at3) (fun w hb => HB.out w hb)) ?_
      refine AllStep.cons (step_call2 (Plain.of Tryz.func37 rfl rfl) (fun _ _ _ _ hu hv => AddF_at (FrOk.at hu) (FrOk.at hv) (by decide) (by decide) (by decide) (by decide))) ?_
      refine AllStep.cons (step_loadT (fun _ _ h => h) (fun W hb => run_load4 rfl rfl rfl (N2.out W hb).at0 (N2.out W hb).at1 (N2.out W hb).at2 (N2.out W hb).at3) (fun w hb => HB.out w hb)) ?_
      refine AllStep.cons (step_call2 (Plain.of Tryz.func38 rfl rfl) (fun _ _ _ _ hu hv => SubF_at (FrOk.at hu) (FrOk.at hv) (by decide) (by decide) (by decide) (by decide))) ?_
      refine AllStep.cons (step_loadT (fun _ _ h => h) (fun W hb => run_load4 rfl rfl rfl (N1.out W hb).at0 (N1.out W hb).at1 (N1.out W hb).at2 (N1.out W hb).at3) (fun w hb => HA.out w hb)) ?_
      refine AllStep.cons (step_call2 (Plain.of Tryz.func65 rfl rfl) (fun _ _ _ _ hu hv => (same_ok hu hv true (decide_eq_true (by grind))).mono (fun _ _ h => ansV h))) ?_
      refine AllStep.cons (step_not true (fun _ _ h => h) (fun _ => rfl)) ?_
      refine AllStep.cons (step_move (fun _ _ h => h)) ?_
      refine AllStep.cons (step_loadT (fun _ _ h => h) (fun W hb => run_load4 rfl rfl rfl (N1.out W hb).at0 (N1.out W hb).at1 (N1.out W hb).at2 (N1.out W hb).at3) (fun w hb => HA.out w hb)) ?_
      refine AllStep.cons (step_loadT (fun _ _ h => h) (fun W hb => run_load4 rfl rfl rfl (N1.out W hb).at0 (N1.out W hb).at1 (N1.out W hb).at2 (N1.out W hb).at3) (fun w hb => HA.out w hb)) ?_
      refine AllStep.cons (step_call2 (Plain.of Tryz.func38 rfl rfl) (fun _ _ _ _ hu hv => SubF_at (FrOk.at hu) (FrOk.at hv) (by decide) (by decide) (by decide) (by decide))) ?_
      refine AllStep.cons (step_callkk (Plain.of Tryz.func66 rfl rfl) (fun w _ => of_num (n := 0) (d := 1) (by decide) (by decide) (by decide))) ?_
      refine AllStep.cons (step_call2 (Plain.of Tryz.func65 rfl rfl) (fun _ _ _ _ hu hv => (same_ok hu hv true (decide_eq_true (undone_z A))).mono (fun _ _ h => ansV h))) ?_
      refine AllStep.cons (step_not true (fun _ _ h => h) (fun _ => rfl)) ?_
      refine AllStep.cons (step_pickF (fun _ _ h => h) (fun _ _ h => h)) ?_
      refine AllStep.cons (step_move (fun _ _ h => h)) ?_
      refine AllStep.cons (step_loadT (fun _ _ h => h) (fun W hb => run_load4 rfl rfl rfl (N1.out W hb).at0 (N1.out W hb).at1 (N1.out W hb).at2 (N1.out W hb).at3) (fun w hb => HA.out w hb)) ?_
      refine AllStep.cons (step_loadT (fun _ _ h => h) (fun W hb => run_load4 rfl rfl rfl (N2.out W hb).at0 (N2.out W hb).at1 (N2.out W hb).at2 (N2.out W hb).at3) (fun w hb => HB.out w hb)) ?_
      refine AllStep.cons (step_call2 (Plain.of Tryz.func38 rfl rfl) (fun _ _ _ _ hu hv => SubF_at (FrOk.at hu) (FrOk.at hv) (by decide) (by decide) (by decide) (by decide))) ?_
      refine AllStep.cons (step_loadT (fun _ _ h => h) (fun W hb => run_load4 rfl rfl rfl (N2.out W hb).at0 (N2.out W hb).at1 (N2.out W hb).at2 (N2.out W hb).at3) (fun w hb => HB.out w hb)) ?_
      refine AllStep.cons (step_call2 (Plain.of Tryz.func37 rfl rfl) (fun _ _ _ _ hu hv => AddF_at (FrOk.at hu) (FrOk.at hv) (by decide) (by decide) (by decide) (by decide))) ?_
      refine AllStep.cons (step_loadT (fun _ _ h => h) (fun W hb => run_load4 rfl rfl rfl (N1.out W hb).at0 (N1.out W hb).at1 (N1.out W hb).at2 (N1.out W hb).at3) (fun w hb => HA.out w hb)) ?_
      refine AllStep.cons (step_call2 (Plain.of Tryz.func65 rfl rfl) (fun _ _ _ _ hu hv => (same_ok hu hv true (decide_eq_true (by grind))).mono (fun _ _ h => ansV h))) ?_
      refine AllStep.cons (step_not true (fun _ _ h => h) (fun _ => rfl)) ?_
      refine AllStep.cons (step_pickF (fun _ _ h => h) (fun _ _ h => h)) ?_
      exact AllStep.nil
    intro a3 w3 hb3 hs3 hd3 hk3
    have q2 : a3.eval (.tmp 2) = .pointer (some ⟨w.heap.size, 0, none⟩) := hk3 2
    have q3 : a3.eval (.tmp 3) = .pointer (some ⟨w.heap.size + 1, 0, none⟩) := hk3 3
    have q55 : a3.eval (.tmp 55) = .bool false := hk3 55
    have hd3 : a3.defers = [] := hd3
    have HA := (HA.out _ hb3).keep
    have HB := (HB.out _ hb3).keep
    have N1 := (N1.out _ hb3).keep
    have N2 := (N2.out _ hb3).keep
    have RW := Lib.hid (Below.step RW.out hb3)
    refine hK3 _ _ ?_
    refine wp_cond_false q55 ?_
    refine wp_skip ?_
    refine hK0 _ _ ?_
    refine wp_seq_k ?_
    intro K5 hK5
    by_cases hz : B = 0
    · have HZ := Lib.hid hz
      have HS := Lib.hid (sign_zero hz)
      clear hz
      refine wp_region_tail []
        [(2, IsV (.pointer (some ⟨w.heap.size, 0, none⟩))), (3, IsV (.pointer (some ⟨(w.heap.size + 1), 0, none⟩)))]
        [(57, IsF 10 (A)), (58, IsF 10 (B)), (59, IsF 20 ((A * B))), (60, IsF 10 (B)), (61, IsV (.tuple #[frNone, .int .i64 6])), (56, IsV (.tuple #[frNone, .int .i64 6])), (62, IsV frNone), (63, IsV (.int .i64 (6))), (5, IsNew w3.heap.size nought4)]
        [5] 118 9 (by kernel_rfl) hs3 (by kernel_rfl) (by kernel_rfl) (by kernel_rfl) (by kernel_rfl) ⟨q2, q3, trivial⟩ ⟨IsV.grows _ , IsV.grows _ , IsF.grows _ _ , IsF.grows _ _ , IsF.grows _ _ , IsF.grows _ _ , IsV.grows _ , IsV.grows _ , IsV.grows _ , IsV.grows _ , IsNew.grows _ _ , trivial⟩ ?_ (fun d _ _ _ _ h => by cases d <;> exact h) ?_ ?_
      · refine AllStep2.step rfl rfl (step_loadT (fun _ _ h => h) (fun W hb => run_load4 rfl rfl rfl (N1.out W hb).at0 (N1.out W hb).at1 (N1.out W hb).at2 (N1.out W hb).at3) (fun w hb => HA.out w hb)) ?_
        refine AllStep2.step rfl rfl (step_loadT (fun _ _ h => h) (fun W hb => run_load4 rfl rfl rfl (N2.out W hb).at0 (N2.out W hb).at1 (N2.out W hb).at2 (N2.out W hb).at3) (fun w hb => HB.out w hb)) ?_
        refine AllStep2.step rfl rfl (step_call2 (Plain.of Tryz.func39 rfl rfl) (fun _ _ _ _ hu hv => MulF_at (FrOk.at hu) (FrOk.at hv) (by decide) (by decide) (by decide) (by decide))) ?_
        refine AllStep2.step rfl rfl (step_loadT (fun _ _ h => h) (fun W hb => run_load4 rfl rfl rfl (N2.out W hb).at0 (N2.out W hb).at1 (N2.out W hb).at2 (N2.out W hb).at3) (fun w hb => HB.out w hb)) ?_
        refine AllStep2.step rfl rfl (step_call2 (Plain.of Tryz.func40 rfl rfl) (fun _ _ _ _ hu hv => (DivF_zero hu (HZ.out ▸ hv) (by decide) (by decide)).mono (fun _ _ h => ansV h))) ?_
        refine AllStep2.quiet rfl (pure_move (fun _ _ h => h)) ?_
        refine AllStep2.quiet rfl (pure_extract (fun _ _ h => ⟨_, _, h, rfl, rfl⟩)) ?_
        refine AllStep2.quiet rfl (pure_extract (fun _ _ h => ⟨_, _, h, rfl, rfl⟩)) ?_
        refine AllStep2.fresh rfl rfl (alloc_T (fun _ => run_new4) (fun _ _ h => h)) ?_
        exact AllStep2.nil
      · intro t ht v w hk
        simp only [List.mem_cons, List.not_mem_nil, or_false] at ht
        subst ht
        exact IsNew.lt (show IsNew w3.heap.size _ v w from hk)
      intro a5 w5 hb5 hs5 hd5 hk5 _
      have q2 : a5.eval (.tmp 2) = .pointer (some ⟨w.heap.size, 0, none⟩) := hk5 2 (by kernel_rfl)
      have q3 : a5.eval (.tmp 3) = .pointer (some ⟨w.heap.size + 1, 0, none⟩) := hk5 3 (by kernel_rfl)
      obtain ⟨b5, q5, l5, m5, -⟩ : IsNew w3.heap.size nought4 (a5.eval (.tmp 5)) w5 := hk5 5 (by kernel_rfl)
      have e62 : a5.eval (.tmp 62) = frNone := hk5 62 (by kernel_rfl)
      obtain ⟨W5, eW, st, bx⟩ := m5.store (ys := [.bool false, .slice none 0 0, .bool false, .slice none 0 0]) rfl rfl
      have M5 := bx.keep
      have bW := st.below w3 l5 hb5
      refine wpOps_step (i := 9) (rest := [10]) rfl rfl ?_
      refine wp_store_T q5 e62 (run_store4 m5) ?_
      rw [eW]
      refine wpOps_step (i := 10) (rest := []) rfl rfl ?_
      refine wp_assign ?_
      obtain ⟨c5, hc5⟩ : ∃ c, c = a5.put (some 6) (a5.eval (.tmp 63)) := ⟨_, rfl⟩
      rw [← hc5]
      have g6 : c5.eval (.tmp 6) = .int .i64 6 := by rw [hc5, eval_put (by rw [hs5]; decide), if_pos rfl]; exact hk5 63 (by kernel_rfl)
      have g2 : c5.eval (.tmp 2) = .pointer (some ⟨w.heap.size, 0, none⟩) := by rw [hc5, eval_put' (by decide)]; exact q2
      have g3 : c5.eval (.tmp 3) = .pointer (some ⟨w.heap.size + 1, 0, none⟩) := by rw [hc5, eval_put' (by decide)]; exact q3
      have g5 : c5.eval (.tmp 5) = .pointer (some ⟨b5, 0, none⟩) := by rw [hc5, eval_put' (by decide)]; exact q5
      have hs50 : c5.tmps.size = 118 := by rw [hc5]; simp only [Act.put, Array.size_setIfInBounds]; exact hs5
      have hd50 : c5.defers = [] := by rw [hc5]; exact hd5.trans hd3
      clear st eW bx
      have HA := (HA.out _ bW).keep
      have HB := (HB.out _ bW).keep
      have N1 := (N1.out _ bW).keep
      have N2 := (N2.out _ bW).keep
      have RW := Lib.hid (Below.step RW.out bW)
      refine hK5 _ _ ?_
      refine wp_seq_k ?_
      intro K6 hK6
      refine wp_region_seq []
        [(2, IsV (.pointer (some ⟨w.heap.size, 0, none⟩))), (3, IsV (.pointer (some ⟨(w.heap.size + 1), 0, none⟩))), (5, IsV (.pointer (some ⟨b5, 0, none⟩))), (6, IsV (.int .i64 (6)))]
        [(65, IsF 10 (A)), (66, IsF 10 (B)), (67, IsV (.tuple #[frNone, .int .i64 6])), (64, IsV (.tuple #[frNone, .int .i64 6])), (68, IsV frNone), (69, IsV (.int .i64 (6))), (7, IsNew W5.heap.size nought4)]
        118 7 hs50 (by kernel_rfl) (by kernel_rfl) ⟨g2, g3, g5, g6, trivial⟩ ⟨IsV.grows _ , IsV.grows _ , IsV.grows _ , IsV.grows _ , IsF.grows _ _ , IsF.grows _ _ , IsV.grows _ , IsV.grows _ , IsV.grows _ , IsV.grows _ , IsNew.grows _ _ , trivial⟩ ?_ ?_
      · refine AllStep.cons (step_loadT (fun _ _ h => h) (fun W hb => run_load4 rfl rfl rfl (N1.out W hb).at0 (N1.out W hb).at1 (N1.out W hb).at2 (N1.out W hb).at3) (fun w hb => HA.out w hb)) ?_
        refine AllStep.cons (step_loadT (fun _ _ h => h) (fun W hb => run_load4 rfl rfl rfl (N2.out W hb).at0 (N2.out W hb).at1 (N2.out W hb).at2 (N2.out W hb).at3) (fun w hb => HB.out w hb)) ?_
        refine AllStep.cons (step_call2 (Plain.of Tryz.func40 rfl rfl) (fun _ _ _ _ hu hv => (DivF_zero hu (HZ.out ▸ hv) (by decide) (by decide)).mono (fun _ _ h => ansV h))) ?_
        refine AllStep.cons (step_move (fun _ _ h => h)) ?_
        refine AllStep.cons (step_extract (fun _ _ h => ⟨_, _, h, rfl, rfl⟩)) ?_
        refine AllStep.cons (step_extract (fun _ _ h => ⟨_, _, h, rfl, rfl⟩)) ?_
        refine AllStep.cons (step_allocT (fun _ => run_new4) (fun _ _ h => h)) ?_
        exact AllStep.nil
      intro a6 w6 hb6 hs6 hd6 hk6
      have q2 : a6.eval (.tmp 2) = .pointer (some ⟨w.heap.size, 0, none⟩) := hk6 2 (by kernel_rfl)
      have q3 : a6.eval (.tmp 3) = .pointer (some ⟨w.heap.size + 1, 0, none⟩) := hk6 3 (by kernel_rfl)
      have q5 : a6.eval (.tmp 5) = .pointer (some ⟨b5, 0, none⟩) := hk6 5 (by kernel_rfl)
      have q6 : a6.eval (.tmp 6) = .int .i64 6 := hk6 6 (by kernel_rfl)
      obtain ⟨b7, q7, l7, m7, -⟩ : IsNew W5.heap.size nought4 (a6.eval (.tmp 7)) w6 := hk6 7 (by kernel_rfl)
      have e68 : a6.eval (.tmp 68) = frNone := hk6 68 (by kernel_rfl)
      obtain ⟨W6, eW, st, bx⟩ := m7.store (ys := [.bool false, .slice none 0 0, .bool false, .slice none 0 0]) rfl rfl
      have M7 := bx.keep
      have bW := st.below W5 l7 hb6
      refine wpOps_step (i := 7) (rest := [8]) rfl rfl ?_
      refine wp_store_T q7 e68 (run_store4 m7) ?_
      rw [eW]
      refine wpOps_step (i := 8) (rest := []) rfl rfl ?_
      refine wp_assign ?_
      obtain ⟨c6, hc6⟩ : ∃ c, c = a6.put (some 8) (a6.eval (.tmp 69)) := ⟨_, rfl⟩
      rw [← hc6]
      have g8 : c6.eval (.tmp 8) = .int .i64 6 := by rw [hc6, eval_put (by rw [hs6]; decide), if_pos rfl]; exact hk6 69 (by kernel_rfl)
      have g2 : c6.eval (.tmp 2) = .pointer (some ⟨w.heap.size, 0, none⟩) := by rw [hc6, eval_put' (by decide)]; exact q2
      have g3 : c6.eval (.tmp 3) = .pointer (some ⟨w.heap.size + 1, 0, none⟩) := by rw [hc6, eval_put' (by decide)]; exact q3
      have g5 : c6.eval (.tmp 5) = .pointer (some ⟨b5, 0, none⟩) := by rw [hc6, eval_put' (by decide)]; exact q5
      have g6 : c6.eval (.tmp 6) = .int .i64 6 := by rw [hc6, eval_put' (by decide)]; exact q6
      have g7 : c6.eval (.tmp 7) = .pointer (some ⟨b7, 0, none⟩) := by rw [hc6, eval_put' (by decide)]; exact q7
      have hs60 : c6.tmps.size = 118 := by rw [hc6]; simp only [Act.put, Array.size_setIfInBounds]; exact hs6
      have hd60 : c6.defers = [] := by rw [hc6]; exact hd6.trans hd50
      clear st eW bx
      have HA := (HA.out _ bW).keep
      have HB := (HB.out _ bW).keep
      have N1 := (N1.out _ bW).keep
      have N2 := (N2.out _ bW).keep
      have RW := Lib.hid (Below.step RW.out bW)
      refine hK6 _ _ ?_
      refine wp_seq_k ?_
      intro K7 hK7
      refine wp_region_tail []
        [(2, IsV (.pointer (some ⟨w.heap.size, 0, none⟩))), (3, IsV (.pointer (some ⟨(w.heap.size + 1), 0, none⟩))), (5, IsV (.pointer (some ⟨b5, 0, none⟩))), (6, IsV (.int .i64 (6))), (7, IsV (.pointer (some ⟨b7, 0, none⟩))), (8, IsV (.int .i64 (6)))]
        [(71, IsF 3 (Rat.divInt 1 1)), (72, IsF 10 (B)), (73, IsV (.tuple #[frNone, .int .i64 6])), (70, IsV (.tuple #[frNone, .int .i64 6])), (74, IsV frNone), (75, IsV (.int .i64 (6))), (9, IsNew W6.heap.size nought4)]
        [9] 118 7 (by kernel_rfl) hs60 (by kernel_rfl) (by kernel_rfl) (by kernel_rfl) (by kernel_rfl) ⟨g2, g3, g5, g6, g7, g8, trivial⟩ ⟨IsV.grows _ , IsV.grows _ , IsV.grows _ , IsV.grows _ , IsV.grows _ , IsV.grows _ , IsF.grows _ _ , IsF.grows _ _ , IsV.grows _ , IsV.grows _ , IsV.grows _ , IsV.grows _ , IsNew.grows _ _ , trivial⟩ ?_ (fun d _ _ _ _ h => by cases d <;> exact h) ?_ ?_
      · refine AllStep2.step rfl rfl (step_callkk (Plain.of Tryz.func66 rfl rfl) (fun w _ => of_num (n := 1) (d := 1) (by decide) (by decide) (by decide))) ?_
        refine AllStep2.step rfl rfl (step_loadT (fun _ _ h => h) (fun W hb => run_load4 rfl rfl rfl (N2.out W hb).at0 (N2.out W hb).at1 (N2.out W hb).at2 (N2.out W hb).at3) (fun w hb => HB.out w hb)) ?_
        refine AllStep2.step rfl rfl (step_call2 (Plain.of Tryz.func40 rfl rfl) (fun _ _ _ _ hu hv => (DivF_zero hu (HZ.out ▸ hv) (by decide) (by decide)).mono (fun _ _ h => ansV h))) ?_
        refine AllStep2.quiet rfl (pure_move (fun _ _ h => h)) ?_
        refine AllStep2.quiet rfl (pure_extract (fun _ _ h => ⟨_, _, h, rfl, rfl⟩)) ?_
        refine AllStep2.quiet rfl (pure_extract (fun _ _ h => ⟨_, _, h, rfl, rfl⟩)) ?_
        refine AllStep2.fresh rfl rfl (alloc_T (fun _ => run_new4) (fun _ _ h => h)) ?_
        exact AllStep2.nil
      · intro t ht v w hk
        simp only [List.mem_cons, List.not_mem_nil, or_false] at ht
        subst ht
        exact IsNew.lt (show IsNew W6.heap.size _ v w from hk)
      intro a7 w7 hb7 hs7 hd7 hk7 _
      have q2 : a7.eval (.tmp 2) = .pointer (some ⟨w.heap.size, 0, none⟩) := hk7 2 (by kernel_rfl)
      have q3 : a7.eval (.tmp 3) = .pointer (some ⟨w.heap.size + 1, 0, none⟩) := hk7 3 (by kernel_rfl)
      have q5 : a7.eval (.tmp 5) = .pointer (some ⟨b5, 0, none⟩) := hk7 5 (by kernel_rfl)
      have q6 : a7.eval (.tmp 6) = .int .i64 6 := hk7 6 (by kernel_rfl)
      have q7 : a7.eval (.tmp 7) = .pointer (some ⟨b7, 0, none⟩) := hk7 7 (by kernel_rfl)
      have q8 : a7.eval (.tmp 8) = .int .i64 6 := hk7 8 (by kernel_rfl)
      obtain ⟨b9, q9, l9, m9, -⟩ : IsNew W6.heap.size nought4 (a7.eval (.tmp 9)) w7 := hk7 9 (by kernel_rfl)
      have e74 : a7.eval (.tmp 74) = frNone := hk7 74 (by kernel_rfl)
      obtain ⟨W7, eW, st, bx⟩ := m9.store (ys := [.bool false, .slice none 0 0, .bool false, .slice none 0 0]) rfl rfl
      have M9 := bx.keep
      have bW := st.below W6 l9 hb7
      refine wpOps_step (i := 7) (rest := [8]) rfl rfl ?_
      refine wp_store_T q9 e74 (run_store4 m9) ?_
      rw [eW]
      refine wpOps_step (i := 8) (rest := []) rfl rfl ?_
      refine wp_assign ?_
      obtain ⟨c7, hc7⟩ : ∃ c, c = a7.put (some 10) (a7.eval (.tmp 75)) := ⟨_, rfl⟩
      rw [← hc7]
      have g10 : c7.eval (.tmp 10) = .int .i64 6 := by rw [hc7, eval_put (by rw [hs7]; decide), if_pos rfl]; exact hk7 75 (by kernel_rfl)
      have g2 : c7.eval (.tmp 2) = .pointer (some ⟨w.heap.size, 0, none⟩) := by rw [hc7, eval_put' (by decide)]; exact q2
      have g3 : c7.eval (.tmp 3) = .pointer (some ⟨w.heap.size + 1, 0, none⟩) := by rw [hc7, eval_put' (by decide)]; exact q3
      have g5 : c7.eval (.tmp 5) = .pointer (some ⟨b5, 0, none⟩) := by rw [hc7, eval_put' (by decide)]; exact q5
      have g6 : c7.eval (.tmp 6) = .int .i64 6 := by rw [hc7, eval_put' (by decide)]; exact q6
      have g7 : c7.eval (.tmp 7) = .pointer (some ⟨b7, 0, none⟩) := by rw [hc7, eval_put' (by decide)]; exact q7
      have g8 : c7.eval (.tmp 8) = .int .i64 6 := by rw [hc7, eval_put' (by decide)]; exact q8
      have g9 : c7.eval (.tmp 9) = .pointer (some ⟨b9, 0, none⟩) := by rw [hc7, eval_put' (by decide)]; exact q9
      have hs70 : c7.tmps.size = 118 := by rw [hc7]; simp only [Act.put, Array.size_setIfInBounds]; exact hs7
      have hd70 : c7.defers = [] := by rw [hc7]; exact hd7.trans hd60
      clear st eW bx
      have HA := (HA.out _ bW).keep
      have HB := (HB.out _ bW).keep
      have N1 := (N1.out _ bW).keep
      have N2 := (N2.out _ bW).keep
      have RW := Lib.hid (Below.step RW.out bW)
      refine hK7 _ _ ?_
      refine wp_seq_k ?_
      intro K9 hK9
      refine wp_seq_k ?_
      intro K8 hK8
      refine wp_region_seq [(78, true)]
        [(2, IsV (.pointer (some ⟨w.heap.size, 0, none⟩))), (3, IsV (.pointer (some ⟨(w.heap.size + 1), 0, none⟩))), (5, IsV (.pointer (some ⟨b5, 0, none⟩))), (7, IsV (.pointer (some ⟨b7, 0, none⟩))), (9, IsV (.pointer (some ⟨b9, 0, none⟩))), (6, IsV (.int .i64 (6))), (8, IsV (.int .i64 (6))), (10, IsV (.int .i64 (6)))]
        [(76, IsF 10 (B)), (77, IsV (.int .i64 (cmpR (B) 0)))]
        118 3 hs70 (by kernel_rfl) (by kernel_rfl) ⟨g2, g3, g5, g7, g9, g6, g8, g10, trivial⟩ ⟨IsV.grows _ , IsV.grows _ , IsV.grows _ , IsV.grows _ , IsV.grows _ , IsV.grows _ , IsV.grows _ , IsV.grows _ , IsF.grows _ _ , IsV.grows _ , trivial⟩ ?_ ?_
      · refine AllStep.cons (step_loadT (fun _ _ h => h) (fun W hb => run_load4 rfl rfl rfl (N2.out W hb).at0 (N2.out W hb).at1 (N2.out W hb).at2 (N2.out W hb).at3) (fun w hb => HB.out w hb)) ?_
        refine AllStep.cons (step_call1 (Plain.of Tryz.func44 rfl rfl) (fun _ _ _ hu => (SignF_at (FrOk.at hu) (by decide) (by decide) _ sign_cmp).mono (fun _ _ h => ansV h))) ?_
        refine AllStep.cons (step_eqI (fun _ _ h => h) HS.out (fun _ => rfl)) ?_
        exact AllStep.nil
      intro a8 w8 hb8 hs8 hd8 hk8
      have q2 : a8.eval (.tmp 2) = .pointer (some ⟨w.heap.size, 0, none⟩) := hk8 2 (by kernel_rfl)
      have q3 : a8.eval (.tmp 3) = .pointer (some ⟨w.heap.size + 1, 0, none⟩) := hk8 3 (by kernel_rfl)
      have q5 : a8.eval (.tmp 5) = .pointer (some ⟨b5, 0, none⟩) := hk8 5 (by kernel_rfl)
      have q6 : a8.eval (.tmp 6) = .int .i64 6 := hk8 6 (by kernel_rfl)
      have q7 : a8.eval (.tmp 7) = .pointer (some ⟨b7, 0, none⟩) := hk8 7 (by kernel_rfl)
      have q8 : a8.eval (.tmp 8) = .int .i64 6 := hk8 8 (by kernel_rfl)
      have q9 : a8.eval (.tmp 9) = .pointer (some ⟨b9, 0, none⟩) := hk8 9 (by kernel_rfl)
      have q10 : a8.eval (.tmp 10) = .int .i64 6 := hk8 10 (by kernel_rfl)
      have q78 : a8.eval (.tmp 78) = .bool true := hk8 78 (by kernel_rfl)
      have HA := (HA.out _ hb8).keep
      have HB := (HB.out _ hb8).keep
      have N1 := (N1.out _ hb8).keep
      have N2 := (N2.out _ hb8).keep
      have RW := Lib.hid (Below.step RW.out hb8)
      refine hK8 _ _ ?_
      refine wp_cond_true q78 ?_
      refine wp_seq_k ?_
      intro K10 hK10
      refine wp_region_seq [(4, true), (80, true), (81, true), (83, true), (84, true), (85, true), (87, true), (88, true)]
        [(2, IsV (.pointer (some ⟨w.heap.size, 0, none⟩))), (3, IsV (.pointer (some ⟨(w.heap.size + 1), 0, none⟩))), (6, IsV (.int .i64 (6))), (8, IsV (.int .i64 (6))), (10, IsV (.int .i64 (6)))]
        [(79, IsV (.int .i64 (6))), (82, IsV (.int .i64 (6))), (86, IsV (.int .i64 (6)))]
        118 11 hs8 (by kernel_rfl) (by kernel_rfl) ⟨q2, q3, q6, q8, q10, trivial⟩ ⟨IsV.grows _ , IsV.grows _ , IsV.grows _ , IsV.grows _ , IsV.grows _ , IsV.grows _ , IsV.grows _ , IsV.grows _ , trivial⟩ ?_ ?_
      · refine AllStep.cons (step_move (fun _ _ h => h)) ?_
        refine AllStep.cons (step_eqE (fun _ _ h => h) (by decide) (fun _ => rfl)) ?_
        refine AllStep.cons (step_move (fun _ _ h => h)) ?_
        refine AllStep.cons (step_move (fun _ _ h => h)) ?_
        refine AllStep.cons (step_eqE (fun _ _ h => h) (by decide) (fun _ => rfl)) ?_
        refine AllStep.cons (step_pickT (fun _ _ h => h) (fun _ _ h => h)) ?_
        refine AllStep.cons (step_move (fun _ _ h => h)) ?_
        refine AllStep.cons (step_move (fun _ _ h => h)) ?_
        refine AllStep.cons (step_eqE (fun _ _ h => h) (by decide) (fun _ => rfl)) ?_
        refine AllStep.cons (step_pickT (fun _ _ h => h) (fun _ _ h => h)) ?_
        refine AllStep.cons (step_assign (fun _ _ h => h)) ?_
        exact AllStep.nil
      intro a9 w9 hb9 hs9 hd9 hk9
      have q4 : a9.eval (.tmp 4) = .bool true := hk9 4 (by kernel_rfl)
      refine hK10 _ _ ?_
      refine wp_ret ?_
      simp only [Exit.then]
      exact ret_slot (t := 4) (v := .bool true) rfl (hd9.trans (hd8.trans hd70)) q4 ⟨rfl, Below.step RW.out hb9⟩
    · have HZ := Lib.hid hz
      have HS := Lib.hid (sign_some hz)
      clear hz
      refine wp_region_tail []
        [(2, IsV (.pointer (some ⟨w.heap.size, 0, none⟩))), (3, IsV (.pointer (some ⟨(w.heap.size + 1), 0, none⟩)))]
        [(57, IsF 10 (A)), (58, IsF 10 (B)), (59, IsF 20 ((A * B))), (60, IsF 10 (B)), (61, IsFT 30 (((A * B) / B))), (56, IsFT 30 (((A * B) / B))), (62, IsF 30 (((A * B) / B))), (63, IsV (.int .i64 (0))), (5, IsNew w3.heap.size nought4)]
        [5] 118 9 (by kernel_rfl) hs3 (by kernel_rfl) (by kernel_rfl) (by kernel_rfl) (by kernel_rfl) ⟨q2, q3, trivial⟩ ⟨IsV.grows _ , IsV.grows _ , IsF.grows _ _ , IsF.grows _ _ , IsF.grows _ _ , IsF.grows _ _ , IsFT.grows _ _ , IsFT.grows _ _ , IsF.grows _ _ , IsV.grows _ , IsNew.grows _ _ , trivial⟩ ?_ (fun d _ _ _ _ h => by cases d <;> exact h) ?_ ?_
      · refine AllStep2.step rfl rfl (step_loadT (fun _ _ h => h) (fun W hb => run_load4 rfl rfl rfl (N1.out W hb).at0 (N1.out W hb).at1 (N1.out W hb).at2 (N1.out W hb).at3) (fun w hb => HA.out w hb)) ?_
        refine AllStep2.step rfl rfl (step_loadT (fun _ _ h => h) (fun W hb => run_load4 rfl rfl rfl (N2.out W hb).at0 (N2.out W hb).at1 (N2.out W hb).at2 (N2.out W hb).at3) (fun w hb => HB.out w hb)) ?_
        refine AllStep2.step rfl rfl (step_call2 (Plain.of Tryz.func39 rfl rfl) (fun _ _ _ _ hu hv => MulF_at (FrOk.at hu) (FrOk.at hv) (by decide) (by decide) (by decide) (by decide))) ?_
        refine AllStep2.step rfl rfl (step_loadT (fun _ _ h => h) (fun W hb => run_load4 rfl rfl rfl (N2.out W hb).at0 (N2.out W hb).at1 (N2.out W hb).at2 (N2.out W hb).at3) (fun w hb => HB.out w hb)) ?_
        refine AllStep2.step rfl rfl (step_call2 (Plain.of Tryz.func40 rfl rfl) (fun _ _ _ _ hu hv => (DivF_ok hu hv (by decide) (by decide) HZ.out).mono (fun _ _ h => ansFT h))) ?_
        refine AllStep2.quiet rfl (pure_move (fun _ _ h => h)) ?_
        refine AllStep2.quiet rfl (pure_extract (fun _ _ h => IsFT.fst h)) ?_
        refine AllStep2.quiet rfl (pure_extract (fun _ _ h => IsFT.snd h)) ?_
        refine AllStep2.fresh rfl rfl (alloc_T (fun _ => run_new4) (fun _ _ h => h)) ?_
        exact AllStep2.nil
      · intro t ht v w hk
        simp only [List.mem_cons, List.not_mem_nil, or_false] at ht
        subst ht
        exact IsNew.lt (show IsNew w3.heap.size _ v w from hk)
      intro a5 w5 hb5 hs5 hd5 hk5 _
      have q2 : a5.eval (.tmp 2) = .pointer (some ⟨w.heap.size, 0, none⟩) := hk5 2 (by kernel_rfl)
      have q3 : a5.eval (.tmp 3) = .pointer (some ⟨w.heap.size + 1, 0, none⟩) := hk5 3 (by kernel_rfl)
      obtain ⟨b5, q5, l5, m5, -⟩ : IsNew w3.heap.size nought4 (a5.eval (.tmp 5)) w5 := hk5 5 (by kernel_rfl)
      have x62 : FrOk w5 (a5.eval (.tmp 62)) 30 (A * B / B) := hk5 62 (by kernel_rfl)
      obtain ⟨z1, y1, i1, j1, z2, y2, i2, j2, e62, -⟩ := x62.split
      have x62' : FrOk w5 (.agg #[.bool z1, .slice y1 i1 j1, .bool z2, .slice y2 i2 j2]) 30 (A * B / B) := by rw [← e62]; exact x62
      obtain ⟨W5, eW, st, bx⟩ := m5.store (ys := [.bool z1, .slice y1 i1 j1, .bool z2, .slice y2 i2 j2]) rfl rfl
      have HX := (x62'.store st).keep
      have M5 := bx.keep
      have bW := st.below w3 l5 hb5
      refine wpOps_step (i := 9) (rest := [10]) rfl rfl ?_
      refine wp_store_T q5 e62 (run_store4 m5) ?_
      rw [eW]
      refine wpOps_step (i := 10) (rest := []) rfl rfl ?_
      refine wp_assign ?_
      obtain ⟨c5, hc5⟩ : ∃ c, c = a5.put (some 6) (a5.eval (.tmp 63)) := ⟨_, rfl⟩
      rw [← hc5]
      have g6 : c5.eval (.tmp 6) = .int .i64 0 := by rw [hc5, eval_put (by rw [hs5]; decide), if_pos rfl]; exact hk5 63 (by kernel_rfl)
      have g2 : c5.eval (.tmp 2) = .pointer (some ⟨w.heap.size, 0, none⟩) := by rw [hc5, eval_put' (by decide)]; exact q2
      have g3 : c5.eval (.tmp 3) = .pointer (some ⟨w.heap.size + 1, 0, none⟩) := by rw [hc5, eval_put' (by decide)]; exact q3
      have g5 : c5.eval (.tmp 5) = .pointer (some ⟨b5, 0, none⟩) := by rw [hc5, eval_put' (by decide)]; exact q5
      have hs50 : c5.tmps.size = 118 := by rw [hc5]; simp only [Act.put, Array.size_setIfInBounds]; exact hs5
      have hd50 : c5.defers = [] := by rw [hc5]; exact hd5.trans hd3
      clear st eW bx
      have HA := (HA.out _ bW).keep
      have HB := (HB.out _ bW).keep
      have N1 := (N1.out _ bW).keep
      have N2 := (N2.out _ bW).keep
      have RW := Lib.hid (Below.step RW.out bW)
      refine hK5 _ _ ?_
      refine wp_seq_k ?_
      intro K6 hK6
      refine wp_region_seq []
        [(2, IsV (.pointer (some ⟨w.heap.size, 0, none⟩))), (3, IsV (.pointer (some ⟨(w.heap.size + 1), 0, none⟩))), (5, IsV (.pointer (some ⟨b5, 0, none⟩))), (6, IsV (.int .i64 (0)))]
        [(65, IsF 10 (A)), (66, IsF 10 (B)), (67, IsFT 20 ((A / B))), (64, IsFT 20 ((A / B))), (68, IsF 20 ((A / B))), (69, IsV (.int .i64 (0))), (7, IsNew W5.heap.size nought4)]
        118 7 hs50 (by kernel_rfl) (by kernel_rfl) ⟨g2, g3, g5, g6, trivial⟩ ⟨IsV.grows _ , IsV.grows _ , IsV.grows _ , IsV.grows _ , IsF.grows _ _ , IsF.grows _ _ , IsFT.grows _ _ , IsFT.grows _ _ , IsF.grows _ _ , IsV.grows _ , IsNew.grows _ _ , trivial⟩ ?_ ?_
      · refine AllStep.cons (step_loadT (fun _ _ h => h) (fun W hb => run_load4 rfl rfl rfl (N1.out W hb).at0 (N1.out W hb).at1 (N1.out W hb).at2 (N1.out W hb).at3) (fun w hb => HA.out w hb)) ?_
        refine AllStep.cons (step_loadT (fun _ _ h => h) (fun W hb => run_load4 rfl rfl rfl (N2.out W hb).at0 (N2.out W hb).at1 (N2.out W hb).at2 (N2.out W hb).at3) (fun w hb => HB.out w hb)) ?_
        refine AllStep.cons (step_call2 (Plain.of Tryz.func40 rfl rfl) (fun _ _ _ _ hu hv => (DivF_ok hu hv (by decide) (by decide) HZ.out).mono (fun _ _ h => ansFT h))) ?_
        refine AllStep.cons (step_move (fun _ _ h => h)) ?_
        refine AllStep.cons (step_extract (fun _ _ h => IsFT.fst h)) ?_
        refine AllStep.cons (step_extract (fun _ _ h => IsFT.snd h)) ?_
        refine AllStep.cons (step_allocT (fun _ => run_new4) (fun _ _ h => h)) ?_
        exact AllStep.nil
      intro a6 w6 hb6 hs6 hd6 hk6
      have q2 : a6.eval (.tmp 2) = .pointer (some ⟨w.heap.size, 0, none⟩) := hk6 2 (by kernel_rfl)
      have q3 : a6.eval (.tmp 3) = .pointer (some ⟨w.heap.size + 1, 0, none⟩) := hk6 3 (by kernel_rfl)
      have q5 : a6.eval (.tmp 5) = .pointer (some ⟨b5, 0, none⟩) := hk6 5 (by kernel_rfl)
      have q6 : a6.eval (.tmp 6) = .int .i64 0 := hk6 6 (by kernel_rfl)
      obtain ⟨b7, q7, l7, m7, -⟩ : IsNew W5.heap.size nought4 (a6.eval (.tmp 7)) w6 := hk6 7 (by kernel_rfl)
      have x68 : FrOk w6 (a6.eval (.tmp 68)) 20 (A / B) := hk6 68 (by kernel_rfl)
      obtain ⟨z1, y1, i1, j1, z2, y2, i2, j2, e68, -⟩ := x68.split
      have x68' : FrOk w6 (.agg #[.bool z1, .slice y1 i1 j1, .bool z2, .slice y2 i2 j2]) 20 (A / B) := by rw [← e68]; exact x68
      obtain ⟨W6, eW, st, bx⟩ := m7.store (ys := [.bool z1, .slice y1 i1 j1, .bool z2, .slice y2 i2 j2]) rfl rfl
      have HY := (x68'.store st).keep
      have M7 := bx.keep
      have bW := st.below W5 l7 hb6
      refine wpOps_step (i := 7) (rest := [8]) rfl rfl ?_
      refine wp_store_T q7 e68 (run_store4 m7) ?_
      rw [eW]
      refine wpOps_step (i := 8) (rest := []) rfl rfl ?_
      refine wp_assign ?_
      obtain ⟨c6, hc6⟩ : ∃ c, c = a6.put (some 8) (a6.eval (.tmp 69)) := ⟨_, rfl⟩
      rw [← hc6]
      have g8 : c6.eval (.tmp 8) = .int .i64 0 := by rw [hc6, eval_put (by rw [hs6]; decide), if_pos rfl]; exact hk6 69 (by kernel_rfl)
      have g2 : c6.eval (.tmp 2) = .pointer (some ⟨w.heap.size, 0, none⟩) := by rw [hc6, eval_put' (by decide)]; exact q2
      have g3 : c6.eval (.tmp 3) = .pointer (some ⟨w.heap.size + 1, 0, none⟩) := by rw [hc6, eval_put' (by decide)]; exact q3
      have g5 : c6.eval (.tmp 5) = .pointer (some ⟨b5, 0, none⟩) := by rw [hc6, eval_put' (by decide)]; exact q5
      have g6 : c6.eval (.tmp 6) = .int .i64 0 := by rw [hc6, eval_put' (by decide)]; exact q6
      have g7 : c6.eval (.tmp 7) = .pointer (some ⟨b7, 0, none⟩) := by rw [hc6, eval_put' (by decide)]; exact q7
      have hs60 : c6.tmps.size = 118 := by rw [hc6]; simp only [Act.put, Array.size_setIfInBounds]; exact hs6
      have hd60 : c6.defers = [] := by rw [hc6]; exact hd6.trans hd50
      clear st eW bx
      have HX := (HX.out _ bW).keep
      have M5 := (M5.out _ bW).keep
      have HA := (HA.out _ bW).keep
      have HB := (HB.out _ bW).keep
      have N1 := (N1.out _ bW).keep
      have N2 := (N2.out _ bW).keep
      have RW := Lib.hid (Below.step RW.out bW)
      refine hK6 _ _ ?_
      refine wp_seq_k ?_
      intro K7 hK7
      refine wp_region_tail []
        [(2, IsV (.pointer (some ⟨w.heap.size, 0, none⟩))), (3, IsV (.pointer (some ⟨(w.heap.size + 1), 0, none⟩))), (5, IsV (.pointer (some ⟨b5, 0, none⟩))), (6, IsV (.int .i64 (0))), (7, IsV (.pointer (some ⟨b7, 0, none⟩))), (8, IsV (.int .i64 (0)))]
        [(71, IsF 3 (Rat.divInt 1 1)), (72, IsF 10 (B)), (73, IsFT 13 ((Rat.divInt 1 1 / B))), (70, IsFT 13 ((Rat.divInt 1 1 / B))), (74, IsF 13 ((Rat.divInt 1 1 / B))), (75, IsV (.int .i64 (0))), (9, IsNew W6.heap.size nought4)]
        [9] 118 7 (by kernel_rfl) hs60 (by kernel_rfl) (by kernel_rfl) (by kernel_rfl) (by kernel_rfl) ⟨g2, g3, g5, g6, g7, g8, trivial⟩ ⟨IsV.grows _ , IsV.grows _ , IsV.grows _ , IsV.grows _ , IsV.grows _ , IsV.grows _ , IsF.grows _ _ , IsF.grows _ _ , IsFT.grows _ _ , IsFT.grows _ _ , IsF.grows _ _ , IsV.grows _ , IsNew.grows _ _ , trivial⟩ ?_ (fun d _ _ _ _ h => by cases d <;> exact h) ?_ ?_
      · refine AllStep2.step rfl rfl (step_callkk (Plain.of Tryz.func66 rfl rfl) (fun w _ => of_num (n := 1) (d := 1) (by decide) (by decide) (by decide))) ?_
        refine AllStep2.step rfl rfl (step_loadT (fun _ _ h => h) (fun W hb => run_load4 rfl rfl rfl (N2.out W hb).at0 (N2.out W hb).at1 (N2.out W hb).at2 (N2.out W hb).at3) (fun w hb => HB.out w hb)) ?_
        refine AllStep2.step rfl rfl (step_call2 (Plain.of Tryz.func40 rfl rfl) (fun _ _ _ _ hu hv => (DivF_ok hu hv (by decide) (by decide) HZ.out).mono (fun _ _ h => ansFT h))) ?_
        refine AllStep2.quiet rfl (pure_move (fun _ _ h => h)) ?_
        refine AllStep2.quiet rfl (pure_extract (fun _ _ h => IsFT.fst h)) ?_
        refine AllStep2.quiet rfl (pure_extract (fun _ _ h => IsFT.snd h)) ?_
        refine AllStep2.fresh rfl rfl (alloc_T (fun _ => run_new4) (fun _ _ h => h)) ?_
        exact AllStep2.nil
      · intro t ht v w hk
        simp only [List.mem_cons, List.not_mem_nil, or_false] at ht
        subst ht
        exact IsNew.lt (show IsNew W6.heap.size _ v w from hk)
      intro a7 w7 hb7 hs7 hd7 hk7 _
      have q2 : a7.eval (.tmp 2) = .pointer (some ⟨w.heap.size, 0, none⟩) := hk7 2 (by kernel_rfl)
      have q3 : a7.eval (.tmp 3) = .pointer (some ⟨w.heap.size + 1, 0, none⟩) := hk7 3 (by kernel_rfl)
      have q5 : a7.eval (.tmp 5) = .pointer (some ⟨b5, 0, none⟩) := hk7 5 (by kernel_rfl)
      have q6 : a7.eval (.tmp 6) = .int .i64 0 := hk7 6 (by kernel_rfl)
      have q7 : a7.eval (.tmp 7) = .pointer (some ⟨b7, 0, none⟩) := hk7 7 (by kernel_rfl)
      have q8 : a7.eval (.tmp 8) = .int .i64 0 := hk7 8 (by kernel_rfl)
      obtain ⟨b9, q9, l9, m9, -⟩ : IsNew W6.heap.size nought4 (a7.eval (.tmp 9)) w7 := hk7 9 (by kernel_rfl)
      have x74 : FrOk w7 (a7.eval (.tmp 74)) 13 (Rat.divInt 1 1 / B) := hk7 74 (by kernel_rfl)
      obtain ⟨z1, y1, i1, j1, z2, y2, i2, j2, e74, -⟩ := x74.split
      have x74' : FrOk w7 (.agg #[.bool z1, .slice y1 i1 j1, .bool z2, .slice y2 i2 j2]) 13 (Rat.divInt 1 1 / B) := by rw [← e74]; exact x74
      obtain ⟨W7, eW, st, bx⟩ := m9.store (ys := [.bool z1, .slice y1 i1 j1, .bool z2, .slice y2 i2 j2]) rfl rfl
      have HZ9 := (x74'.store st).keep
      have M9 := bx.keep
      have bW := st.below W6 l9 hb7
      refine wpOps_step (i := 7) (rest := [8]) rfl rfl ?_
      refine wp_store_T q9 e74 (run_store4 m9) ?_
      rw [eW]
      refine wpOps_step (i := 8) (rest := []) rfl rfl ?_
      refine wp_assign ?_
      obtain ⟨c7, hc7⟩ : ∃ c, c = a7.put (some 10) (a7.eval (.tmp 75)) := ⟨_, rfl⟩
      rw [← hc7]
      have g10 : c7.eval (.tmp 10) = .int .i64 0 := by rw [hc7, eval_put (by rw [hs7]; decide), if_pos rfl]; exact hk7 75 (by kernel_rfl)
      have g2 : c7.eval (.tmp 2) = .pointer (some ⟨w.heap.size, 0, none⟩) := by rw [hc7, eval_put' (by decide)]; exact q2
      have g3 : c7.eval (.tmp 3) = .pointer (some ⟨w.heap.size + 1, 0, none⟩) := by rw [hc7, eval_put' (by decide)]; exact q3
      have g5 : c7.eval (.tmp 5) = .pointer (some ⟨b5, 0, none⟩) := by rw [hc7, eval_put' (by decide)]; exact q5
      have g6 : c7.eval (.tmp 6) = .int .i64 0 := by rw [hc7, eval_put' (by decide)]; exact q6
      have g7 : c7.eval (.tmp 7) = .pointer (some ⟨b7, 0, none⟩) := by rw [hc7, eval_put' (by decide)]; exact q7
      have g8 : c7.eval (.tmp 8) = .int .i64 0 := by rw [hc7, eval_put' (by decide)]; exact q8
      have g9 : c7.eval (.tmp 9) = .pointer (some ⟨b9, 0, none⟩) := by rw [hc7, eval_put' (by decide)]; exact q9
      have hs70 : c7.tmps.size = 118 := by rw [hc7]; simp only [Act.put, Array.size_setIfInBounds]; exact hs7
      have hd70 : c7.defers = [] := by rw [hc7]; exact hd7.trans hd60
      clear st eW bx
      have HX := (HX.out _ bW).keep
      have M5 := (M5.out _ bW).keep
      have HY := (HY.out _ bW).keep
      have M7 := (M7.out _ bW).keep
      have HA := (HA.out _ bW).keep
      have HB := (HB.out _ bW).keep
      have N1 := (N1.out _ bW).keep
      have N2 := (N2.out _ bW).keep
      have RW := Lib.hid (Below.step RW.out bW)
      refine hK7 _ _ ?_
      refine wp_seq_k ?_
      intro K9 hK9
      refine wp_seq_k ?_
      intro K8 hK8
      refine wp_region_seq [(78, false)]
        [(2, IsV (.pointer (some ⟨w.heap.size, 0, none⟩))), (3, IsV (.pointer (some ⟨(w.heap.size + 1), 0, none⟩))), (5, IsV (.pointer (some ⟨b5, 0, none⟩))), (7, IsV (.pointer (some ⟨b7, 0, none⟩))), (9, IsV (.pointer (some ⟨b9, 0, none⟩))), (6, IsV (.int .i64 (0))), (8, IsV (.int .i64 (0))), (10, IsV (.int .i64 (0)))]
        [(76, IsF 10 (B)), (77, IsV (.int .i64 (cmpR (B) 0)))]
        118 3 hs70 (by kernel_rfl) (by kernel_rfl) ⟨g2, g3, g5, g7, g9, g6, g8, g10, trivial⟩ ⟨IsV.grows _ , IsV.grows _ , IsV.grows _ , IsV.grows _ , IsV.grows _ , IsV.grows _ , IsV.grows _ , IsV.grows _ , IsF.grows _ _ , IsV.grows _ , trivial⟩ ?_ ?_
      · refine AllStep.cons (step_loadT (fun _ _ h => h) (fun W hb => run_load4 rfl rfl rfl (N2.out W hb).at0 (N2.out W hb).at1 (N2.out W hb).at2 (N2.out W hb).at3) (fun w hb => HB.out w hb)) ?_
        refine AllStep.cons (step_call1 (Plain.of Tryz.func44 rfl rfl) (fun _ _ _ hu => (SignF_at (FrOk.at hu) (by decide) (by decide) _ sign_cmp).mono (fun _ _ h => ansV h))) ?_
        refine AllStep.cons (step_eqI (fun _ _ h => h) HS.out (fun _ => rfl)) ?_
        exact AllStep.nil
      intro a8 w8 hb8 hs8 hd8 hk8
      have q2 : a8.eval (.tmp 2) = .pointer (some ⟨w.heap.size, 0, none⟩) := hk8 2 (by kernel_rfl)
      have q3 : a8.eval (.tmp 3) = .pointer (some ⟨w.heap.size + 1, 0, none⟩) := hk8 3 (by kernel_rfl)
      have q5 : a8.eval (.tmp 5) = .pointer (some ⟨b5, 0, none⟩) := hk8 5 (by kernel_rfl)
      have q6 : a8.eval (.tmp 6) = .int .i64 0 := hk8 6 (by kernel_rfl)
      have q7 : a8.eval (.tmp 7) = .pointer (some ⟨b7, 0, none⟩) := hk8 7 (by kernel_rfl)
      have q8 : a8.eval (.tmp 8) = .int .i64 0 := hk8 8 (by kernel_rfl)
      have q9 : a8.eval (.tmp 9) = .pointer (some ⟨b9, 0, none⟩) := hk8 9 (by kernel_rfl)
      have q10 : a8.eval (.tmp 10) = .int .i64 0 := hk8 10 (by kernel_rfl)
      have q78 : a8.eval (.tmp 78) = .bool false := hk8 78 (by kernel_rfl)
      have HX := (HX.out _ hb8).keep
      have M5 := (M5.out _ hb8).keep
      have HY := (HY.out _ hb8).keep
      have M7 := (M7.out _ hb8).keep
      have HZ9 := (HZ9.out _ hb8).keep
      have M9 := (M9.out _ hb8).keep
      have HA := (HA.out _ hb8).keep
      have HB := (HB.out _ hb8).keep
      have N1 := (N1.out _ hb8).keep
      have N2 := (N2.out _ hb8).keep
      have RW := Lib.hid (Below.step RW.out hb8)
      refine hK8 _ _ ?_
      refine wp_cond_false q78 ?_
      refine wp_skip ?_
      refine hK9 _ _ ?_
      refine wp_seq_k ?_
      intro K10 hK10
      try simp only [List.append_eq, List.cons_append, List.nil_append]
      refine wp_region_known [(4, true), (90, true), (91, true), (93, true), (94, true), (95, true), (97, true), (98, true), (99, true), (102, true), (103, true), (104, true), (109, true), (110, true), (111, true), (116, true), (117, true)]
        [(2, IsV (.pointer (some ⟨w.heap.size, 0, none⟩))), (3, IsV (.pointer (some ⟨(w.heap.size + 1), 0, none⟩))), (6, IsV (.int .i64 (0))), (8, IsV (.int .i64 (0))), (10, IsV (.int .i64 (0))), (5, IsV (.pointer (some ⟨b5, 0, none⟩))), (7, IsV (.pointer (some ⟨b7, 0, none⟩))), (9, IsV (.pointer (some ⟨b9, 0, none⟩)))]
        [(89, IsV (.int .i64 (0))), (92, IsV (.int .i64 (0))), (96, IsV (.int .i64 (0))), (100, IsF 30 ((A * B / B))), (101, IsF 10 (A)), (105, IsF 20 ((A / B))), (106, IsF 10 (B)), (107, IsF 30 (((A / B) * B))), (108, IsF 10 (A)), (112, IsF 10 (A)), (113, IsF 13 ((Rat.divInt 1 1 / B))), (114, IsF 23 ((A * (Rat.divInt 1 1 / B)))), (115, IsF 20 ((A / B)))]
        118 (by kernel_rfl) hs8 (by kernel_rfl) (by kernel_rfl) ⟨q2, q3, q6, q8, q10, q5, q7, q9, trivial⟩ ⟨IsV.grows _ , IsV.grows _ , IsV.grows _ , IsV.grows _ , IsV.grows _ , IsV.grows _ , IsV.grows _ , IsV.grows _ , IsV.grows _ , IsV.grows _ , IsV.grows _ , IsF.grows _ _ , IsF.grows _ _ , IsF.grows _ _ , IsF.grows _ _ , IsF.grows _ _ , IsF.grows _ _ , IsF.grows _ _ , IsF.grows _ _ , IsF.grows _ _ , IsF.grows _ _ , trivial⟩ ?_ ?_
      · refine AllStep.cons (step_move (fun _ _ h => h)) ?_
        refine AllStep.cons (step_eqE (fun _ _ h => h) (by decide) (fun _ => rfl)) ?_
        refine AllStep.cons (step_move (fun _ _ h => h)) ?_
        refine AllStep.cons (step_move (fun _ _ h => h)) ?_
        refine AllStep.cons (step_eqE (fun _ _ h => h) (by decide) (fun _ => rfl)) ?_
        refine AllStep.cons (step_pickT (fun _ _ h => h) (fun _ _ h => h)) ?_
        refine AllStep.cons (step_move (fun _ _ h => h)) ?_
        refine AllStep.cons (step_move (fun _ _ h => h)) ?_
        refine AllStep.cons (step_eqE (fun _ _ h => h) (by decide) (fun _ => rfl)) ?_
        refine AllStep.cons (step_pickT (fun _ _ h => h) (fun _ _ h => h)) ?_
        refine AllStep.cons (step_move (fun _ _ h => h)) ?_
        refine AllStep.cons (step_loadT (fun _ _ h => h) (fun W hb => run_load4 rfl rfl rfl (M5.out W hb).at0 (M5.out W hb).at1 (M5.out W hb).at2 (M5.out W hb).at3) (fun w hb => HX.out w hb)) ?_
        refine AllStep.cons (step_loadT (fun _ _ h => h) (fun W hb => run_load4 rfl rfl rfl (N1.out W hb).at0 (N1.out W hb).at1 (N1.out W hb).at2 (N1.out W hb).at3) (fun w hb => HA.out w hb)) ?_
        refine AllStep.cons (step_call2 (Plain.of Tryz.func65 rfl rfl) (fun _ _ _ _ hu hv => (same_ok hu hv true (decide_eq_true (undone_a HZ.out))).mono (fun _ _ h => ansV h))) ?_
        refine AllStep.cons (step_pickT (fun _ _ h => h) (fun _ _ h => h)) ?_
        refine AllStep.cons (step_move (fun _ _ h => h)) ?_
        refine AllStep.cons (step_loadT (fun _ _ h => h) (fun W hb => run_load4 rfl rfl rfl (M7.out W hb).at0 (M7.out W hb).at1 (M7.out W hb).at2 (M7.out W hb).at3) (fun w hb => HY.out w hb)) ?_
        refine AllStep.cons (step_loadT (fun _ _ h => h) (fun W hb => run_load4 rfl rfl rfl (N2.out W hb).at0 (N2.out W hb).at1 (N2.out W hb).at2 (N2.out W hb).at3) (fun w hb => HB.out w hb)) ?_
        refine AllStep.cons (step_call2 (Plain.of Tryz.func39 rfl rfl) (fun _ _ _ _ hu hv => MulF_at (FrOk.at hu) (FrOk.at hv) (by decide) (by decide) (by decide) (by decide))) ?_
        refine AllStep.cons (step_loadT (fun _ _ h => h) (fun W hb => run_load4 rfl rfl rfl (N1.out W hb).at0 (N1.out W hb).at1 (N1.out W hb).at2 (N1.out W hb).at3) (fun w hb => HA.out w hb)) ?_
        refine AllStep.cons (step_call2 (Plain.of Tryz.func65 rfl rfl) (fun _ _ _ _ hu hv => (same_ok hu hv true (decide_eq_true (undone_b HZ.out))).mono (fun _ _ h => ansV h))) ?_
        refine AllStep.cons (step_pickT (fun _ _ h => h) (fun _ _ h => h)) ?_
        refine AllStep.cons (step_move (fun _ _ h => h)) ?_
        refine AllStep.cons (step_loadT (fun _ _ h => h) (fun W hb => run_load4 rfl rfl rfl (N1.out W hb).at0 (N1.out W hb).at1 (N1.out W hb).at2 (N1.out W hb).at3) (fun w hb => HA.out w hb)) ?_
        refine AllStep.cons (step_loadT (fun _ _ h => h) (fun W hb => run_load4 rfl rfl rfl (M9.out W hb).at0 (M9.out W hb).at1 (M9.out W hb).at2 (M9.out W hb).at3) (fun w hb => HZ9.out w hb)) ?_
        refine AllStep.cons (step_call2 (Plain.of Tryz.func39 rfl rfl) (fun _ _ _ _ hu hv => MulF_at (FrOk.at hu) (FrOk.at hv) (by decide) (by decide) (by decide) (by decide))) ?_
        refine AllStep.cons (step_loadT (fun _ _ h => h) (fun W hb => run_load4 rfl rfl rfl (M7.out W hb).at0 (M7.out W hb).at1 (M7.out W hb).at2 (M7.out W hb).at3) (fun w hb => HY.out w hb)) ?_
        refine AllStep.cons (step_call2 (Plain.of Tryz.func65 rfl rfl) (fun _ _ _ _ hu hv => (same_ok hu hv true (decide_eq_true (undone_c HZ.out))).mono (fun _ _ h => ansV h))) ?_
        refine AllStep.cons (step_pickT (fun _ _ h => h) (fun _ _ h => h)) ?_
        refine AllStep.cons (step_assign (fun _ _ h => h)) ?_
        exact AllStep.nil
      · intro a9 w9 hb9 hs9 hd9 hk9
        refine hK10 _ _ ?_
        refine wp_ret ?_
        exact ret_slot (t := 4) (v := .bool true) rfl (hd9.trans (hd8.trans hd70)) (hk9 4) ⟨rfl, Below.step RW.out hb9⟩

end Go.Proofs.YtgpoljbccimkjaaGreatDoor

namespace Go.Proofs.YtgpoljbccimkjaaGreatDoor
set_option linter.unusedSimpArgs false
set_option linter.unusedVariables false
open Go.ChangeShapes Go.WideShapes Go.ChangeAt Go.RowKit
open Go.ChangeMaps (open_string)

set_option maxRecDepth 100000 in
theorem fracsUndone_contract (H : Type) (enc : TypeId × Value → H) (W : World) (base : Nat) (args : Array Value) (ds gs : List (DataW H)) (before : List MemPlace)
    (hval : ∀ (j : Nat) t v, Tryz.f9.params[j]? = some t → args[j]? = some v → Value.okWide Tryz.prog W .any base t v)
    (hW : DataW.Whole enc Tryz.prog Tryz.f9.params.toList Rows.fracsUndoneSpec.vars false W args.toList ds gs before) (hL : laidMetH Tryz.prog Rows.fracsUndoneRow.laid W) :
    Calls Tryz.prog 9 args W fun e W' => ∃ v, e = .returned v ∧ Rows.fracsUndoneSpec.post enc Tryz.prog Tryz.f9 false true false false W args v W' := by
  have hW' := hW
  obtain ⟨p, q, hA0, hV, rfl, hfz, hnd⟩ := hW
  have hA : DataW.TrodAll enc Tryz.prog W 0 (fun _ => true) true Tryz.f9.params.toList args.toList ds p := hA0
  rw [Tryz.params9] at hA hval
  obtain ⟨v0, vs0, d0, ds0, p0, q0, hargs0, rfl, rfl, h0, r0⟩ := trodAll_cons hA
  obtain ⟨v1, vs1, d1, ds1, p1, q1, hargs1, rfl, rfl, h1, r1⟩ := trodAll_cons r0
  subst hargs1
  obtain ⟨rfl, rfl, rfl⟩ := trodAll_nil r1
  obtain rfl : args = #[v0, v1] := by cases args; simp_all
  obtain ⟨rfl, rfl⟩ := trodVars_none hV
  obtain ⟨s0, x0, l0, s0', x0', l0', rfl, hl0, hl0'⟩ := open_frac (hval 0 _ v0 rfl rfl) h0
  obtain ⟨s1, x1, l1, s1', x1', l1', rfl, hl1, hl1'⟩ := open_frac (hval 1 _ v1 rfl rfl) h1
  refine (FracsUndone_true W s0 s0' x0 x0' l0 l0' hl0 hl0' s1 s1' x1 x1' l1 l1' hl1 hl1' (tab_of hL)).mono fun e W' ⟨he, hg⟩ => ?_
  subst he
  refine ⟨_, rfl, law_post rfl (by kernel_rfl) (by kernel_rfl) hW' rfl rfl rfl hg⟩

theorem fracsUndone_met (os : Os) : laidMet Tryz.prog Rows.fracsUndoneRow.laid ((laidWorld os).forCall (fun _ _ => 0) ⟨#[], #[.agg #[.bool false, .slice none 0 0, .bool false, .slice none 0 0], .agg #[.bool false, .slice none 0 0, .bool false, .slice none 0 0]], []⟩).memory :=
  laidMet_of_run' 8 (by kernel_rfl) (by kernel_rfl)
theorem fracsUndone_reads (os : Os) {H : Type} (enc : TypeId × Value → H) : ∃ places, DataW.whole enc Tryz.prog ((laidWorld os).forCall (fun _ _ => 0) ⟨#[], #[.agg #[.bool false, .slice none 0 0, .bool false, .slice none 0 0], .agg #[.bool false, .slice none 0 0, .bool false, .slice none 0 0]], []⟩).memory Tryz.f9.params.toList Rows.fracsUndoneSpec.vars false (#[.agg #[.bool false, .slice none 0 0, .bool false, .slice none 0 0], .agg #[.bool false, .slice none 0 0, .bool false, .slice none 0 0]] : Array Value).toList 8 = some ([.agg [.agg [.lit (.bool false), .nil], .agg [.lit (.bool false), .nil]], .agg [.agg [.lit (.bool false), .nil], .agg [.lit (.bool false), .nil]]], [], places) :=
  ⟨[], by kernel_rfl⟩

set_option maxRecDepth 100000 in
theorem fracsUndone_lifted (os : Os) (started : os.Started) (H : Type) (enc : TypeId × Value → H) (F : Stop.Interp) :
    ReturnsInHanded {} Tryz.checked os 9 .any ((OpenSpec.ofChange Rows.fracsUndoneSpec).preRow enc Tryz.prog Tryz.f9 Rows.fracsUndoneRow.domain false Rows.fracsUndoneRow.laid) (((OpenSpec.ofChange Rows.fracsUndoneSpec).at F).post enc Tryz.prog Tryz.f9 false true false false) := by
  obtain ⟨places, hx⟩ := fracsUndone_reads os enc
  refine returnsInHanded_of_row (C := Tryz.checked) (s := OpenSpec.ofChange Rows.fracsUndoneSpec) own_knob started (by kernel_rfl) Tryz.func9
    (witness_row_at (enc := enc) (C := Tryz.checked) false (laidWorld os) #[.agg #[.bool false, .slice none 0 0, .bool false, .slice none 0 0], .agg #[.bool false, .slice none 0 0, .bool false, .slice none 0 0]] rfl (by kernel_rfl) (by kernel_rfl) (by kernel_rfl)
      (OpenSpec.preRow_of_cond 8 hx (by kernel_rfl) (fun k hk => by cases hk) (by kernel_rfl) (fracsUndone_met os))) ?_
  intro W base args ds gs before hval hW _ _ _ hL _ _
  exact fracsUndone_contract H enc W base args ds gs before hval hW hL

theorem fracsUndone_said : Rows.FracsUndoneSaid :=
  OpenClaim.holds_of_cond 9 Tryz.f9 rfl rfl rfl rfl rfl rfl rfl ⟨rfl, rfl, rfl, rfl, rfl⟩ rfl rfl rfl rfl rfl (by kernel_rfl) Tryz.func9 (by kernel_rfl)
    (of_decide_eq_true (by kernel_rfl)) (by unfold Func.isWrapper; first | (rw [if_pos (by decide +kernel)]; kernel_rfl) | (rw [if_neg (by decide +kernel)]; exact ⟨rfl, rfl⟩))
    (fun os started H enc _ F => by rw [OpenClaim.pre_eq_preRow]; exact fracsUndone_lifted os started H enc F)

theorem fracsUndone_plain (f : FuncId) (fn : Func) (hf : Tryz.pinned.checked.prog.funcNamed Rows.fracsUndoneRow.func = some f) (hfn : Tryz.pinned.checked.prog.funcs[f]? = some fn) :
    false = Tryz.pinned.checked.prog.looks [] ∧ ∀ (j : Nat) t, fn.params[j]? = some t → Tryz.pinned.checked.prog.wantsStandIn t = false := by
  obtain rfl : f = 9 := Option.some.inj ((show Tryz.prog.funcNamed Rows.fracsUndoneRow.func = some 9 by kernel_rfl).symm.trans hf) |>.symm
  obtain rfl : fn = Tryz.f9 := (Option.some.inj (Tryz.func9.symm.trans hfn)).symm
  refine ⟨by kernel_rfl, fun j t ht => ?_⟩
  rw [Tryz.params9] at ht
  have hall : ∀ u ∈ [58, 58], Tryz.prog.wantsStandIn u = false := by decide +kernel
  exact hall t (by simpa using Array.mem_of_getElem? ht)

theorem fracsUndone_card : Rows.FracsUndoneCardSaid :=
  Claim7.holds_tied_plain_at .later [] _ _ _ _ fracsUndone_said (fun _ h => by cases h) (by kernel_rfl) (fun _ h => by cases h) fracsUndone_row_tie rfl ⟨rfl, rfl⟩ (by kernel_rfl) rfl fracsUndone_plain (by kernel_rfl)
end Go.Proofs.YtgpoljbccimkjaaGreatDoor
