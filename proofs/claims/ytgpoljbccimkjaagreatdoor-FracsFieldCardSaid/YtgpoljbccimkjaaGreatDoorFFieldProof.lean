/- FracsField: for every input the law answers true and leaves what it was handed as it was; the library's tables are as the program lays them. -/
import Derived.Test.YtgpoljbccimkjaaGreatDoorFGreat
import Derived.Test.YtgpoljbccimkjaaGreatDoorFRow
namespace Go.Proofs.YtgpoljbccimkjaaGreatDoor
set_option linter.unusedSimpArgs false
set_option linter.unusedVariables false
open Go.RowKit Go.Shelf

set_option maxRecDepth 100000 in
set_option maxHeartbeats 8000000 in
theorem FracsField_true (w : World) (s1 s1' : Bool) (v1 v1' : Value) (l1 l1' : List Nat) (h1 : Lim w v1 l1) (h1' : Lim w v1' l1') (s2 s2' : Bool) (v2 v2' : Value) (l2 l2' : List Nat) (h2 : Lim w v2 l2) (h2' : Lim w v2' l2') (s3 s3' : Bool) (v3 v3' : Value) (l3 l3' : List Nat) (h3 : Lim w v3 l3) (h3' : Lim w v3' l3') (htab : Tab w) :
    Calls Tryz.prog 8 #[.agg #[.bool s1, v1, .bool s1', v1'], .agg #[.bool s2, v2, .bool s2', v2'], .agg #[.bool s3, v3, .bool s3', v3']] w fun e w' => e = .returned (.bool true) ∧ Below w.heap.size w w' := by
  have g1 := h1
  have g1' := h1'
  have g2 := h2
  have g2' := h2'
  have g3 := h3
  have g3' := h3'
  obtain ⟨a1, c1, rfl, -⟩ := h1
  obtain ⟨a1', c1', rfl, -⟩ := h1'
  obtain ⟨a2, c2, rfl, -⟩ := h2
  obtain ⟨a2', c2', rfl, -⟩ := h2'
  obtain ⟨a3, c3, rfl, -⟩ := h3
  obtain ⟨a3', c3', rfl, -⟩ := h3'
  have HMX : Hid (l1.length ≤ 9223372036854775807 ∧ l1'.length ≤ 9223372036854775807 ∧ l2.length ≤ 9223372036854775807 ∧ l2'.length ≤ 9223372036854775807 ∧ l3.length ≤ 9223372036854775807 ∧ l3'.length ≤ 9223372036854775807) := ⟨g1.max, g1'.max, g2.max, g2'.max, g3.max, g3'.max⟩
  obtain ⟨W0, e0, n1, n2, n3, hb0⟩ := box_fr3 w (.bool s1) (.slice a1 l1.length c1) (.bool s1') (.slice a1' l1'.length c1') (.bool s2) (.slice a2 l2.length c2) (.bool s2') (.slice a2' l2'.length c2') (.bool s3) (.slice a3 l3.length c3) (.bool s3') (.slice a3' l3'.length c3')
  have T0 : Hid (∀ W, Below w.heap.size w W → Tab W) := fun W hb => htab.below hb
  have G1 := Lib.hid (g1.below hb0)
  have G1' := Lib.hid (g1'.below hb0)
  have G2 := Lib.hid (g2.below hb0)
  have G2' := Lib.hid (g2'.below hb0)
  have G3 := Lib.hid (g3.below hb0)
  have G3' := Lib.hid (g3'.below hb0)
  have N1 := n1.keep
  have N2 := n2.keep
  have N3 := n3.keep
  have B0 := Lib.hid hb0
  clear g1 g1' g2 g2' g3 g3' n1 n2 n3 hb0 htab
  go_enter Tryz.func8, Tryz.ntmps8
  go_wp2_with fail
  clear e0
  refine (aliveF_true _ (T0.out _ B0.out)).mono ?_
  rintro e w1 ⟨rfl, hb1⟩
  have B1 := Lib.hid hb1
  obtain ⟨p0, p1, p2, p3⟩ := (N1.out _ hb1).c4
  obtain ⟨p4, p5, p6, p7⟩ := (N2.out _ hb1).c4
  obtain ⟨p8, p9, p10, p11⟩ := (N3.out _ hb1).c4
  clear hb1
  go_wp2_with fail
  by_cases hbig : (8 < l1.length ∨ 8 < l1'.length) ∨ (8 < l2.length ∨ 8 < l2'.length) ∨ (8 < l3.length ∨ 8 < l3'.length)
  · refine (greatF3 (most := 8) (r := true) (n1 := l1.length) (n2 := l1'.length) (n3 := l2.length) (n4 := l2'.length) (n5 := l3.length) (n6 := l3'.length) (p1 := a1) (p2 := a1') (p3 := a2) (p4 := a2') (p5 := a3) (p6 := a3') (c1 := c1) (c2 := c1') (c3 := c2) (c4 := c2') (c5 := c3) (c6 := c3') rfl (by decide) HMX.out.1 HMX.out.2.1 HMX.out.2.2.1 HMX.out.2.2.2.1 HMX.out.2.2.2.2.1 HMX.out.2.2.2.2.2 (by go_simp) (by go_simp) (by go_simp) (by go_simp) (by go_simp) (by go_simp) (decide_eq_true hbig)).mono ?_
    rintro e w2 ⟨rfl, rfl⟩
    go_wp2_with fail
    refine (aliveF_true _ (T0.out _ (Below.step B0.out (Below.step B1.out (by repeat (first | exact Below.refl _ _ | with_reducible refine Below.drew ?_ | with_reducible refine below_drewN ?_ _ | with_reducible refine Below.setCell ?_ (by first | (simp; done) | (simp; omega) | omega) _ | with_reducible refine Below.alloc ?_ (by first | (simp; done) | (simp; omega) | omega) _)))))).mono ?_
    rintro e w2 ⟨rfl, hb2⟩
    have B2 := Lib.hid (Below.step B0.out (Below.step B1.out (Below.step (w := w1) (by repeat (first | exact Below.refl _ _ | with_reducible refine Below.drew ?_ | with_reducible refine below_drewN ?_ _ | with_reducible refine Below.setCell ?_ (by first | (simp; done) | (simp; omega) | omega) _ | with_reducible refine Below.alloc ?_ (by first | (simp; done) | (simp; omega) | omega) _)) hb2)))
    clear hb2
    go_wp2_with fail
    go_ret
    exact ⟨rfl, B2.out⟩
  · refine (greatF3 (most := 8) (r := false) (n1 := l1.length) (n2 := l1'.length) (n3 := l2.length) (n4 := l2'.length) (n5 := l3.length) (n6 := l3'.length) (p1 := a1) (p2 := a1') (p3 := a2) (p4 := a2') (p5 := a3) (p6 := a3') (c1 := c1) (c2 := c1') (c3 := c2) (c4 := c2') (c5 := c3) (c6 := c3') rfl (by decide) HMX.out.1 HMX.out.2.1 HMX.out.2.2.1 HMX.out.2.2.2.1 HMX.out.2.2.2.2.1 HMX.out.2.2.2.2.2 (by go_simp) (by go_simp) (by go_simp) (by go_simp) (by go_simp) (by go_simp) (decide_eq_false hbig)).mono ?_
    rintro e w2 ⟨rfl, rfl⟩
    obtain ⟨W2, e2, b2⟩ : ∃ W2, w1.alloc (.cells #[.bool s1, .slice a1 l1.length c1, .bool s1', .slice a1' l1'.length c1', .bool s2, .slice a2 l2.length c2, .bool s2', .slice a2' l2'.length c2', .bool s3, .slice a3 l3.length c3, .bool s3', .slice a3' l3'.length c3'] 58) = W2 ∧ Below w1.heap.size w1 W2 := ⟨_, rfl, (Below.refl _ _).alloc (Nat.le_refl _) _⟩
    have R2 := Below.step B1.out b2
    rw [e2]
    obtain ⟨A, hA⟩ : ∃ A, ratZ s1 l1 s1' l1' = A := ⟨_, rfl⟩
    obtain ⟨B, hB⟩ : ∃ B, ratZ s2 l2 s2' l2' = B := ⟨_, rfl⟩
    obtain ⟨C, hC⟩ : ∃ C, ratZ s3 l3 s3' l3' = C := ⟨_, rfl⟩
    have ha := FrAt.of (s := s1) (s' := s1') (k := 8) (G1.out.below R2) (G1'.out.below R2) (by omega) (by omega)
    have hb := FrAt.of (s := s2) (s' := s2') (k := 8) (G2.out.below R2) (G2'.out.below R2) (by omega) (by omega)
    have hc := FrAt.of (s := s3) (s' := s3') (k := 8) (G3.out.below R2) (G3'.out.below R2) (by omega) (by omega)
    rw [hA] at ha
    rw [hB] at hb
    rw [hC] at hc
    have HA := ha.keep
    have HB := hb.keep
    have HC := hc.keep
    have N1 := (N1.out _ R2).keep
    have N2 := (N2.out _ R2).keep
    have N3 := (N3.out _ R2).keep
    have RW := Lib.hid (Below.step B0.out R2)
    obtain ⟨q0, q1, q2, q3⟩ := (N1.out _ (Below.refl _ _)).c4
    obtain ⟨q4, q5, q6, q7⟩ := (N2.out _ (Below.refl _ _)).c4
    clear ha hb hc hA hB hC R2 b2 e2 hbig p0 p1 p2 p3 p4 p5 p6 p7 p8 p9 p10 p11
    go_wp2_with fail
    refine (AddF_at (HA.out _ (Below.refl _ _)) (HB.out _ (Below.refl _ _)) (by decide) (by decide) (by decide) (by decide)).mono ?_
    rintro e w3 ⟨⟨u3, rfl, h3⟩, hb3⟩
    obtain ⟨z1, x1, i1, j1, z2, x2, i2, j2, rfl, -⟩ := h3.split
    obtain ⟨W3, e3, n4, b3⟩ := name_fr w3 (.bool z1) (.slice x1 i1 j1) (.bool z2) (.slice x2 i2 j2)
    have R3 := Below.step hb3 b3
    have HS := (h3.below b3).keep
    have N4 := n4.keep
    have HA := (HA.out _ R3).keep
    have HB := (HB.out _ R3).keep
    have HC := (HC.out _ R3).keep
    have N1 := (N1.out _ R3).keep
    have N2 := (N2.out _ R3).keep
    have N3 := (N3.out _ R3).keep
    have RW := Lib.hid (Below.step RW.out R3)
    obtain ⟨p0, p1, p2, p3⟩ := (N1.out _ (Below.refl _ _)).c4
    obtain ⟨p4, p5, p6, p7⟩ := (N2.out _ (Below.refl _ _)).c4
    clear h3 b3 n4 hb3 R3 q0 q1 q2 q3 q4 q5 q6 q7
    go_wp2_with fail
    clear e3
    refine (MulF_at (HA.out _ (Below.refl _ _)) (HB.out _ (Below.refl _ _)) (by decide) (by decide) (by decide) (by decide)).mono ?_
    rintro e w4 ⟨⟨u4, rfl, h4⟩, hb4⟩
    obtain ⟨z1, x1, i1, j1, z2, x2, i2, j2, rfl, -⟩ := h4.split
    obtain ⟨W4, e4, n5, b4⟩ := name_fr w4 (.bool z1) (.slice x1 i1 j1) (.bool z2) (.slice x2 i2 j2)
    have R4 := Below.step hb4 b4
    have HP := (h4.below b4).keep
    have N5 := n5.keep
    have HS := (HS.out _ R4).keep
    have N4 := (N4.out _ R4).keep
    have HA := (HA.out _ R4).keep
    have HB := (HB.out _ R4).keep
    have HC := (HC.out _ R4).keep
    have N1 := (N1.out _ R4).keep
    have N2 := (N2.out _ R4).keep
    have N3 := (N3.out _ R4).keep
    have RW := Lib.hid (Below.step RW.out R4)
    clear h4 b4 n5 hb4 R4 p0 p1 p2 p3 p4 p5 p6 p7
    go_upto_region 5 with fail
    clear e4
    rename_i K hK
    try simp only [List.append_eq, List.cons_append, List.nil_append]
    refine wp_region_known [(6, true), (26, true), (27, true), (29, true), (30, true), (31, true), (36, true), (37, true), (38, true), (43, true), (44, true), (45, true), (54, true), (55, true), (56, true), (65, true), (66, true), (67, true), (78, true), (79, true)]
      [(3, IsV (.pointer (some ⟨w.heap.size, 0, none⟩))), (4, IsV (.pointer (some ⟨(w.heap.size + 1), 0, none⟩))), (5, IsV (.pointer (some ⟨(w.heap.size + 1 + 1), 0, none⟩))), (7, IsV (.pointer (some ⟨w3.heap.size, 0, none⟩))), (8, IsV (.pointer (some ⟨w4.heap.size, 0, none⟩)))]
      [(25, IsF 17 ((A + B))), (28, IsF 16 ((A * B))), (32, IsF 17 ((A + B))), (33, IsG 8 (B)), (34, IsG 8 (A)), (35, IsF 17 ((B + A))), (39, IsF 16 ((A * B))), (40, IsG 8 (B)), (41, IsG 8 (A)), (42, IsF 16 ((B * A))), (46, IsF 17 ((A + B))), (47, IsG 8 (C)), (48, IsF 26 (((A + B) + C))), (49, IsG 8 (A)), (50, IsG 8 (B)), (51, IsG 8 (C)), (52, IsF 17 ((B + C))), (53, IsF 26 ((A + (B + C)))), (57, IsF 16 ((A * B))), (58, IsG 8 (C)), (59, IsF 24 (((A * B) * C))), (60, IsG 8 (A)), (61, IsG 8 (B)), (62, IsG 8 (C)), (63, IsF 16 ((B * C))), (64, IsF 24 ((A * (B * C)))), (68, IsF 17 ((A + B))), (69, IsG 8 (C)), (70, IsF 25 (((A + B) * C))), (71, IsG 8 (A)), (72, IsG 8 (C)), (73, IsF 16 ((A * C))), (74, IsG 8 (B)), (75, IsG 8 (C)), (76, IsF 16 ((B * C))), (77, IsF 33 (((A * C) + (B * C))))]
      80 (by kernel_rfl) rfl (by kernel_rfl) (by kernel_rfl) ⟨rfl, rfl, rfl, rfl, rfl, trivial⟩ ⟨IsV.grows _ , IsV.grows _ , IsV.grows _ , IsV.grows _ , IsV.grows _ , IsF.grows _ _ , IsF.grows _ _ , IsF.grows _ _ , IsG.grows _ _ , IsG.grows _ _ , IsF.grows _ _ , IsF.grows _ _ , IsG.grows _ _ , IsG.grows _ _ , IsF.grows _ _ , IsF.grows _ _ , IsG.grows _ _ , IsF.grows _ _ , IsG.grows _ _ , IsG.grows _ _ , IsG.grows _ _ , IsF.grows _ _ , IsF.grows _ _ , IsF.grows _ _ , IsG.grows _ _ , IsF.grows _ _ , IsG.grows _ _ , IsG.grows _ _ , IsG.grows _ _ , IsF.grows _ _ , IsF.grows _ _ , IsF.grows _ _ , IsG.grows _ _ , IsF.grows _ _ , IsG.grows _ _ , IsG.grows _ _ , IsF.grows _ _ , IsG.grows _ _ , IsG.grows _ _ , IsF.grows _ _ , IsF.grows _ _ , trivial⟩ ?_ ?_
    · refine AllStep.cons (step_loadT (fun _ _ h => h) (fun W hb => run_load4 rfl rfl rfl (N4.out W hb).at0 (N4.out W hb).at1 (N4.out W hb).at2 (N4.out W hb).at3) (fun w hb => HS.out w hb)) ?_
      refine AllStep.cons (step_call1 (Plain.of Tryz.func58 rfl rfl) (fun _ _ _ hu => (CheckF_ok hu (by decide)).mono (fun _ _ h => ansV h))) ?_
      refine AllStep.cons (step_move (fun _ _ h => h)) ?_
      refine AllStep.cons (step_loadT (fun _ _ h => h) (fun W hb => run_load4 rfl rfl rfl (N5.out W hb).at0 (N5.out W hb).at1 (N5.out W hb).at2 (N5.out W hb).at3) (fun w hb => HP.out w hb)) ?_
      refine AllStep.cons (step_call1 (Plain.of Tryz.func58 rfl rfl) (fun _ _ _ hu => (CheckF_ok hu (by decide)).mono (fun _ _ h => ansV h))) ?_
      refine AllStep.cons (step_pickT (fun _ _ h => h) (fun _ _ h => h)) ?_
      refine AllStep.cons (step_move (fun _ _ h => h)) ?_
      refine AllStep.cons (step_loadT (fun _ _ h => h) (fun W hb => run_load4 rfl rfl rfl (N4.out W hb).at0 (N4.out W hb).at1 (N4.out W hb).at2 (N4.out W hb).at3) (fun w hb => HS.out w hb)) ?_
      refine AllStep.cons (step_loadT (fun _ _ h => h) (fun W hb => run_load4 rfl rfl rfl (N2.out W hb).at0 (N2.out W hb).at1 (N2.out W hb).at2 (N2.out W hb).at3) (fun w hb => HB.out w hb)) ?_
      refine AllStep.cons (step_loadT (fun _ _ h => h) (fun W hb => run_load4 rfl rfl rfl (N1.out W hb).at0 (N1.out W hb).at1 (N1.out W hb).at2 (N1.out W hb).at3) (fun w hb => HA.out w hb)) ?_
      refine AllStep.cons (step_call2 (Plain.of Tryz.func37 rfl rfl) (fun _ _ _ _ hu hv => AddF_at hu hv (by decide) (by decide) (by decide) (by decide))) ?_
      refine AllStep.cons (step_call2 (Plain.of Tryz.func65 rfl rfl) (fun _ _ _ _ hu hv => (same_ok hu hv true (decide_eq_true (by grind))).mono (fun _ _ h => ansV h))) ?_
      refine AllStep.cons (step_pickT (fun _ _ h => h) (fun _ _ h => h)) ?_
      refine AllStep.cons (step_move (fun _ _ h => h)) ?_
      refine AllStep.cons (step_loadT (fun _ _ h => h) (fun W hb => run_load4 rfl rfl rfl (N5.out W hb).at0 (N5.out W hb).at1 (N5.out W hb).at2 (N5.out W hb).at3) (fun w hb => HP.out w hb)) ?_
      refine AllStep.cons (step_loadT (fun _ _ h => h) (fun W hb => run_load4 rfl rfl rfl (N2.out W hb).at0 (N2.out W hb).at1 (N2.out W hb).at2 (N2.out W hb).at3) (fun w hb => HB.out w hb)) ?_
      refine AllStep.cons (step_loadT (fun _ _ h => h) (fun W hb => run_load4 rfl rfl rfl (N1.out W hb).at0 (N1.out W hb).at1 (N1.out W hb).at2 (N1.out W hb).at3) (fun w hb => HA.out w hb)) ?_
      refine AllStep.cons (step_call2 (Plain.of Tryz.func39 rfl rfl) (fun _ _ _ _ hu hv => MulF_at hu hv (by decide) (by decide) (by decide) (by decide))) ?_
      refine AllStep.cons (step_call2 (Plain.of Tryz.func65 rfl rfl) (fun _ _ _ _ hu hv => (same_ok hu hv true (decide_eq_true (by grind))).mono (fun _ _ h => ansV h))) ?_
      refine AllStep.cons (step_pickT (fun _ _ h => h) (fun _ _ h => h)) ?_
      refine AllStep.cons (step_move (fun _ _ h => h)) ?_
      refine AllStep.cons (step_loadT (fun _ _ h => h) (fun W hb => run_load4 rfl rfl rfl (N4.out W hb).at0 (N4.out W hb).at1 (N4.out W hb).at2 (N4.out W hb).at3) (fun w hb => HS.out w hb)) ?_
      refine AllStep.cons (step_loadT (fun _ _ h => h) (fun W hb => run_load4 rfl rfl rfl (N3.out W hb).at0 (N3.out W hb).at1 (N3.out W hb).at2 (N3.out W hb).at3) (fun w hb => HC.out w hb)) ?_
      refine AllStep.cons (step_call2 (Plain.of Tryz.func37 rfl rfl) (fun _ _ _ _ hu hv => AddF_at (FrOk.at hu) hv (by decide) (by decide) (by decide) (by decide))) ?_
      refine AllStep.cons (step_loadT (fun _ _ h => h) (fun W hb => run_load4 rfl rfl rfl (N1.out W hb).at0 (N1.out W hb).at1 (N1.out W hb).at2 (N1.out W hb).at3) (fun w hb => HA.out w hb)) ?_
      refine AllStep.cons (step_loadT (fun _ _ h => h) (fun W hb => run_load4 rfl rfl rfl (N2.out W hb).at0 (N2.out W hb).at1 (N2.out W hb).at2 (N2.out W hb).at3) (fun w hb => HB.out w hb)) ?_
      refine AllStep.cons (step_loadT (fun _ _ h => h) (fun W hb => run_load4 rfl rfl rfl (N3.out W hb).at0 (N3.out W hb).at1 (N3.out W hb).at2 (N3.out W hb).at3) (fun w hb => HC.out w hb)) ?_
      refine AllStep.cons (step_call2 (Plain.of Tryz.func37 rfl rfl) (fun _ _ _ _ hu hv => AddF_at hu hv (by decide) (by decide) (by decide) (by decide))) ?_
      refine AllStep.cons (step_call2 (Plain.of Tryz.func37 rfl rfl) (fun _ _ _ _ hu hv => AddF_at hu (FrOk.at hv) (by decide) (by decide) (by decide) (by decide))) ?_
      refine AllStep.cons (step_call2 (Plain.of Tryz.func65 rfl rfl) (fun _ _ _ _ hu hv => (same_ok hu hv true (decide_eq_true (by grind))).mono (fun _ _ h => ansV h))) ?_
      refine AllStep.cons (step_pickT (fun _ _ h => h) (fun _ _ h => h)) ?_
      refine AllStep.cons (step_move (fun _ _ h => h)) ?_
      refine AllStep.cons (step_loadT (fun _ _ h => h) (fun W hb => run_load4 rfl rfl rfl (N5.out W hb).at0 (N5.out W hb).at1 (N5.out W hb).at2 (N5.out W hb).at3) (fun w hb => HP.out w hb)) ?_
      refine AllStep.cons (step_loadT (fun _ _ h => h) (fun W hb => run_load4 rfl rfl rfl (N3.out W hb).at0 (N3.out W hb).at1 (N3.out W hb).at2 (N3.out W hb).at3) (fun w hb => HC.out w hb)) ?_
      refine AllStep.cons (step_call2 (Plain.of Tryz.func39 rfl rfl) (fun _ _ _ _ hu hv => MulF_at (FrOk.at hu) hv (by decide) (by decide) (by decide) (by decide))) ?_
      refine AllStep.cons (step_loadT (fun _ _ h => h) (fun W hb => run_load4 rfl rfl rfl (N1.out W hb).at0 (N1.out W hb).at1 (N1.out W hb).at2 (N1.out W hb).at3) (fun w hb => HA.out w hb)) ?_
      refine AllStep.cons (step_loadT (fun _ _ h => h) (fun W hb => run_load4 rfl rfl rfl (N2.out W hb).at0 (N2.out W hb).at1 (N2.out W hb).at2 (N2.out W hb).at3) (fun w hb => HB.out w hb)) ?_
      refine AllStep.cons (step_loadT (fun _ _ h => h) (fun W hb => run_load4 rfl rfl rfl (N3.out W hb).at0 (N3.out W hb).at1 (N3.out W hb).at2 (N3.out W hb).at3) (fun w hb => HC.out w hb)) ?_
      refine AllStep.cons (step_call2 (Plain.of Tryz.func39 rfl rfl) (fun _ _ _ _ hu hv => MulF_at hu hv (by decide) (by decide) (by decide) (by decide))) ?_
      refine AllStep.cons (step_call2 (Plain.of Tryz.func39 rfl rfl) (fun _ _ _ _ hu hv => MulF_at hu (FrOk.at hv) (by decide) (by decide) (by decide) (by decide))) ?_
      refine AllStep.cons (step_call2 (Plain.of Tryz.func65 rfl rfl) (fun _ _ _ _ hu hv => (same_ok hu hv true (decide_eq_true (by grind))).mono (fun _ _ h => ansV h))) ?_
      refine AllStep.cons (step_pickT (fun _ _ h => h) (fun _ _ h => h)) ?_
      refine AllStep.cons (step_move (fun _ _ h => h)) ?_
      refine AllStep.cons (step_loadT (fun _ _ h => h) (fun W hb => run_load4 rfl rfl rfl (N4.out W hb).at0 (N4.out W hb).at1 (N4.out W hb).at2 (N4.out W hb).at3) (fun w hb => HS.out w hb)) ?_
      refine AllStep.cons (step_loadT (fun _ _ h => h) (fun W hb => run_load4 rfl rfl rfl (N3.out W hb).at0 (N3.out W hb).at1 (N3.out W hb).at2 (N3.out W hb).at3) (fun w hb => HC.out w hb)) ?_
      refine AllStep.cons (step_call2 (Plain.of Tryz.func39 rfl rfl) (fun _ _ _ _ hu hv => MulF_at (FrOk.at hu) hv (by decide) (by decide) (by decide) (by decide))) ?_
      refine AllStep.cons (step_loadT (fun _ _ h => h) (fun W hb => run_load4 rfl rfl rfl (N1.out W hb).at0 (N1.out W hb).at1 (N1.out W hb).at2 (N1.out W hb).at3) (fun w hb => HA.out w hb)) ?_
      refine AllStep.cons (step_loadT (fun _ _ h => h) (fun W hb => run_load4 rfl rfl rfl (N3.out W hb).at0 (N3.out W hb).at1 (N3.out W hb).at2 (N3.out W hb).at3) (fun w hb => HC.out w hb)) ?_
      refine AllStep.cons (step_call2 (Plain.of Tryz.func39 rfl rfl) (fun _ _ _ _ hu hv => MulF_at hu hv (by decide) (by decide) (by decide) (by decide))) ?_
      refine AllStep.cons (step_loadT (fun _ _ h => h) (fun W hb => run_load4 rfl rfl rfl (N2.out W hb).at0 (N2.out W hb).at1 (N2.out W hb).at2 (N2.out W hb).at3) (fun w hb => HB.out w hb)) ?_
      refine AllStep.cons (step_loadT (fun _ _ h => h) (fun W hb => run_load4 rfl rfl rfl (N3.out W hb).at0 (N3.out W hb).at1 (N3.out W hb).at2 (N3.out W hb).at3) (fun w hb => HC.out w hb)) ?_
      refine AllStep.cons (step_call2 (Plain.of Tryz.func39 rfl rfl) (fun _ _ _ _ hu hv => MulF_at hu hv (by decide) (by decide) (by decide) (by decide))) ?_
      refine AllStep.cons (step_call2 (Plain.of Tryz.func37 rfl rfl) (fun _ _ _ _ hu hv => AddF_at (FrOk.at hu) (FrOk.at hv) (by decide) (by decide) (by decide) (by decide))) ?_
      refine AllStep.cons (step_call2 (Plain.of Tryz.func65 rfl rfl) (fun _ _ _ _ hu hv => (same_ok hu hv true (decide_eq_true (by grind))).mono (fun _ _ h => ansV h))) ?_
      refine AllStep.cons (step_pickT (fun _ _ h => h) (fun _ _ h => h)) ?_
      refine AllStep.cons (step_assign (fun _ _ h => h)) ?_
      exact AllStep.nil
    · intro a' w' hb hs hd hk
      refine hK a' w' ?_
      refine wp_ret ?_
      exact ret_slot (t := 6) rfl hd (hk 6) ⟨rfl, Below.step RW.out hb⟩

end Go.Proofs.YtgpoljbccimkjaaGreatDoor

namespace Go.Proofs.YtgpoljbccimkjaaGreatDoor
set_option linter.unusedSimpArgs false
set_option linter.unusedVariables false
open Go.ChangeShapes Go.WideShapes Go.ChangeAt Go.RowKit
open Go.ChangeMaps (open_string)

set_option maxRecDepth 100000 in
theorem fracsField_contract (H : Type) (enc : TypeId × Value → H) (W : World) (base : Nat) (args : Array Value) (ds gs : List (DataW H)) (before : List MemPlace)
    (hval : ∀ (j : Nat) t v, Tryz.f8.params[j]? = some t → args[j]? = some v → Value.okWide Tryz.prog W .any base t v)
    (hW : DataW.Whole enc Tryz.prog Tryz.f8.params.toList Rows.fracsFieldSpec.vars false W args.toList ds gs before) (hL : laidMetH Tryz.prog Rows.fracsFieldRow.laid W) :
    Calls Tryz.prog 8 args W fun e W' => ∃ v, e = .returned v ∧ Rows.fracsFieldSpec.post enc Tryz.prog Tryz.f8 false true false false W args v W' := by
  have hW' := hW
  obtain ⟨p, q, hA0, hV, rfl, hfz, hnd⟩ := hW
  have hA : DataW.TrodAll enc Tryz.prog W 0 (fun _ => true) true Tryz.f8.params.toList args.toList ds p := hA0
  rw [Tryz.params8] at hA hval
  obtain ⟨v0, vs0, d0, ds0, p0, q0, hargs0, rfl, rfl, h0, r0⟩ := trodAll_cons hA
  obtain ⟨v1, vs1, d1, ds1, p1, q1, hargs1, rfl, rfl, h1, r1⟩ := trodAll_cons r0
  subst hargs1
  obtain ⟨v2, vs2, d2, ds2, p2, q2, hargs2, rfl, rfl, h2, r2⟩ := trodAll_cons r1
  subst hargs2
  obtain ⟨rfl, rfl, rfl⟩ := trodAll_nil r2
  obtain rfl : args = #[v0, v1, v2] := by cases args; simp_all
  obtain ⟨rfl, rfl⟩ := trodVars_none hV
  obtain ⟨s0, x0, l0, s0', x0', l0', rfl, hl0, hl0'⟩ := open_frac (hval 0 _ v0 rfl rfl) h0
  obtain ⟨s1, x1, l1, s1', x1', l1', rfl, hl1, hl1'⟩ := open_frac (hval 1 _ v1 rfl rfl) h1
  obtain ⟨s2, x2, l2, s2', x2', l2', rfl, hl2, hl2'⟩ := open_frac (hval 2 _ v2 rfl rfl) h2
  refine (FracsField_true W s0 s0' x0 x0' l0 l0' hl0 hl0' s1 s1' x1 x1' l1 l1' hl1 hl1' s2 s2' x2 x2' l2 l2' hl2 hl2' (tab_of hL)).mono fun e W' ⟨he, hg⟩ => ?_
  subst he
  refine ⟨_, rfl, law_post rfl (by kernel_rfl) (by kernel_rfl) hW' rfl rfl rfl hg⟩

theorem fracsField_met (os : Os) : laidMet Tryz.prog Rows.fracsFieldRow.laid ((laidWorld os).forCall (fun _ _ => 0) ⟨#[], #[.agg #[.bool false, .slice none 0 0, .bool false, .slice none 0 0], .agg #[.bool false, .slice none 0 0, .bool false, .slice none 0 0], .agg #[.bool false, .slice none 0 0, .bool false, .slice none 0 0]], []⟩).memory :=
  laidMet_of_run' 8 (by kernel_rfl) (by kernel_rfl)
theorem fracsField_reads (os : Os) {H : Type} (enc : TypeId × Value → H) : ∃ places, DataW.whole enc Tryz.prog ((laidWorld os).forCall (fun _ _ => 0) ⟨#[], #[.agg #[.bool false, .slice none 0 0, .bool false, .slice none 0 0], .agg #[.bool false, .slice none 0 0, .bool false, .slice none 0 0], .agg #[.bool false, .slice none 0 0, .bool false, .slice none 0 0]], []⟩).memory Tryz.f8.params.toList Rows.fracsFieldSpec.vars false (#[.agg #[.bool false, .slice none 0 0, .bool false, .slice none 0 0], .agg #[.bool false, .slice none 0 0, .bool false, .slice none 0 0], .agg #[.bool false, .slice none 0 0, .bool false, .slice none 0 0]] : Array Value).toList 8 = some ([.agg [.agg [.lit (.bool false), .nil], .agg [.lit (.bool false), .nil]], .agg [.agg [.lit (.bool false), .nil], .agg [.lit (.bool false), .nil]], .agg [.agg [.lit (.bool false), .nil], .agg [.lit (.bool false), .nil]]], [], places) :=
  ⟨[], by kernel_rfl⟩

set_option maxRecDepth 100000 in
theorem fracsField_lifted (os : Os) (started : os.Started) (H : Type) (enc : TypeId × Value → H) (F : Stop.Interp) :
    ReturnsInHanded {} Tryz.checked os 8 .any ((OpenSpec.ofChange Rows.fracsFieldSpec).preRow enc Tryz.prog Tryz.f8 Rows.fracsFieldRow.domain false Rows.fracsFieldRow.laid) (((OpenSpec.ofChange Rows.fracsFieldSpec).at F).post enc Tryz.prog Tryz.f8 false true false false) := by
  obtain ⟨places, hx⟩ := fracsField_reads os enc
  refine returnsInHanded_of_row (C := Tryz.checked) (s := OpenSpec.ofChange Rows.fracsFieldSpec) own_knob started (by kernel_rfl) Tryz.func8
    (witness_row_at (enc := enc) (C := Tryz.checked) false (laidWorld os) #[.agg #[.bool false, .slice none 0 0, .bool false, .slice none 0 0], .agg #[.bool false, .slice none 0 0, .bool false, .slice none 0 0], .agg #[.bool false, .slice none 0 0, .bool false, .slice none 0 0]] rfl (by kernel_rfl) (by kernel_rfl) (by kernel_rfl)
      (OpenSpec.preRow_of_cond 8 hx (by kernel_rfl) (fun k hk => by cases hk) (by kernel_rfl) (fracsField_met os))) ?_
  intro W base args ds gs before hval hW _ _ _ hL _ _
  exact fracsField_contract H enc W base args ds gs before hval hW hL

theorem fracsField_said : Rows.FracsFieldSaid :=
  OpenClaim.holds_of_cond 8 Tryz.f8 rfl rfl rfl rfl rfl rfl rfl ⟨rfl, rfl, rfl, rfl, rfl⟩ rfl rfl rfl rfl rfl (by kernel_rfl) Tryz.func8 (by kernel_rfl)
    (of_decide_eq_true (by kernel_rfl)) (by unfold Func.isWrapper; first | (rw [if_pos (by decide +kernel)]; kernel_rfl) | (rw [if_neg (by decide +kernel)]; exact ⟨rfl, rfl⟩))
    (fun os started H enc _ F => by rw [OpenClaim.pre_eq_preRow]; exact fracsField_lifted os started H enc F)

theorem fracsField_plain (f : FuncId) (fn : Func) (hf : Tryz.pinned.checked.prog.funcNamed Rows.fracsFieldRow.func = some f) (hfn : Tryz.pinned.checked.prog.funcs[f]? = some fn) :
    false = Tryz.pinned.checked.prog.looks [] ∧ ∀ (j : Nat) t, fn.params[j]? = some t → Tryz.pinned.checked.prog.wantsStandIn t = false := by
  obtain rfl : f = 8 := Option.some.inj ((show Tryz.prog.funcNamed Rows.fracsFieldRow.func = some 8 by kernel_rfl).symm.trans hf) |>.symm
  obtain rfl : fn = Tryz.f8 := (Option.some.inj (Tryz.func8.symm.trans hfn)).symm
  refine ⟨by kernel_rfl, fun j t ht => ?_⟩
  rw [Tryz.params8] at ht
  have hall : ∀ u ∈ [58, 58, 58], Tryz.prog.wantsStandIn u = false := by decide +kernel
  exact hall t (by simpa using Array.mem_of_getElem? ht)

theorem fracsField_card : Rows.FracsFieldCardSaid :=
  Claim7.holds_tied_plain_at .later [] _ _ _ _ fracsField_said (fun _ h => by cases h) (by kernel_rfl) (fun _ h => by cases h) fracsField_row_tie rfl ⟨rfl, rfl⟩ (by kernel_rfl) rfl fracsField_plain (by kernel_rfl)
end Go.Proofs.YtgpoljbccimkjaaGreatDoor
