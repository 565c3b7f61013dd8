/- Walk: the law MonosLeast. -/
import Derived.Test.YtikbjjechhdclaaMLaws
namespace Go.Proofs.Ytikbjjechhdclaa
open Go.RowKit

set_option maxRecDepth 100000 in
set_option maxHeartbeats 2000000 in
theorem Least_both {x y z : M4} (hx : OkM x) (hy : OkM y) (hz : OkM z) (h : inM x z) (h' : inM y z) (w : World) : Calls Try.prog 6 #[mv x, mv y, mv z] w fun e w' => e = .returned (.bool true) ∧ Below w.heap.size w w' := by
  have HX := Lib.hid hx
  have HY := Lib.hid hy
  have HZ := Lib.hid hz
  have B3 : Hid (decide (inM x z) = true) := decide_eq_true h
  have B4 : Hid (decide (inM y z) = true) := decide_eq_true h'
  have B5 : Hid (decide (inM (lcmM x y) z) = true) := decide_eq_true (lcm_in.2 ⟨h, h'⟩)
  clear hx hy hz h h'
  obtain ⟨W0, e0, n1, n2, n3, hb0⟩ := box_xyz w x y z
  have HB0 := Lib.hid hb0
  have N1 := n1.keep
  have N2 := n2.keep
  have N3 := n3.keep
  have c1 := n1.c4
  have c2 := n2.c4
  have c3 := n3.c4
  clear n1 n2 n3 hb0
  unfold mv
  go_enter Try.func6, Try.ntmps6
  go_wp2_with fail
  clear e0
  refine (Lcm_any HX.out HY.out _).mono ?_
  rintro e w1 ⟨rfl, hb⟩
  obtain ⟨W1, e1, m, hb2, -⟩ := box_new w1 (lcmM x y) (T := 24)
  have hb := Below.step hb hb2
  clear c1 c2 c3
  have N1 := (N1.out _ hb).keep
  have c1 := (N1.out _ (Below.refl _ _)).c4
  have N2 := (N2.out _ hb).keep
  have c2 := (N2.out _ (Below.refl _ _)).c4
  have N3 := (N3.out _ hb).keep
  have c3 := (N3.out _ (Below.refl _ _)).c4
  have N4 := m.keep
  have c4 := m.c4
  have HB1 := Lib.hid (Below.step HB0.out hb)
  clear hb hb2 m
  unfold mv
  go_wp2_with fail
  refine (Div_to (OkM.lcm HX.out HY.out) HX.out _ true rfl (decide_eq_true (in_lcm_left x y)) _).mono ?_
  rintro e w2 ⟨rfl, hb⟩
  obtain ⟨W2, e2, m, hb2, -⟩ := box_new w2 (divM (lcmM x y) x) (T := 24)
  have hb := Below.step hb hb2
  clear c1 c2 c3 c4
  have N1 := (N1.out _ hb).keep
  have c1 := (N1.out _ (Below.refl _ _)).c4
  have N2 := (N2.out _ hb).keep
  have c2 := (N2.out _ (Below.refl _ _)).c4
  have N3 := (N3.out _ hb).keep
  have c3 := (N3.out _ (Below.refl _ _)).c4
  have N4 := (N4.out _ hb).keep
  have c4 := (N4.out _ (Below.refl _ _)).c4
  have N5 := m.keep
  have c5 := m.c4
  have HB2 := Lib.hid (Below.step HB1.out hb)
  clear hb hb2 m
  unfold mv
  go_wp2_with fail
  refine (Div_to (OkM.lcm HX.out HY.out) HY.out _ true rfl (decide_eq_true (in_lcm_right x y)) _).mono ?_
  rintro e w3 ⟨rfl, hb⟩
  obtain ⟨W3, e3, m, hb2, -⟩ := box_new w3 (divM (lcmM x y) y) (T := 24)
  have hb := Below.step hb hb2
  clear c1 c2 c3 c4 c5
  have N1 := (N1.out _ hb).keep
  have c1 := (N1.out _ (Below.refl _ _)).c4
  have N2 := (N2.out _ hb).keep
  have c2 := (N2.out _ (Below.refl _ _)).c4
  have N3 := (N3.out _ hb).keep
  have c3 := (N3.out _ (Below.refl _ _)).c4
  have N4 := (N4.out _ hb).keep
  have c4 := (N4.out _ (Below.refl _ _)).c4
  have N5 := (N5.out _ hb).keep
  have c5 := (N5.out _ (Below.refl _ _)).c4
  have N6 := m.keep
  have c6 := m.c4
  have HB3 := Lib.hid (Below.step HB2.out hb)
  clear hb hb2 m
  unfold mv
  go_wp2_with fail
  refine (Div_to HZ.out HX.out _ true rfl B3.out _).mono ?_
  rintro e w4 ⟨rfl, hb⟩
  obtain ⟨W4, e4, m, hb2, -⟩ := box_new w4 (divM z x) (T := 24)
  have hb := Below.step hb hb2
  clear c1 c2 c3 c4 c5 c6
  have N1 := (N1.out _ hb).keep
  have c1 := (N1.out _ (Below.refl _ _)).c4
  have N2 := (N2.out _ hb).keep
  have c2 := (N2.out _ (Below.refl _ _)).c4
  have N3 := (N3.out _ hb).keep
  have c3 := (N3.out _ (Below.refl _ _)).c4
  have N4 := (N4.out _ hb).keep
  have c4 := (N4.out _ (Below.refl _ _)).c4
  have N5 := (N5.out _ hb).keep
  have c5 := (N5.out _ (Below.refl _ _)).c4
  have N6 := (N6.out _ hb).keep
  have c6 := (N6.out _ (Below.refl _ _)).c4
  have N7 := m.keep
  have c7 := m.c4
  have HB4 := Lib.hid (Below.step HB3.out hb)
  clear hb hb2 m
  unfold mv
  go_wp2_with fail
  refine (Div_to HZ.out HY.out _ true rfl B4.out _).mono ?_
  rintro e w5 ⟨rfl, hb⟩
  obtain ⟨W5, e5, m, hb2, -⟩ := box_new w5 (divM z y) (T := 24)
  have hb := Below.step hb hb2
  clear c1 c2 c3 c4 c5 c6 c7
  have N1 := (N1.out _ hb).keep
  have c1 := (N1.out _ (Below.refl _ _)).c4
  have N2 := (N2.out _ hb).keep
  have c2 := (N2.out _ (Below.refl _ _)).c4
  have N3 := (N3.out _ hb).keep
  have c3 := (N3.out _ (Below.refl _ _)).c4
  have N4 := (N4.out _ hb).keep
  have c4 := (N4.out _ (Below.refl _ _)).c4
  have N5 := (N5.out _ hb).keep
  have c5 := (N5.out _ (Below.refl _ _)).c4
  have N6 := (N6.out _ hb).keep
  have c6 := (N6.out _ (Below.refl _ _)).c4
  have N7 := (N7.out _ hb).keep
  have c7 := (N7.out _ (Below.refl _ _)).c4
  have N8 := m.keep
  have c8 := m.c4
  have HB5 := Lib.hid (Below.step HB4.out hb)
  clear hb hb2 m
  unfold mv
  go_wp2_with fail
  refine (Div_to HZ.out (OkM.lcm HX.out HY.out) _ true rfl B5.out _).mono ?_
  rintro e w6 ⟨rfl, hb⟩
  obtain ⟨W6, e6, m, hb2, -⟩ := box_new w6 (divM z (lcmM x y)) (T := 24)
  have hb := Below.step hb hb2
  clear c1 c2 c3 c4 c5 c6 c7 c8
  have N1 := (N1.out _ hb).keep
  have c1 := (N1.out _ (Below.refl _ _)).c4
  have N2 := (N2.out _ hb).keep
  have c2 := (N2.out _ (Below.refl _ _)).c4
  have N3 := (N3.out _ hb).keep
  have c3 := (N3.out _ (Below.refl _ _)).c4
  have N4 := (N4.out _ hb).keep
  have c4 := (N4.out _ (Below.refl _ _)).c4
  have N5 := (N5.out _ hb).keep
  have c5 := (N5.out _ (Below.refl _ _)).c4
  have N6 := (N6.out _ hb).keep
  have c6 := (N6.out _ (Below.refl _ _)).c4
  have N7 := (N7.out _ hb).keep
  have c7 := (N7.out _ (Below.refl _ _)).c4
  have N8 := (N8.out _ hb).keep
  have c8 := (N8.out _ (Below.refl _ _)).c4
  have N9 := m.keep
  have c9 := m.c4
  have HB6 := Lib.hid (Below.step HB5.out hb)
  clear hb hb2 m
  unfold mv
  go_upto_region 7 with fail
  rename_i K9 hK9
  refine wp_region_knownC [(6, true), (51, true), (52, true), (57, true), (58, true), (59, true), (60, true), (61, true), (62, true), (63, true), (64, true), (65, true), (66, true), (67, true), (68, true), (69, true), (70, true), (71, true), (72, true), (73, true), (78, true), (79, true), (80, true), (85, true), (86, true)] []
    [(7, IsV (.pointer (some ⟨w1.heap.size, 0, none⟩))), (4, IsV (.pointer (some ⟨(w.heap.size + 1), 0, none⟩))), (3, IsV (.pointer (some ⟨w.heap.size, 0, none⟩))), (9, IsV (.bool true)), (11, IsV (.bool true)), (17, IsV (.bool true)), (13, IsV (.bool true)), (15, IsV (.bool true))]
    [(53, IsV (mv (lcmM x y))), (54, IsV (mv (y))), (55, IsV (mv (x))), (56, IsV (mv (lcmM (y) (x)))), (74, IsV (mv (x))), (75, IsV (mv (x))), (76, IsV (mv (lcmM (x) (x)))), (77, IsV (mv (x))), (81, IsV (mv (lcmM x y))), (82, IsV (mv (x))), (83, IsV (mv (lcmM (lcmM x y) (x)))), (84, IsV (mv (lcmM x y)))]
    87 (by kernel_rfl) rfl (by kernel_rfl) (by kernel_rfl) ⟨rfl, rfl, rfl, rfl, rfl, rfl, rfl, rfl, trivial⟩ ⟨IsV.grows _, IsV.grows _, IsV.grows _, IsV.grows _, IsV.grows _, IsV.grows _, IsV.grows _, IsV.grows _, IsV.grows _, IsV.grows _, IsV.grows _, IsV.grows _, IsV.grows _, IsV.grows _, IsV.grows _, IsV.grows _, IsV.grows _, IsV.grows _, IsV.grows _, IsV.grows _, trivial⟩ (fun t ht => by cases ht) ?_ ?_
  · refine AllStepC.step rfl (step_call0 (Plain.of Try.func21 rfl rfl) (fun w => alive_any w) (fun _ => rfl)) ?_
    refine AllStepC.step rfl (step_move (fun _ _ h => h)) ?_
    refine AllStepC.step rfl (step_loadM (o := 0) (fun _ _ h => h) (fun W hb => (N4.out W hb).c4) (fun _ => rfl)) ?_
    refine AllStepC.step rfl (step_loadM (o := 0) (fun _ _ h => h) (fun W hb => (N2.out W hb).c4) (fun _ => rfl)) ?_
    refine AllStepC.step rfl (step_loadM (o := 0) (fun _ _ h => h) (fun W hb => (N1.out W hb).c4) (fun _ => rfl)) ?_
    refine AllStepC.step rfl (step_call2 (Plain.of Try.func15 rfl rfl) (fun _ _ h => h) (fun _ _ h => h) (fun w => Lcm_any HY.out HX.out w) (fun _ => rfl)) ?_
    refine AllStepC.step rfl (step_eqM (fun _ _ h => h) (fun _ _ h => h) (eqM_iff.2 (lcm_comm x y)) (fun _ => rfl)) ?_
    refine AllStepC.step rfl (step_pickT (fun _ _ h => h) (fun _ _ h => h)) ?_
    refine AllStepC.step rfl (step_move (fun _ _ h => h)) ?_
    refine AllStepC.step rfl (step_moveB (fun _ _ h => h) (fun _ => rfl)) ?_
    refine AllStepC.step rfl (step_pickT (fun _ _ h => h) (fun _ _ h => h)) ?_
    refine AllStepC.step rfl (step_move (fun _ _ h => h)) ?_
    refine AllStepC.step rfl (step_moveB (fun _ _ h => h) (fun _ => rfl)) ?_
    refine AllStepC.step rfl (step_pickT (fun _ _ h => h) (fun _ _ h => h)) ?_
    refine AllStepC.step rfl (step_move (fun _ _ h => h)) ?_
    refine AllStepC.step rfl (step_moveB (fun _ _ h => h) (fun _ => rfl)) ?_
    refine AllStepC.step rfl (step_moveB (fun _ _ h => h) (fun _ => rfl)) ?_
    refine AllStepC.step rfl (step_move (fun _ _ h => h)) ?_
    refine AllStepC.step rfl (step_moveB (fun _ _ h => h) (fun _ => rfl)) ?_
    refine AllStepC.step rfl (step_pickT (fun _ _ h => h) (fun _ _ h => h)) ?_
    refine AllStepC.step rfl (step_eqB (fun _ _ h => h) (fun _ _ h => h) (by rfl) (fun _ => rfl)) ?_
    refine AllStepC.step rfl (step_pickT (fun _ _ h => h) (fun _ _ h => h)) ?_
    refine AllStepC.step rfl (step_move (fun _ _ h => h)) ?_
    refine AllStepC.step rfl (step_loadM (o := 0) (fun _ _ h => h) (fun W hb => (N1.out W hb).c4) (fun _ => rfl)) ?_
    refine AllStepC.step rfl (step_loadM (o := 0) (fun _ _ h => h) (fun W hb => (N1.out W hb).c4) (fun _ => rfl)) ?_
    refine AllStepC.step rfl (step_call2 (Plain.of Try.func15 rfl rfl) (fun _ _ h => h) (fun _ _ h => h) (fun w => Lcm_any HX.out HX.out w) (fun _ => rfl)) ?_
    refine AllStepC.step rfl (step_loadM (o := 0) (fun _ _ h => h) (fun W hb => (N1.out W hb).c4) (fun _ => rfl)) ?_
    refine AllStepC.step rfl (step_eqM (fun _ _ h => h) (fun _ _ h => h) (eqM_iff.2 (lcm_self x)) (fun _ => rfl)) ?_
    refine AllStepC.step rfl (step_pickT (fun _ _ h => h) (fun _ _ h => h)) ?_
    refine AllStepC.step rfl (step_move (fun _ _ h => h)) ?_
    refine AllStepC.step rfl (step_loadM (o := 0) (fun _ _ h => h) (fun W hb => (N4.out W hb).c4) (fun _ => rfl)) ?_
    refine AllStepC.step rfl (step_loadM (o := 0) (fun _ _ h => h) (fun W hb => (N1.out W hb).c4) (fun _ => rfl)) ?_
    refine AllStepC.step rfl (step_call2 (Plain.of Try.func15 rfl rfl) (fun _ _ h => h) (fun _ _ h => h) (fun w => Lcm_any (OkM.lcm HX.out HY.out) HX.out w) (fun _ => rfl)) ?_
    refine AllStepC.step rfl (step_loadM (o := 0) (fun _ _ h => h) (fun W hb => (N4.out W hb).c4) (fun _ => rfl)) ?_
    refine AllStepC.step rfl (step_eqM (fun _ _ h => h) (fun _ _ h => h) (eqM_iff.2 (lcm_of_in (in_lcm_left x y))) (fun _ => rfl)) ?_
    refine AllStepC.step rfl (step_pickT (fun _ _ h => h) (fun _ _ h => h)) ?_
    refine AllStepC.step rfl (step_assign (fun _ _ h => h)) ?_
    exact AllStepC.nil
  intro a9 w9 hb9 hs9 hd9 hk9
  refine hK9 _ _ ?_
  refine wp_ret ?_
  exact ret_slot (t := 6) rfl hd9 (hk9 6) ⟨rfl, Below.step HB6.out hb9⟩

set_option maxRecDepth 100000 in
set_option maxHeartbeats 2000000 in
theorem Least_one {x y z : M4} (hx : OkM x) (hy : OkM y) (hz : OkM z) (h : inM x z) (h' : ¬ inM y z) (w : World) : Calls Try.prog 6 #[mv x, mv y, mv z] w fun e w' => e = .returned (.bool true) ∧ Below w.heap.size w w' := by
  have HX := Lib.hid hx
  have HY := Lib.hid hy
  have HZ := Lib.hid hz
  have B3 : Hid (decide (inM x z) = true) := decide_eq_true h
  have B4 : Hid (decide (inM y z) = false) := decide_eq_false h'
  have B5 : Hid (decide (inM (lcmM x y) z) = false) := decide_eq_false (fun e => h' (lcm_in.1 e).2)
  clear hx hy hz h h'
  obtain ⟨W0, e0, n1, n2, n3, hb0⟩ := box_xyz w x y z
  have HB0 := Lib.hid hb0
  have N1 := n1.keep
  have N2 := n2.keep
  have N3 := n3.keep
  have c1 := n1.c4
  have c2 := n2.c4
  have c3 := n3.c4
  clear n1 n2 n3 hb0
  unfold mv
  go_enter Try.func6, Try.ntmps6
  go_wp2_with fail
  clear e0
  refine (Lcm_any HX.out HY.out _).mono ?_
  rintro e w1 ⟨rfl, hb⟩
  obtain ⟨W1, e1, m, hb2, -⟩ := box_new w1 (lcmM x y) (T := 24)
  have hb := Below.step hb hb2
  clear c1 c2 c3
  have N1 := (N1.out _ hb).keep
  have c1 := (N1.out _ (Below.refl _ _)).c4
  have N2 := (N2.out _ hb).keep
  have c2 := (N2.out _ (Below.refl _ _)).c4
  have N3 := (N3.out _ hb).keep
  have c3 := (N3.out _ (Below.refl _ _)).c4
  have N4 := m.keep
  have c4 := m.c4
  have HB1 := Lib.hid (Below.step HB0.out hb)
  clear hb hb2 m
  unfold mv
  go_wp2_with fail
  refine (Div_to (OkM.lcm HX.out HY.out) HX.out _ true rfl (decide_eq_true (in_lcm_left x y)) _).mono ?_
  rintro e w2 ⟨rfl, hb⟩
  obtain ⟨W2, e2, m, hb2, -⟩ := box_new w2 (divM (lcmM x y) x) (T := 24)
  have hb := Below.step hb hb2
  clear c1 c2 c3 c4
  have N1 := (N1.out _ hb).keep
  have c1 := (N1.out _ (Below.refl _ _)).c4
  have N2 := (N2.out _ hb).keep
  have c2 := (N2.out _ (Below.refl _ _)).c4
  have N3 := (N3.out _ hb).keep
  have c3 := (N3.out _ (Below.refl _ _)).c4
  have N4 := (N4.out _ hb).keep
  have c4 := (N4.out _ (Below.refl _ _)).c4
  have N5 := m.keep
  have c5 := m.c4
  have HB2 := Lib.hid (Below.step HB1.out hb)
  clear hb hb2 m
  unfold mv
  go_wp2_with fail
  refine (Div_to (OkM.lcm HX.out HY.out) HY.out _ true rfl (decide_eq_true (in_lcm_right x y)) _).mono ?_
  rintro e w3 ⟨rfl, hb⟩
  obtain ⟨W3, e3, m, hb2, -⟩ := box_new w3 (divM (lcmM x y) y) (T := 24)
  have hb := Below.step hb hb2
  clear c1 c2 c3 c4 c5
  have N1 := (N1.out _ hb).keep
  have c1 := (N1.out _ (Below.refl _ _)).c4
  have N2 := (N2.out _ hb).keep
  have c2 := (N2.out _ (Below.refl _ _)).c4
  have N3 := (N3.out _ hb).keep
  have c3 := (N3.out _ (Below.refl _ _)).c4
  have N4 := (N4.out _ hb).keep
  have c4 := (N4.out _ (Below.refl _ _)).c4
  have N5 := (N5.out _ hb).keep
  have c5 := (N5.out _ (Below.refl _ _)).c4
  have N6 := m.keep
  have c6 := m.c4
  have HB3 := Lib.hid (Below.step HB2.out hb)
  clear hb hb2 m
  unfold mv
  go_wp2_with fail
  refine (Div_to HZ.out HX.out _ true rfl B3.out _).mono ?_
  rintro e w4 ⟨rfl, hb⟩
  obtain ⟨W4, e4, m, hb2, -⟩ := box_new w4 (divM z x) (T := 24)
  have hb := Below.step hb hb2
  clear c1 c2 c3 c4 c5 c6
  have N1 := (N1.out _ hb).keep
  have c1 := (N1.out _ (Below.refl _ _)).c4
  have N2 := (N2.out _ hb).keep
  have c2 := (N2.out _ (Below.refl _ _)).c4
  have N3 := (N3.out _ hb).keep
  have c3 := (N3.out _ (Below.refl _ _)).c4
  have N4 := (N4.out _ hb).keep
  have c4 := (N4.out _ (Below.refl _ _)).c4
  have N5 := (N5.out _ hb).keep
  have c5 := (N5.out _ (Below.refl _ _)).c4
  have N6 := (N6.out _ hb).keep
  have c6 := (N6.out _ (Below.refl _ _)).c4
  have N7 := m.keep
  have c7 := m.c4
  have HB4 := Lib.hid (Below.step HB3.out hb)
  clear hb hb2 m
  unfold mv
  go_wp2_with fail
  refine (Div_to HZ.out HY.out _ false rfl B4.out _).mono ?_
  rintro e w5 ⟨rfl, hb⟩
  obtain ⟨W5, e5, m, hb2, -⟩ := box_new w5 (divM z y) (T := 24)
  have hb := Below.step hb hb2
  clear c1 c2 c3 c4 c5 c6 c7
  have N1 := (N1.out _ hb).keep
  have c1 := (N1.out _ (Below.refl _ _)).c4
  have N2 := (N2.out _ hb).keep
  have c2 := (N2.out _ (Below.refl _ _)).c4
  have N3 := (N3.out _ hb).keep
  have c3 := (N3.out _ (Below.refl _ _)).c4
  have N4 := (N4.out _ hb).keep
  have c4 := (N4.out _ (Below.refl _ _)).c4
  have N5 := (N5.out _ hb).keep
  have c5 := (N5.out _ (Below.refl _ _)).c4
  have N6 := (N6.out _ hb).keep
  have c6 := (N6.out _ (Below.refl _ _)).c4
  have N7 := (N7.out _ hb).keep
  have c7 := (N7.out _ (Below.refl _ _)).c4
  have N8 := m.keep
  have c8 := m.c4
  have HB5 := Lib.hid (Below.step HB4.out hb)
  clear hb hb2 m
  unfold mv
  go_wp2_with fail
  refine (Div_to HZ.out (OkM.lcm HX.out HY.out) _ false rfl B5.out _).mono ?_
  rintro e w6 ⟨rfl, hb⟩
  obtain ⟨W6, e6, m, hb2, -⟩ := box_new w6 (divM z (lcmM x y)) (T := 24)
  have hb := Below.step hb hb2
  clear c1 c2 c3 c4 c5 c6 c7 c8
  have N1 := (N1.out _ hb).keep
  have c1 := (N1.out _ (Below.refl _ _)).c4
  have N2 := (N2.out _ hb).keep
  have c2 := (N2.out _ (Below.refl _ _)).c4
  have N3 := (N3.out _ hb).keep
  have c3 := (N3.out _ (Below.refl _ _)).c4
  have N4 := (N4.out _ hb).keep
  have c4 := (N4.out _ (Below.refl _ _)).c4
  have N5 := (N5.out _ hb).keep
  have c5 := (N5.out _ (Below.refl _ _)).c4
  have N6 := (N6.out _ hb).keep
  have c6 := (N6.out _ (Below.refl _ _)).c4
  have N7 := (N7.out _ hb).keep
  have c7 := (N7.out _ (Below.refl _ _)).c4
  have N8 := (N8.out _ hb).keep
  have c8 := (N8.out _ (Below.refl _ _)).c4
  have N9 := m.keep
  have c9 := m.c4
  have HB6 := Lib.hid (Below.step HB5.out hb)
  clear hb hb2 m
  unfold mv
  go_upto_region 7 with fail
  rename_i K9 hK9
  refine wp_region_knownC [(6, true), (51, true), (52, true), (57, true), (58, true), (59, true), (60, true), (61, true), (62, true), (63, true), (64, true), (65, true), (66, false), (67, true), (68, true), (69, false), (70, false), (71, true), (72, true), (73, true), (78, true), (79, true), (80, true), (85, true), (86, true)] []
    [(7, IsV (.pointer (some ⟨w1.heap.size, 0, none⟩))), (4, IsV (.pointer (some ⟨(w.heap.size + 1), 0, none⟩))), (3, IsV (.pointer (some ⟨w.heap.size, 0, none⟩))), (9, IsV (.bool true)), (11, IsV (.bool true)), (17, IsV (.bool false)), (13, IsV (.bool true)), (15, IsV (.bool false))]
    [(53, IsV (mv (lcmM x y))), (54, IsV (mv (y))), (55, IsV (mv (x))), (56, IsV (mv (lcmM (y) (x)))), (74, IsV (mv (x))), (75, IsV (mv (x))), (76, IsV (mv (lcmM (x) (x)))), (77, IsV (mv (x))), (81, IsV (mv (lcmM x y))), (82, IsV (mv (x))), (83, IsV (mv (lcmM (lcmM x y) (x)))), (84, IsV (mv (lcmM x y)))]
    87 (by kernel_rfl) rfl (by kernel_rfl) (by kernel_rfl) ⟨rfl, rfl, rfl, rfl, rfl, rfl, rfl, rfl, trivial⟩ ⟨IsV.grows _, IsV.grows _, IsV.grows _, IsV.grows _, IsV.grows _, IsV.grows _, IsV.grows _, IsV.grows _, IsV.grows _, IsV.grows _, IsV.grows _, IsV.grows _, IsV.grows _, IsV.grows _, IsV.grows _, IsV.grows _, IsV.grows _, IsV.grows _, IsV.grows _, IsV.grows _, trivial⟩ (fun t ht => by cases ht) ?_ ?_
  · refine AllStepC.step rfl (step_call0 (Plain.of Try.func21 rfl rfl) (fun w => alive_any w) (fun _ => rfl)) ?_
    refine AllStepC.step rfl (step_move (fun _ _ h => h)) ?_
    refine AllStepC.step rfl (step_loadM (o := 0) (fun _ _ h => h) (fun W hb => (N4.out W hb).c4) (fun _ => rfl)) ?_
    refine AllStepC.step rfl (step_loadM (o := 0) (fun _ _ h => h) (fun W hb => (N2.out W hb).c4) (fun _ => rfl)) ?_
    refine AllStepC.step rfl (step_loadM (o := 0) (fun _ _ h => h) (fun W hb => (N1.out W hb).c4) (fun _ => rfl)) ?_
    refine AllStepC.step rfl (step_call2 (Plain.of Try.func15 rfl rfl) (fun _ _ h => h) (fun _ _ h => h) (fun w => Lcm_any HY.out HX.out w) (fun _ => rfl)) ?_
    refine AllStepC.step rfl (step_eqM (fun _ _ h => h) (fun _ _ h => h) (eqM_iff.2 (lcm_comm x y)) (fun _ => rfl)) ?_
    refine AllStepC.step rfl (step_pickT (fun _ _ h => h) (fun _ _ h => h)) ?_
    refine AllStepC.step rfl (step_move (fun _ _ h => h)) ?_
    refine AllStepC.step rfl (step_moveB (fun _ _ h => h) (fun _ => rfl)) ?_
    refine AllStepC.step rfl (step_pickT (fun _ _ h => h) (fun _ _ h => h)) ?_
    refine AllStepC.step rfl (step_move (fun _ _ h => h)) ?_
    refine AllStepC.step rfl (step_moveB (fun _ _ h => h) (fun _ => rfl)) ?_
    refine AllStepC.step rfl (step_pickT (fun _ _ h => h) (fun _ _ h => h)) ?_
    refine AllStepC.step rfl (step_move (fun _ _ h => h)) ?_
    refine AllStepC.step rfl (step_moveB (fun _ _ h => h) (fun _ => rfl)) ?_
    refine AllStepC.step rfl (step_moveB (fun _ _ h => h) (fun _ => rfl)) ?_
    refine AllStepC.step rfl (step_move (fun _ _ h => h)) ?_
    refine AllStepC.step rfl (step_moveB (fun _ _ h => h) (fun _ => rfl)) ?_
    refine AllStepC.step rfl (step_pickT (fun _ _ h => h) (fun _ _ h => h)) ?_
    refine AllStepC.step rfl (step_eqB (fun _ _ h => h) (fun _ _ h => h) (by rfl) (fun _ => rfl)) ?_
    refine AllStepC.step rfl (step_pickT (fun _ _ h => h) (fun _ _ h => h)) ?_
    refine AllStepC.step rfl (step_move (fun _ _ h => h)) ?_
    refine AllStepC.step rfl (step_loadM (o := 0) (fun _ _ h => h) (fun W hb => (N1.out W hb).c4) (fun _ => rfl)) ?_
    refine AllStepC.step rfl (step_loadM (o := 0) (fun _ _ h => h) (fun W hb => (N1.out W hb).c4) (fun _ => rfl)) ?_
    refine AllStepC.step rfl (step_call2 (Plain.of Try.func15 rfl rfl) (fun _ _ h => h) (fun _ _ h => h) (fun w => Lcm_any HX.out HX.out w) (fun _ => rfl)) ?_
    refine AllStepC.step rfl (step_loadM (o := 0) (fun _ _ h => h) (fun W hb => (N1.out W hb).c4) (fun _ => rfl)) ?_
    refine AllStepC.step rfl (step_eqM (fun _ _ h => h) (fun _ _ h => h) (eqM_iff.2 (lcm_self x)) (fun _ => rfl)) ?_
    refine AllStepC.step rfl (step_pickT (fun _ _ h => h) (fun _ _ h => h)) ?_
    refine AllStepC.step rfl (step_move (fun _ _ h => h)) ?_
    refine AllStepC.step rfl (step_loadM (o := 0) (fun _ _ h => h) (fun W hb => (N4.out W hb).c4) (fun _ => rfl)) ?_
    refine AllStepC.step rfl (step_loadM (o := 0) (fun _ _ h => h) (fun W hb => (N1.out W hb).c4) (fun _ => rfl)) ?_
    refine AllStepC.step rfl (step_call2 (Plain.of Try.func15 rfl rfl) (fun _ _ h => h) (fun _ _ h => h) (fun w => Lcm_any (OkM.lcm HX.out HY.out) HX.out w) (fun _ => rfl)) ?_
    refine AllStepC.step rfl (step_loadM (o := 0) (fun _ _ h => h) (fun W hb => (N4.out W hb).c4) (fun _ => rfl)) ?_
    refine AllStepC.step rfl (step_eqM (fun _ _ h => h) (fun _ _ h => h) (eqM_iff.2 (lcm_of_in (in_lcm_left x y))) (fun _ => rfl)) ?_
    refine AllStepC.step rfl (step_pickT (fun _ _ h => h) (fun _ _ h => h)) ?_
    refine AllStepC.step rfl (step_assign (fun _ _ h => h)) ?_
    exact AllStepC.nil
  intro a9 w9 hb9 hs9 hd9 hk9
  refine hK9 _ _ ?_
  refine wp_ret ?_
  exact ret_slot (t := 6) rfl hd9 (hk9 6) ⟨rfl, Below.step HB6.out hb9⟩

set_option maxRecDepth 100000 in
set_option maxHeartbeats 2000000 in
theorem Least_none {x y z : M4} (hx : OkM x) (hy : OkM y) (hz : OkM z) (h : ¬ inM x z) (w : World) : Calls Try.prog 6 #[mv x, mv y, mv z] w fun e w' => e = .returned (.bool true) ∧ Below w.heap.size w w' := by
  have HX := Lib.hid hx
  have HY := Lib.hid hy
  have HZ := Lib.hid hz
  have B3 : Hid (decide (inM x z) = false) := decide_eq_false h
  have B5 : Hid (decide (inM (lcmM x y) z) = false) := decide_eq_false (fun e => h (lcm_in.1 e).1)
  clear hx hy hz h
  obtain ⟨W0, e0, n1, n2, n3, hb0⟩ := box_xyz w x y z
  have HB0 := Lib.hid hb0
  have N1 := n1.keep
  have N2 := n2.keep
  have N3 := n3.keep
  have c1 := n1.c4
  have c2 := n2.c4
  have c3 := n3.c4
  clear n1 n2 n3 hb0
  unfold mv
  go_enter Try.func6, Try.ntmps6
  go_wp2_with fail
  clear e0
  refine (Lcm_any HX.out HY.out _).mono ?_
  rintro e w1 ⟨rfl, hb⟩
  obtain ⟨W1, e1, m, hb2, -⟩ := box_new w1 (lcmM x y) (T := 24)
  have hb := Below.step hb hb2
  clear c1 c2 c3
  have N1 := (N1.out _ hb).keep
  have c1 := (N1.out _ (Below.refl _ _)).c4
  have N2 := (N2.out _ hb).keep
  have c2 := (N2.out _ (Below.refl _ _)).c4
  have N3 := (N3.out _ hb).keep
  have c3 := (N3.out _ (Below.refl _ _)).c4
  have N4 := m.keep
  have c4 := m.c4
  have HB1 := Lib.hid (Below.step HB0.out hb)
  clear hb hb2 m
  unfold mv
  go_wp2_with fail
  refine (Div_to (OkM.lcm HX.out HY.out) HX.out _ true rfl (decide_eq_true (in_lcm_left x y)) _).mono ?_
  rintro e w2 ⟨rfl, hb⟩
  obtain ⟨W2, e2, m, hb2, -⟩ := box_new w2 (divM (lcmM x y) x) (T := 24)
  have hb := Below.step hb hb2
  clear c1 c2 c3 c4
  have N1 := (N1.out _ hb).keep
  have c1 := (N1.out _ (Below.refl _ _)).c4
  have N2 := (N2.out _ hb).keep
  have c2 := (N2.out _ (Below.refl _ _)).c4
  have N3 := (N3.out _ hb).keep
  have c3 := (N3.out _ (Below.refl _ _)).c4
  have N4 := (N4.out _ hb).keep
  have c4 := (N4.out _ (Below.refl _ _)).c4
  have N5 := m.keep
  have c5 := m.c4
  have HB2 := Lib.hid (Below.step HB1.out hb)
  clear hb hb2 m
  unfold mv
  go_wp2_with fail
  refine (Div_to (OkM.lcm HX.out HY.out) HY.out _ true rfl (decide_eq_true (in_lcm_right x y)) _).mono ?_
  rintro e w3 ⟨rfl, hb⟩
  obtain ⟨W3, e3, m, hb2, -⟩ := box_new w3 (divM (lcmM x y) y) (T := 24)
  have hb := Below.step hb hb2
  clear c1 c2 c3 c4 c5
  have N1 := (N1.out _ hb).keep
  have c1 := (N1.out _ (Below.refl _ _)).c4
  have N2 := (N2.out _ hb).keep
  have c2 := (N2.out _ (Below.refl _ _)).c4
  have N3 := (N3.out _ hb).keep
  have c3 := (N3.out _ (Below.refl _ _)).c4
  have N4 := (N4.out _ hb).keep
  have c4 := (N4.out _ (Below.refl _ _)).c4
  have N5 := (N5.out _ hb).keep
  have c5 := (N5.out _ (Below.refl _ _)).c4
  have N6 := m.keep
  have c6 := m.c4
  have HB3 := Lib.hid (Below.step HB2.out hb)
  clear hb hb2 m
  unfold mv
  go_wp2_with fail
  refine (Div_to HZ.out HX.out _ false rfl B3.out _).mono ?_
  rintro e w4 ⟨rfl, hb⟩
  obtain ⟨W4, e4, m, hb2, -⟩ := box_new w4 (divM z x) (T := 24)
  have hb := Below.step hb hb2
  clear c1 c2 c3 c4 c5 c6
  have N1 := (N1.out _ hb).keep
  have c1 := (N1.out _ (Below.refl _ _)).c4
  have N2 := (N2.out _ hb).keep
  have c2 := (N2.out _ (Below.refl _ _)).c4
  have N3 := (N3.out _ hb).keep
  have c3 := (N3.out _ (Below.refl _ _)).c4
  have N4 := (N4.out _ hb).keep
  have c4 := (N4.out _ (Below.refl _ _)).c4
  have N5 := (N5.out _ hb).keep
  have c5 := (N5.out _ (Below.refl _ _)).c4
  have N6 := (N6.out _ hb).keep
  have c6 := (N6.out _ (Below.refl _ _)).c4
  have N7 := m.keep
  have c7 := m.c4
  have HB4 := Lib.hid (Below.step HB3.out hb)
  clear hb hb2 m
  unfold mv
  go_wp2_with fail
  refine (Div_to HZ.out HY.out _ (decide (inM y z)) rfl rfl _).mono ?_
  rintro e w5 ⟨rfl, hb⟩
  obtain ⟨W5, e5, m, hb2, -⟩ := box_new w5 (divM z y) (T := 24)
  have hb := Below.step hb hb2
  clear c1 c2 c3 c4 c5 c6 c7
  have N1 := (N1.out _ hb).keep
  have c1 := (N1.out _ (Below.refl _ _)).c4
  have N2 := (N2.out _ hb).keep
  have c2 := (N2.out _ (Below.refl _ _)).c4
  have N3 := (N3.out _ hb).keep
  have c3 := (N3.out _ (Below.refl _ _)).c4
  have N4 := (N4.out _ hb).keep
  have c4 := (N4.out _ (Below.refl _ _)).c4
  have N5 := (N5.out _ hb).keep
  have c5 := (N5.out _ (Below.refl _ _)).c4
  have N6 := (N6.out _ hb).keep
  have c6 := (N6.out _ (Below.refl _ _)).c4
  have N7 := (N7.out _ hb).keep
  have c7 := (N7.out _ (Below.refl _ _)).c4
  have N8 := m.keep
  have c8 := m.c4
  have HB5 := Lib.hid (Below.step HB4.out hb)
  clear hb hb2 m
  unfold mv
  go_wp2_with fail
  refine (Div_to HZ.out (OkM.lcm HX.out HY.out) _ false rfl B5.out _).mono ?_
  rintro e w6 ⟨rfl, hb⟩
  obtain ⟨W6, e6, m, hb2, -⟩ := box_new w6 (divM z (lcmM x y)) (T := 24)
  have hb := Below.step hb hb2
  clear c1 c2 c3 c4 c5 c6 c7 c8
  have N1 := (N1.out _ hb).keep
  have c1 := (N1.out _ (Below.refl _ _)).c4
  have N2 := (N2.out _ hb).keep
  have c2 := (N2.out _ (Below.refl _ _)).c4
  have N3 := (N3.out _ hb).keep
  have c3 := (N3.out _ (Below.refl _ _)).c4
  have N4 := (N4.out _ hb).keep
  have c4 := (N4.out _ (Below.refl _ _)).c4
  have N5 := (N5.out _ hb).keep
  have c5 := (N5.out _ (Below.refl _ _)).c4
  have N6 := (N6.out _ hb).keep
  have c6 := (N6.out _ (Below.refl _ _)).c4
  have N7 := (N7.out _ hb).keep
  have c7 := (N7.out _ (Below.refl _ _)).c4
  have N8 := (N8.out _ hb).keep
  have c8 := (N8.out _ (Below.refl _ _)).c4
  have N9 := m.keep
  have c9 := m.c4
  have HB6 := Lib.hid (Below.step HB5.out hb)
  clear hb hb2 m
  unfold mv
  go_upto_region 7 with fail
  rename_i K9 hK9
  refine wp_region_knownC [(6, true), (51, true), (52, true), (57, true), (58, true), (59, true), (60, true), (61, true), (62, true), (63, true), (64, true), (65, true), (66, false), (67, false), (68, false), (70, false), (71, true), (72, true), (73, true), (78, true), (79, true), (80, true), (85, true), (86, true)] []
    [(7, IsV (.pointer (some ⟨w1.heap.size, 0, none⟩))), (4, IsV (.pointer (some ⟨(w.heap.size + 1), 0, none⟩))), (3, IsV (.pointer (some ⟨w.heap.size, 0, none⟩))), (9, IsV (.bool true)), (11, IsV (.bool true)), (17, IsV (.bool false)), (13, IsV (.bool false))]
    [(53, IsV (mv (lcmM x y))), (54, IsV (mv (y))), (55, IsV (mv (x))), (56, IsV (mv (lcmM (y) (x)))), (74, IsV (mv (x))), (75, IsV (mv (x))), (76, IsV (mv (lcmM (x) (x)))), (77, IsV (mv (x))), (81, IsV (mv (lcmM x y))), (82, IsV (mv (x))), (83, IsV (mv (lcmM (lcmM x y) (x)))), (84, IsV (mv (lcmM x y)))]
    87 (by kernel_rfl) rfl (by kernel_rfl) (by kernel_rfl) ⟨rfl, rfl, rfl, rfl, rfl, rfl, rfl, trivial⟩ ⟨IsV.grows _, IsV.grows _, IsV.grows _, IsV.grows _, IsV.grows _, IsV.grows _, IsV.grows _, IsV.grows _, IsV.grows _, IsV.grows _, IsV.grows _, IsV.grows _, IsV.grows _, IsV.grows _, IsV.grows _, IsV.grows _, IsV.grows _, IsV.grows _, IsV.grows _, trivial⟩ (fun t ht => by cases ht) ?_ ?_
  · refine AllStepC.step rfl (step_call0 (Plain.of Try.func21 rfl rfl) (fun w => alive_any w) (fun _ => rfl)) ?_
    refine AllStepC.step rfl (step_move (fun _ _ h => h)) ?_
    refine AllStepC.step rfl (step_loadM (o := 0) (fun _ _ h => h) (fun W hb => (N4.out W hb).c4) (fun _ => rfl)) ?_
    refine AllStepC.step rfl (step_loadM (o := 0) (fun _ _ h => h) (fun W hb => (N2.out W hb).c4) (fun _ => rfl)) ?_
    refine AllStepC.step rfl (step_loadM (o := 0) (fun _ _ h => h) (fun W hb => (N1.out W hb).c4) (fun _ => rfl)) ?_
    refine AllStepC.step rfl (step_call2 (Plain.of Try.func15 rfl rfl) (fun _ _ h => h) (fun _ _ h => h) (fun w => Lcm_any HY.out HX.out w) (fun _ => rfl)) ?_
    refine AllStepC.step rfl (step_eqM (fun _ _ h => h) (fun _ _ h => h) (eqM_iff.2 (lcm_comm x y)) (fun _ => rfl)) ?_
    refine AllStepC.step rfl (step_pickT (fun _ _ h => h) (fun _ _ h => h)) ?_
    refine AllStepC.step rfl (step_move (fun _ _ h => h)) ?_
    refine AllStepC.step rfl (step_moveB (fun _ _ h => h) (fun _ => rfl)) ?_
    refine AllStepC.step rfl (step_pickT (fun _ _ h => h) (fun _ _ h => h)) ?_
    refine AllStepC.step rfl (step_move (fun _ _ h => h)) ?_
    refine AllStepC.step rfl (step_moveB (fun _ _ h => h) (fun _ => rfl)) ?_
    refine AllStepC.step rfl (step_pickT (fun _ _ h => h) (fun _ _ h => h)) ?_
    refine AllStepC.step rfl (step_move (fun _ _ h => h)) ?_
    refine AllStepC.step rfl (step_moveB (fun _ _ h => h) (fun _ => rfl)) ?_
    refine AllStepC.step rfl (step_moveB (fun _ _ h => h) (fun _ => rfl)) ?_
    refine AllStepC.step rfl (step_move (fun _ _ h => h)) ?_
    refine AllStepC.skip rfl rfl ?_
    refine AllStepC.step rfl (step_pickN (fun _ _ h => h) (fun _ => rfl)) ?_
    refine AllStepC.step rfl (step_eqB (fun _ _ h => h) (fun _ _ h => h) (by rfl) (fun _ => rfl)) ?_
    refine AllStepC.step rfl (step_pickT (fun _ _ h => h) (fun _ _ h => h)) ?_
    refine AllStepC.step rfl (step_move (fun _ _ h => h)) ?_
    refine AllStepC.step rfl (step_loadM (o := 0) (fun _ _ h => h) (fun W hb => (N1.out W hb).c4) (fun _ => rfl)) ?_
    refine AllStepC.step rfl (step_loadM (o := 0) (fun _ _ h => h) (fun W hb => (N1.out W hb).c4) (fun _ => rfl)) ?_
    refine AllStepC.step rfl (step_call2 (Plain.of Try.func15 rfl rfl) (fun _ _ h => h) (fun _ _ h => h) (fun w => Lcm_any HX.out HX.out w) (fun _ => rfl)) ?_
    refine AllStepC.step rfl (step_loadM (o := 0) (fun _ _ h => h) (fun W hb => (N1.out W hb).c4) (fun _ => rfl)) ?_
    refine AllStepC.step rfl (step_eqM (fun _ _ h => h) (fun _ _ h => h) (eqM_iff.2 (lcm_self x)) (fun _ => rfl)) ?_
    refine AllStepC.step rfl (step_pickT (fun _ _ h => h) (fun _ _ h => h)) ?_
    refine AllStepC.step rfl (step_move (fun _ _ h => h)) ?_
    refine AllStepC.step rfl (step_loadM (o := 0) (fun _ _ h => h) (fun W hb => (N4.out W hb).c4) (fun _ => rfl)) ?_
    refine AllStepC.step rfl (step_loadM (o := 0) (fun _ _ h => h) (fun W hb => (N1.out W hb).c4) (fun _ => rfl)) ?_
    refine AllStepC.step rfl (step_call2 (Plain.of Try.func15 rfl rfl) (fun _ _ h => h) (fun _ _ h => h) (fun w => Lcm_any (OkM.lcm HX.out HY.out) HX.out w) (fun _ => rfl)) ?_
    refine AllStepC.step rfl (step_loadM (o := 0) (fun _ _ h => h) (fun W hb => (N4.out W hb).c4) (fun _ => rfl)) ?_
    refine AllStepC.step rfl (step_eqM (fun _ _ h => h) (fun _ _ h => h) (eqM_iff.2 (lcm_of_in (in_lcm_left x y))) (fun _ => rfl)) ?_
    refine AllStepC.step rfl (step_pickT (fun _ _ h => h) (fun _ _ h => h)) ?_
    refine AllStepC.step rfl (step_assign (fun _ _ h => h)) ?_
    exact AllStepC.nil
  intro a9 w9 hb9 hs9 hd9 hk9
  refine hK9 _ _ ?_
  refine wp_ret ?_
  exact ret_slot (t := 6) rfl hd9 (hk9 6) ⟨rfl, Below.step HB6.out hb9⟩

theorem MonosLeast_true (w : World) (x : M4) (hx : OkM x) (y : M4) (hy : OkM y) (z : M4) (hz : OkM z) : Calls Try.prog 6 #[mv x, mv y, mv z] w fun e w' => e = .returned (.bool true) ∧ Below w.heap.size w w' := by
  by_cases h : inM x z
  · by_cases h' : inM y z
    · exact Least_both hx hy hz h h' w
    · exact Least_one hx hy hz h h' w
  · exact Least_none hx hy hz h w

end Go.Proofs.Ytikbjjechhdclaa
