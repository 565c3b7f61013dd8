/- Walk: the law MonosPairs. -/
import Derived.Test.YtikbjjechhdclaaMRefCmp
import Derived.Test.YtikbjjechhdclaaMAlive
namespace Go.Proofs.Ytikbjjechhdclaa
open Go.RowKit

theorem rLcm_any {x y : M4} (_ : OkM x) (_ : OkM y) (w : World) : Calls Try.prog 16 #[mv x, mv y] w fun e w' => e = .returned (mv (lcmM x y)) ∧ Below w.heap.size w w' := rLcm_raw x.a x.b x.c x.d y.a y.b y.c y.d w

set_option maxRecDepth 100000 in
set_option maxHeartbeats 2000000 in
theorem MonosPairs_true (w : World) (x : M4) (hx : OkM x) (y : M4) (hy : OkM y) : Calls Try.prog 3 #[mv x, mv y] w fun e w' => e = .returned (.bool true) ∧ Below w.heap.size w w' := by
  have HX := Lib.hid hx
  have HY := Lib.hid hy
  clear hx hy
  obtain ⟨W0, e0, n1, n2, hb0, hs0⟩ := box_2 w x y
  have HB0 := Lib.hid hb0
  have N1 := n1.keep
  have N2 := n2.keep
  have c1 := n1.c4
  have c2 := n2.c4
  clear n1 n2 hb0 hs0
  unfold mv
  go_enter Try.func3, Try.ntmps3
  go_wp2_with fail
  clear e0
  refine (Mul_any HX.out HY.out _).mono ?_
  rintro e w1 ⟨rfl, hb⟩
  obtain ⟨W1, e1, m, hb2, -⟩ := box_new w1 (mulM x y) (T := 24)
  have hb := Below.step hb hb2
  clear c1 c2
  have N1 := (N1.out _ hb).keep
  have c1 := (N1.out _ (Below.refl _ _)).c4
  have N2 := (N2.out _ hb).keep
  have c2 := (N2.out _ (Below.refl _ _)).c4
  have N3 := m.keep
  have c3 := m.c4
  have HB1 := Lib.hid (Below.step HB0.out hb)
  clear hb hb2 m
  unfold mv
  go_wp2_with fail
  refine (Div_any HX.out HY.out _).mono ?_
  rintro e w2 ⟨rfl, hb⟩
  obtain ⟨W2, e2, m, hb2, -⟩ := box_new w2 (divM x y) (T := 24)
  have hb := Below.step hb hb2
  clear c1 c2 c3
  have N1 := (N1.out _ hb).keep
  have c1 := (N1.out _ (Below.refl _ _)).c4
  have N2 := (N2.out _ hb).keep
  have c2 := (N2.out _ (Below.refl _ _)).c4
  have N3 := (N3.out _ hb).keep
  have c3 := (N3.out _ (Below.refl _ _)).c4
  have N4 := m.keep
  have c4 := m.c4
  have HB2 := Lib.hid (Below.step HB1.out hb)
  clear hb hb2 m
  unfold mv
  go_wp2_with fail
  refine (rMul_any HX.out HY.out _).mono ?_
  rintro e w3 ⟨rfl, hb⟩
  obtain ⟨W3, e3, m, hb2, -⟩ := box_new w3 (mulM x y) (T := 24)
  have hb := Below.step hb hb2
  clear c1 c2 c3 c4
  have N1 := (N1.out _ hb).keep
  have c1 := (N1.out _ (Below.refl _ _)).c4
  have N2 := (N2.out _ hb).keep
  have c2 := (N2.out _ (Below.refl _ _)).c4
  have N3 := (N3.out _ hb).keep
  have c3 := (N3.out _ (Below.refl _ _)).c4
  have N4 := (N4.out _ hb).keep
  have c4 := (N4.out _ (Below.refl _ _)).c4
  have N5 := m.keep
  have c5 := m.c4
  have HB3 := Lib.hid (Below.step HB2.out hb)
  clear hb hb2 m
  unfold mv
  go_wp2_with fail
  refine (rDiv_any HX.out HY.out _).mono ?_
  rintro e w4 ⟨rfl, hb⟩
  obtain ⟨W4, e4, m, hb2, -⟩ := box_new w4 (divM x y) (T := 24)
  have hb := Below.step hb hb2
  clear c1 c2 c3 c4 c5
  have N1 := (N1.out _ hb).keep
  have c1 := (N1.out _ (Below.refl _ _)).c4
  have N2 := (N2.out _ hb).keep
  have c2 := (N2.out _ (Below.refl _ _)).c4
  have N3 := (N3.out _ hb).keep
  have c3 := (N3.out _ (Below.refl _ _)).c4
  have N4 := (N4.out _ hb).keep
  have c4 := (N4.out _ (Below.refl _ _)).c4
  have N5 := (N5.out _ hb).keep
  have c5 := (N5.out _ (Below.refl _ _)).c4
  have N6 := m.keep
  have c6 := m.c4
  have HB4 := Lib.hid (Below.step HB3.out hb)
  clear hb hb2 m
  unfold mv
  go_upto_region 5 with fail
  rename_i K9 hK9
  refine wp_region_knownC [(4, true), (39, true), (40, true), (43, true), (44, true), (45, true), (48, true), (49, true), (50, true), (53, true), (54, true), (55, true), (62, true), (63, true), (64, true), (69, true), (70, true)] []
    [(5, IsV (.pointer (some ⟨w1.heap.size, 0, none⟩))), (9, IsV (.pointer (some ⟨w3.heap.size, 0, none⟩))), (6, IsV (.int .i64 (errM x y))), (10, IsV (.int .i64 (errM x y))), (7, IsV (.pointer (some ⟨w2.heap.size, 0, none⟩))), (11, IsV (.pointer (some ⟨w4.heap.size, 0, none⟩))), (8, IsV (.bool (decide (inM y x)))), (12, IsV (.bool (decide (inM y x)))), (2, IsV (.pointer (some ⟨w.heap.size, 0, none⟩))), (3, IsV (.pointer (some ⟨(w.heap.size + 1), 0, none⟩)))]
    [(37, IsV (mv (mulM x y))), (38, IsV (mv (mulM x y))), (41, IsV (.int .i64 (errM x y))), (42, IsV (.int .i64 (errM x y))), (46, IsV (mv (divM x y))), (47, IsV (mv (divM x y))), (51, IsV (.bool (decide (inM y x)))), (52, IsV (.bool (decide (inM y x)))), (56, IsV (mv (x))), (57, IsV (mv (y))), (58, IsV (mv (lcmM (x) (y)))), (59, IsV (mv (x))), (60, IsV (mv (y))), (61, IsV (mv (lcmM (x) (y)))), (65, IsV (mv (x))), (66, IsV (.int .i64 ((degM (x) : Int)))), (67, IsV (mv (x))), (68, IsV (.int .i64 ((degM (x) : Int))))]
    71 (by kernel_rfl) rfl (by kernel_rfl) (by kernel_rfl) ⟨rfl, rfl, rfl, rfl, rfl, rfl, rfl, rfl, rfl, rfl, trivial⟩ ⟨IsV.grows _, IsV.grows _, IsV.grows _, IsV.grows _, IsV.grows _, IsV.grows _, IsV.grows _, IsV.grows _, IsV.grows _, IsV.grows _, IsV.grows _, IsV.grows _, IsV.grows _, IsV.grows _, IsV.grows _, IsV.grows _, IsV.grows _, IsV.grows _, IsV.grows _, IsV.grows _, IsV.grows _, IsV.grows _, IsV.grows _, IsV.grows _, IsV.grows _, IsV.grows _, IsV.grows _, IsV.grows _, trivial⟩ (fun t ht => by cases ht) ?_ ?_
  · refine AllStepC.step rfl (step_loadM (o := 0) (fun _ _ h => h) (fun W hb => (N3.out W hb).c4) (fun _ => rfl)) ?_
    refine AllStepC.step rfl (step_loadM (o := 0) (fun _ _ h => h) (fun W hb => (N5.out W hb).c4) (fun _ => rfl)) ?_
    refine AllStepC.step rfl (step_eqM (fun _ _ h => h) (fun _ _ h => h) (eqM_iff.2 rfl) (fun _ => rfl)) ?_
    refine AllStepC.step rfl (step_move (fun _ _ h => h)) ?_
    refine AllStepC.step rfl (step_move (fun _ _ h => h)) ?_
    refine AllStepC.step rfl (step_move (fun _ _ h => h)) ?_
    refine AllStepC.step rfl (step_eqE (fun _ _ h => h) (fun _ _ h => h) (by simp) (fun _ => rfl)) ?_
    refine AllStepC.step rfl (step_pickT (fun _ _ h => h) (fun _ _ h => h)) ?_
    refine AllStepC.step rfl (step_move (fun _ _ h => h)) ?_
    refine AllStepC.step rfl (step_loadM (o := 0) (fun _ _ h => h) (fun W hb => (N4.out W hb).c4) (fun _ => rfl)) ?_
    refine AllStepC.step rfl (step_loadM (o := 0) (fun _ _ h => h) (fun W hb => (N6.out W hb).c4) (fun _ => rfl)) ?_
    refine AllStepC.step rfl (step_eqM (fun _ _ h => h) (fun _ _ h => h) (eqM_iff.2 rfl) (fun _ => rfl)) ?_
    refine AllStepC.step rfl (step_pickT (fun _ _ h => h) (fun _ _ h => h)) ?_
    refine AllStepC.step rfl (step_move (fun _ _ h => h)) ?_
    refine AllStepC.step rfl (step_move (fun _ _ h => h)) ?_
    refine AllStepC.step rfl (step_move (fun _ _ h => h)) ?_
    refine AllStepC.step rfl (step_eqB (fun _ _ h => h) (fun _ _ h => h) (by simp) (fun _ => rfl)) ?_
    refine AllStepC.step rfl (step_pickT (fun _ _ h => h) (fun _ _ h => h)) ?_
    refine AllStepC.step rfl (step_move (fun _ _ h => h)) ?_
    refine AllStepC.step rfl (step_loadM (o := 0) (fun _ _ h => h) (fun W hb => (N1.out W hb).c4) (fun _ => rfl)) ?_
    refine AllStepC.step rfl (step_loadM (o := 0) (fun _ _ h => h) (fun W hb => (N2.out W hb).c4) (fun _ => rfl)) ?_
    refine AllStepC.step rfl (step_call2 (Plain.of Try.func15 rfl rfl) (fun _ _ h => h) (fun _ _ h => h) (fun w => Lcm_any HX.out HY.out w) (fun _ => rfl)) ?_
    refine AllStepC.step rfl (step_loadM (o := 0) (fun _ _ h => h) (fun W hb => (N1.out W hb).c4) (fun _ => rfl)) ?_
    refine AllStepC.step rfl (step_loadM (o := 0) (fun _ _ h => h) (fun W hb => (N2.out W hb).c4) (fun _ => rfl)) ?_
    refine AllStepC.step rfl (step_call2 (Plain.of Try.func16 rfl rfl) (fun _ _ h => h) (fun _ _ h => h) (fun w => rLcm_any HX.out HY.out w) (fun _ => rfl)) ?_
    refine AllStepC.step rfl (step_eqM (fun _ _ h => h) (fun _ _ h => h) (eqM_iff.2 rfl) (fun _ => rfl)) ?_
    refine AllStepC.step rfl (step_pickT (fun _ _ h => h) (fun _ _ h => h)) ?_
    refine AllStepC.step rfl (step_move (fun _ _ h => h)) ?_
    refine AllStepC.step rfl (step_loadM (o := 0) (fun _ _ h => h) (fun W hb => (N1.out W hb).c4) (fun _ => rfl)) ?_
    refine AllStepC.step rfl (step_call1 (Plain.of Try.func17 rfl rfl) (fun _ _ h => h) (fun w => Degree_any HX.out w) (fun _ => rfl)) ?_
    refine AllStepC.step rfl (step_loadM (o := 0) (fun _ _ h => h) (fun W hb => (N1.out W hb).c4) (fun _ => rfl)) ?_
    refine AllStepC.step rfl (step_call1 (Plain.of Try.func18 rfl rfl) (fun _ _ h => h) (fun w => rDegree_any HX.out w) (fun _ => rfl)) ?_
    refine AllStepC.step rfl (step_eqI (fun _ _ h => h) (fun _ _ h => h) (by simp) (fun _ => rfl)) ?_
    refine AllStepC.step rfl (step_pickT (fun _ _ h => h) (fun _ _ h => h)) ?_
    refine AllStepC.step rfl (step_assign (fun _ _ h => h)) ?_
    exact AllStepC.nil
  intro a9 w9 hb9 hs9 hd9 hk9
  refine hK9 _ _ ?_
  refine wp_ret ?_
  exact ret_slot (t := 4) rfl hd9 (hk9 4) ⟨rfl, Below.step HB4.out hb9⟩

end Go.Proofs.Ytikbjjechhdclaa
