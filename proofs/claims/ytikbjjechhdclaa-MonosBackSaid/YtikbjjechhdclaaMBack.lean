/- Walk: the law MonosBack. -/
import Derived.Test.YtikbjjechhdclaaMLaws
namespace Go.Proofs.Ytikbjjechhdclaa
open Go.RowKit

set_option maxRecDepth 100000 in
set_option maxHeartbeats 2000000 in
theorem Back_fits_in {x y : M4} (hx : OkM x) (hy : OkM y) (h : fits x y) (h' : inM y x) (w : World) : Calls Try.prog 5 #[mv x, mv y] w fun e w' => e = .returned (.bool true) ∧ Below w.heap.size w w' := by
  have HF : Hid (fits x y) := h
  have HI : Hid (inM y x) := h'
  clear h h'
  have HX := Lib.hid hx
  have HY := Lib.hid hy
  clear hx hy
  obtain ⟨W0, e0, n1, n2, hb0, hs0⟩ := box_2 w x y
  have HB0 := Lib.hid hb0
  have N1 := n1.keep
  have N2 := n2.keep
  have c1 := n1.c4
  have c2 := n2.c4
  clear n1 n2 hb0 hs0
  unfold mv
  go_enter Try.func5, Try.ntmps5
  go_wp2_with fail
  clear e0
  refine (Mul_to HX.out HY.out _ 0 rfl (err_ok HF.out) _).mono ?_
  rintro e w1 ⟨rfl, hb⟩
  obtain ⟨W1, e1, m, hb2, -⟩ := box_new w1 (mulM x y) (T := 24)
  have hb := Below.step hb hb2
  clear c1 c2
  have N1 := (N1.out _ hb).keep
  have c1 := (N1.out _ (Below.refl _ _)).c4
  have N2 := (N2.out _ hb).keep
  have c2 := (N2.out _ (Below.refl _ _)).c4
  have N3 := m.keep
  have c3 := m.c4
  have HB1 := Lib.hid (Below.step HB0.out hb)
  clear hb hb2 m
  unfold mv
  go_wp2_with fail
  refine (Div_to (OkM.mul x y) HY.out x true (div_mul HF.out) (decide_eq_true (in_mul HF.out)) _).mono ?_
  rintro e w2 ⟨rfl, hb⟩
  obtain ⟨W2, e2, m, hb2, -⟩ := box_new w2 (x) (T := 24)
  have hb := Below.step hb hb2
  clear c1 c2 c3
  have N1 := (N1.out _ hb).keep
  have c1 := (N1.out _ (Below.refl _ _)).c4
  have N2 := (N2.out _ hb).keep
  have c2 := (N2.out _ (Below.refl _ _)).c4
  have N3 := (N3.out _ hb).keep
  have c3 := (N3.out _ (Below.refl _ _)).c4
  have N4 := m.keep
  have c4 := m.c4
  have HB2 := Lib.hid (Below.step HB1.out hb)
  clear hb hb2 m
  unfold mv
  go_upto_region 4 with fail
  rename_i hK0 K1 hK1
  refine wp_region_knownC [(27, true), (28, false), (29, false), (32, false), (33, false), (34, false), (42, false), (43, false)] []
    [(2, IsV (.pointer (some ⟨w.heap.size, 0, none⟩))), (3, IsV (.pointer (some ⟨(w.heap.size + 1), 0, none⟩))), (8, IsV (.bool true)), (7, IsV (.pointer (some ⟨w2.heap.size, 0, none⟩))), (5, IsV (.pointer (some ⟨w1.heap.size, 0, none⟩)))]
    [(30, IsV (mv (x))), (31, IsV (mv (x))), (35, IsV (mv (mulM x y))), (36, IsV (.int .i64 ((degM (mulM x y) : Int)))), (37, IsV (mv (x))), (38, IsV (.int .i64 ((degM (x) : Int)))), (39, IsV (mv (y))), (40, IsV (.int .i64 ((degM (y) : Int)))), (41, IsV (.int .i64 (((degM (x) : Int)) + ((degM (y) : Int)))))]
    95 (by kernel_rfl) rfl (by kernel_rfl) (by kernel_rfl) ⟨rfl, rfl, rfl, rfl, rfl, trivial⟩ ⟨IsV.grows _, IsV.grows _, IsV.grows _, IsV.grows _, IsV.grows _, IsV.grows _, IsV.grows _, IsV.grows _, IsV.grows _, IsV.grows _, IsV.grows _, IsV.grows _, IsV.grows _, IsV.grows _, trivial⟩ (fun t ht => by cases ht) ?_ ?_
  · refine AllStepC.step rfl (step_moveB (fun _ _ h => h) (fun _ => rfl)) ?_
    refine AllStepC.step rfl (step_not true (fun _ _ h => h) (fun _ => rfl)) ?_
    refine AllStepC.step rfl (step_move (fun _ _ h => h)) ?_
    refine AllStepC.step rfl (step_loadM (o := 0) (fun _ _ h => h) (fun W hb => (N4.out W hb).c4) (fun _ => rfl)) ?_
    refine AllStepC.step rfl (step_loadM (o := 0) (fun _ _ h => h) (fun W hb => (N1.out W hb).c4) (fun _ => rfl)) ?_
    refine AllStepC.step rfl (step_neM (fun _ _ h => h) (fun _ _ h => h) (by rw [eqM_iff.2 rfl]; rfl) (fun _ => rfl)) ?_
    refine AllStepC.step rfl (step_pickF (fun _ _ h => h) (fun _ _ h => h)) ?_
    refine AllStepC.step rfl (step_move (fun _ _ h => h)) ?_
    refine AllStepC.step rfl (step_loadM (o := 0) (fun _ _ h => h) (fun W hb => (N3.out W hb).c4) (fun _ => rfl)) ?_
    refine AllStepC.step rfl (step_call1 (Plain.of Try.func17 rfl rfl) (fun _ _ h => h) (fun w => Degree_any (OkM.mul x y) w) (fun _ => rfl)) ?_
    refine AllStepC.step rfl (step_loadM (o := 0) (fun _ _ h => h) (fun W hb => (N1.out W hb).c4) (fun _ => rfl)) ?_
    refine AllStepC.step rfl (step_call1 (Plain.of Try.func17 rfl rfl) (fun _ _ h => h) (fun w => Degree_any HX.out w) (fun _ => rfl)) ?_
    refine AllStepC.step rfl (step_loadM (o := 0) (fun _ _ h => h) (fun W hb => (N2.out W hb).c4) (fun _ => rfl)) ?_
    refine AllStepC.step rfl (step_call1 (Plain.of Try.func17 rfl rfl) (fun _ _ h => h) (fun w => Degree_any HY.out w) (fun _ => rfl)) ?_
    refine AllStepC.step rfl (step_add (fun _ _ h => h) (fun _ _ h => h) (IntWalk.i64_in _ (by obtain ⟨h1, h2, h3, h4⟩ := HX.out; obtain ⟨g1, g2, g3, g4⟩ := HY.out; unfold degM; omega)) (fun _ => rfl)) ?_
    refine AllStepC.step rfl (step_neI (fun _ _ h => h) (fun _ _ h => h) (by rw [deg_mul HF.out]; simp) (fun _ => rfl)) ?_
    refine AllStepC.step rfl (step_pickF (fun _ _ h => h) (fun _ _ h => h)) ?_
    exact AllStepC.nil
  intro a1 wa hb1 hs1 hd1 hk1
  have HB3 := Lib.hid (Below.step HB2.out hb1)
  have N1 := (N1.out _ hb1).keep
  have N2 := (N2.out _ hb1).keep
  have c1 := (N1.out _ (Below.refl _ _)).c4
  have c2 := (N2.out _ (Below.refl _ _)).c4
  obtain ⟨u, hx⟩ : ∃ u : Nat → Value, ∀ t, a1.eval (.tmp t) = u t := ⟨_, fun _ => rfl⟩
  have ha : a1 = ⟨#[u 0, u 1, .pointer (some ⟨w.heap.size, 0, none⟩), .pointer (some ⟨(w.heap.size + 1), 0, none⟩), u 4, .pointer (some ⟨w1.heap.size, 0, none⟩), u 6, .pointer (some ⟨w2.heap.size, 0, none⟩), .bool true, u 9, u 10, u 11, u 12, u 13, u 14, u 15, u 16, u 17, u 18, u 19, u 20, u 21, u 22, u 23, u 24, u 25, u 26, .bool true, .bool false, .bool false, mv (x), mv (x), .bool false, .bool false, .bool false, mv (mulM x y), .int .i64 ((degM (mulM x y) : Int)), mv (x), .int .i64 ((degM (x) : Int)), mv (y), .int .i64 ((degM (y) : Int)), .int .i64 (((degM (x) : Int)) + ((degM (y) : Int))), .bool false, .bool false, u 44, u 45, u 46, u 47, u 48, u 49, u 50, u 51, u 52, u 53, u 54, u 55, u 56, u 57, u 58, u 59, u 60, u 61, u 62, u 63, u 64, u 65, u 66, u 67, u 68, u 69, u 70, u 71, u 72, u 73, u 74, u 75, u 76, u 77, u 78, u 79, u 80, u 81, u 82, u 83, u 84, u 85, u 86, u 87, u 88, u 89, u 90, u 91, u 92, u 93, u 94], []⟩ := act_eq hs1 hd1 ⟨hx 0, hx 1, hk1 2, hk1 3, hx 4, hk1 5, hx 6, hk1 7, hk1 8, hx 9, hx 10, hx 11, hx 12, hx 13, hx 14, hx 15, hx 16, hx 17, hx 18, hx 19, hx 20, hx 21, hx 22, hx 23, hx 24, hx 25, hx 26, hk1 27, hk1 28, hk1 29, hk1 30, hk1 31, hk1 32, hk1 33, hk1 34, hk1 35, hk1 36, hk1 37, hk1 38, hk1 39, hk1 40, hk1 41, hk1 42, hk1 43, hx 44, hx 45, hx 46, hx 47, hx 48, hx 49, hx 50, hx 51, hx 52, hx 53, hx 54, hx 55, hx 56, hx 57, hx 58, hx 59, hx 60, hx 61, hx 62, hx 63, hx 64, hx 65, hx 66, hx 67, hx 68, hx 69, hx 70, hx 71, hx 72, hx 73, hx 74, hx 75, hx 76, hx 77, hx 78, hx 79, hx 80, hx 81, hx 82, hx 83, hx 84, hx 85, hx 86, hx 87, hx 88, hx 89, hx 90, hx 91, hx 92, hx 93, hx 94, trivial⟩
  subst ha
  refine hK1 _ _ ?_
  refine wp_cond_false rfl ?_
  refine wp_skip ?_
  refine hK0 _ _ ?_
  clear hx hs1 hd1 hk1 hb1 hK1 hK0 N3 N4 c3 c4
  go_wp2_with fail
  refine (Div_to HX.out HY.out _ true rfl (decide_eq_true HI.out) _).mono ?_
  rintro e w4 ⟨rfl, hb⟩
  obtain ⟨W4, e4, m, hb2, -⟩ := box_new w4 (divM x y) (T := 24)
  have hb := Below.step hb hb2
  clear c1 c2
  have N1 := (N1.out _ hb).keep
  have c1 := (N1.out _ (Below.refl _ _)).c4
  have N2 := (N2.out _ hb).keep
  have c2 := (N2.out _ (Below.refl _ _)).c4
  have N3 := m.keep
  have c3 := m.c4
  have HB4 := Lib.hid (Below.step HB3.out hb)
  clear hb hb2 m
  unfold mv
  go_wp2_with fail
  refine (Mul_to (OkM.div HX.out y) HY.out x 0 (mul_div HX.out HI.out) (err_ok (fits_div HX.out HI.out)) _).mono ?_
  rintro e w5 ⟨rfl, hb⟩
  obtain ⟨W5, e5, m, hb2, -⟩ := box_new w5 (x) (T := 24)
  have hb := Below.step hb hb2
  clear c1 c2 c3
  have N1 := (N1.out _ hb).keep
  have c1 := (N1.out _ (Below.refl _ _)).c4
  have N2 := (N2.out _ hb).keep
  have c2 := (N2.out _ (Below.refl _ _)).c4
  have N3 := (N3.out _ hb).keep
  have c3 := (N3.out _ (Below.refl _ _)).c4
  have N4 := m.keep
  have c4 := m.c4
  have HB5 := Lib.hid (Below.step HB4.out hb)
  clear hb hb2 m
  unfold mv
  go_upto_region 12 with fail
  rename_i K9 hK9
  refine wp_region_knownC [(4, true), (78, true), (79, true), (81, true), (82, true), (83, true), (86, true), (87, true), (88, true), (93, true), (94, true)] []
    [(12, IsV (.int .i64 (0))), (11, IsV (.pointer (some ⟨w5.heap.size, 0, none⟩))), (2, IsV (.pointer (some ⟨w.heap.size, 0, none⟩))), (3, IsV (.pointer (some ⟨(w.heap.size + 1), 0, none⟩)))]
    [(80, IsV (.int .i64 (0))), (84, IsV (mv (x))), (85, IsV (mv (x))), (89, IsV (mv (x))), (90, IsV (mv (y))), (91, IsV (mv (lcmM (x) (y)))), (92, IsV (mv (x)))]
    95 (by kernel_rfl) rfl (by kernel_rfl) (by kernel_rfl) ⟨rfl, rfl, rfl, rfl, trivial⟩ ⟨IsV.grows _, IsV.grows _, IsV.grows _, IsV.grows _, IsV.grows _, IsV.grows _, IsV.grows _, IsV.grows _, IsV.grows _, IsV.grows _, IsV.grows _, trivial⟩ (fun t ht => by cases ht) ?_ ?_
  · refine AllStepC.step rfl (step_call0 (Plain.of Try.func21 rfl rfl) (fun w => alive_any w) (fun _ => rfl)) ?_
    refine AllStepC.step rfl (step_move (fun _ _ h => h)) ?_
    refine AllStepC.step rfl (step_move (fun _ _ h => h)) ?_
    refine AllStepC.step rfl (step_eqEk (fun _ _ h => h)  (by rfl) (fun _ => rfl)) ?_
    refine AllStepC.step rfl (step_pickT (fun _ _ h => h) (fun _ _ h => h)) ?_
    refine AllStepC.step rfl (step_move (fun _ _ h => h)) ?_
    refine AllStepC.step rfl (step_loadM (o := 0) (fun _ _ h => h) (fun W hb => (N4.out W hb).c4) (fun _ => rfl)) ?_
    refine AllStepC.step rfl (step_loadM (o := 0) (fun _ _ h => h) (fun W hb => (N1.out W hb).c4) (fun _ => rfl)) ?_
    refine AllStepC.step rfl (step_eqM (fun _ _ h => h) (fun _ _ h => h) (eqM_iff.2 rfl) (fun _ => rfl)) ?_
    refine AllStepC.step rfl (step_pickT (fun _ _ h => h) (fun _ _ h => h)) ?_
    refine AllStepC.step rfl (step_move (fun _ _ h => h)) ?_
    refine AllStepC.step rfl (step_loadM (o := 0) (fun _ _ h => h) (fun W hb => (N1.out W hb).c4) (fun _ => rfl)) ?_
    refine AllStepC.step rfl (step_loadM (o := 0) (fun _ _ h => h) (fun W hb => (N2.out W hb).c4) (fun _ => rfl)) ?_
    refine AllStepC.step rfl (step_call2 (Plain.of Try.func15 rfl rfl) (fun _ _ h => h) (fun _ _ h => h) (fun w => Lcm_any HX.out HY.out w) (fun _ => rfl)) ?_
    refine AllStepC.step rfl (step_loadM (o := 0) (fun _ _ h => h) (fun W hb => (N1.out W hb).c4) (fun _ => rfl)) ?_
    refine AllStepC.step rfl (step_eqM (fun _ _ h => h) (fun _ _ h => h) (eqM_iff.2 (lcm_of_in HI.out)) (fun _ => rfl)) ?_
    refine AllStepC.step rfl (step_pickT (fun _ _ h => h) (fun _ _ h => h)) ?_
    refine AllStepC.step rfl (step_assign (fun _ _ h => h)) ?_
    exact AllStepC.nil
  intro a9 w9 hb9 hs9 hd9 hk9
  refine hK9 _ _ ?_
  refine wp_ret ?_
  exact ret_slot (t := 4) rfl hd9 (hk9 4) ⟨rfl, Below.step HB5.out hb9⟩

set_option maxRecDepth 100000 in
set_option maxHeartbeats 2000000 in
theorem Back_fits_out {x y : M4} (hx : OkM x) (hy : OkM y) (h : fits x y) (h' : ¬ inM y x) (w : World) : Calls Try.prog 5 #[mv x, mv y] w fun e w' => e = .returned (.bool true) ∧ Below w.heap.size w w' := by
  have HF : Hid (fits x y) := h
  have HI : Hid (¬ inM y x) := h'
  clear h h'
  have HX := Lib.hid hx
  have HY := Lib.hid hy
  clear hx hy
  obtain ⟨W0, e0, n1, n2, hb0, hs0⟩ := box_2 w x y
  have HB0 := Lib.hid hb0
  have N1 := n1.keep
  have N2 := n2.keep
  have c1 := n1.c4
  have c2 := n2.c4
  clear n1 n2 hb0 hs0
  unfold mv
  go_enter Try.func5, Try.ntmps5
  go_wp2_with fail
  clear e0
  refine (Mul_to HX.out HY.out _ 0 rfl (err_ok HF.out) _).mono ?_
  rintro e w1 ⟨rfl, hb⟩
  obtain ⟨W1, e1, m, hb2, -⟩ := box_new w1 (mulM x y) (T := 24)
  have hb := Below.step hb hb2
  clear c1 c2
  have N1 := (N1.out _ hb).keep
  have c1 := (N1.out _ (Below.refl _ _)).c4
  have N2 := (N2.out _ hb).keep
  have c2 := (N2.out _ (Below.refl _ _)).c4
  have N3 := m.keep
  have c3 := m.c4
  have HB1 := Lib.hid (Below.step HB0.out hb)
  clear hb hb2 m
  unfold mv
  go_wp2_with fail
  refine (Div_to (OkM.mul x y) HY.out x true (div_mul HF.out) (decide_eq_true (in_mul HF.out)) _).mono ?_
  rintro e w2 ⟨rfl, hb⟩
  obtain ⟨W2, e2, m, hb2, -⟩ := box_new w2 (x) (T := 24)
  have hb := Below.step hb hb2
  clear c1 c2 c3
  have N1 := (N1.out _ hb).keep
  have c1 := (N1.out _ (Below.refl _ _)).c4
  have N2 := (N2.out _ hb).keep
  have c2 := (N2.out _ (Below.refl _ _)).c4
  have N3 := (N3.out _ hb).keep
  have c3 := (N3.out _ (Below.refl _ _)).c4
  have N4 := m.keep
  have c4 := m.c4
  have HB2 := Lib.hid (Below.step HB1.out hb)
  clear hb hb2 m
  unfold mv
  go_upto_region 4 with fail
  rename_i hK0 K1 hK1
  refine wp_region_knownC [(27, true), (28, false), (29, false), (32, false), (33, false), (34, false), (42, false), (43, false)] []
    [(2, IsV (.pointer (some ⟨w.heap.size, 0, none⟩))), (3, IsV (.pointer (some ⟨(w.heap.size + 1), 0, none⟩))), (8, IsV (.bool true)), (7, IsV (.pointer (some ⟨w2.heap.size, 0, none⟩))), (5, IsV (.pointer (some ⟨w1.heap.size, 0, none⟩)))]
    [(30, IsV (mv (x))), (31, IsV (mv (x))), (35, IsV (mv (mulM x y))), (36, IsV (.int .i64 ((degM (mulM x y) : Int)))), (37, IsV (mv (x))), (38, IsV (.int .i64 ((degM (x) : Int)))), (39, IsV (mv (y))), (40, IsV (.int .i64 ((degM (y) : Int)))), (41, IsV (.int .i64 (((degM (x) : Int)) + ((degM (y) : Int)))))]
    95 (by kernel_rfl) rfl (by kernel_rfl) (by kernel_rfl) ⟨rfl, rfl, rfl, rfl, rfl, trivial⟩ ⟨IsV.grows _, IsV.grows _, IsV.grows _, IsV.grows _, IsV.grows _, IsV.grows _, IsV.grows _, IsV.grows _, IsV.grows _, IsV.grows _, IsV.grows _, IsV.grows _, IsV.grows _, IsV.grows _, trivial⟩ (fun t ht => by cases ht) ?_ ?_
  · refine AllStepC.step rfl (step_moveB (fun _ _ h => h) (fun _ => rfl)) ?_
    refine AllStepC.step rfl (step_not true (fun _ _ h => h) (fun _ => rfl)) ?_
    refine AllStepC.step rfl (step_move (fun _ _ h => h)) ?_
    refine AllStepC.step rfl (step_loadM (o := 0) (fun _ _ h => h) (fun W hb => (N4.out W hb).c4) (fun _ => rfl)) ?_
    refine AllStepC.step rfl (step_loadM (o := 0) (fun _ _ h => h) (fun W hb => (N1.out W hb).c4) (fun _ => rfl)) ?_
    refine AllStepC.step rfl (step_neM (fun _ _ h => h) (fun _ _ h => h) (by rw [eqM_iff.2 rfl]; rfl) (fun _ => rfl)) ?_
    refine AllStepC.step rfl (step_pickF (fun _ _ h => h) (fun _ _ h => h)) ?_
    refine AllStepC.step rfl (step_move (fun _ _ h => h)) ?_
    refine AllStepC.step rfl (step_loadM (o := 0) (fun _ _ h => h) (fun W hb => (N3.out W hb).c4) (fun _ => rfl)) ?_
    refine AllStepC.step rfl (step_call1 (Plain.of Try.func17 rfl rfl) (fun _ _ h => h) (fun w => Degree_any (OkM.mul x y) w) (fun _ => rfl)) ?_
    refine AllStepC.step rfl (step_loadM (o := 0) (fun _ _ h => h) (fun W hb => (N1.out W hb).c4) (fun _ => rfl)) ?_
    refine AllStepC.step rfl (step_call1 (Plain.of Try.func17 rfl rfl) (fun _ _ h => h) (fun w => Degree_any HX.out w) (fun _ => rfl)) ?_
    refine AllStepC.step rfl (step_loadM (o := 0) (fun _ _ h => h) (fun W hb => (N2.out W hb).c4) (fun _ => rfl)) ?_
    refine AllStepC.step rfl (step_call1 (Plain.of Try.func17 rfl rfl) (fun _ _ h => h) (fun w => Degree_any HY.out w) (fun _ => rfl)) ?_
    refine AllStepC.step rfl (step_add (fun _ _ h => h) (fun _ _ h => h) (IntWalk.i64_in _ (by obtain ⟨h1, h2, h3, h4⟩ := HX.out; obtain ⟨g1, g2, g3, g4⟩ := HY.out; unfold degM; omega)) (fun _ => rfl)) ?_
    refine AllStepC.step rfl (step_neI (fun _ _ h => h) (fun _ _ h => h) (by rw [deg_mul HF.out]; simp) (fun _ => rfl)) ?_
    refine AllStepC.step rfl (step_pickF (fun _ _ h => h) (fun _ _ h => h)) ?_
    exact AllStepC.nil
  intro a1 wa hb1 hs1 hd1 hk1
  have HB3 := Lib.hid (Below.step HB2.out hb1)
  have N1 := (N1.out _ hb1).keep
  have N2 := (N2.out _ hb1).keep
  have c1 := (N1.out _ (Below.refl _ _)).c4
  have c2 := (N2.out _ (Below.refl _ _)).c4
  obtain ⟨u, hx⟩ : ∃ u : Nat → Value, ∀ t, a1.eval (.tmp t) = u t := ⟨_, fun _ => rfl⟩
  have ha : a1 = ⟨#[u 0, u 1, .pointer (some ⟨w.heap.size, 0, none⟩), .pointer (some ⟨(w.heap.size + 1), 0, none⟩), u 4, .pointer (some ⟨w1.heap.size, 0, none⟩), u 6, .pointer (some ⟨w2.heap.size, 0, none⟩), .bool true, u 9, u 10, u 11, u 12, u 13, u 14, u 15, u 16, u 17, u 18, u 19, u 20, u 21, u 22, u 23, u 24, u 25, u 26, .bool true, .bool false, .bool false, mv (x), mv (x), .bool false, .bool false, .bool false, mv (mulM x y), .int .i64 ((degM (mulM x y) : Int)), mv (x), .int .i64 ((degM (x) : Int)), mv (y), .int .i64 ((degM (y) : Int)), .int .i64 (((degM (x) : Int)) + ((degM (y) : Int))), .bool false, .bool false, u 44, u 45, u 46, u 47, u 48, u 49, u 50, u 51, u 52, u 53, u 54, u 55, u 56, u 57, u 58, u 59, u 60, u 61, u 62, u 63, u 64, u 65, u 66, u 67, u 68, u 69, u 70, u 71, u 72, u 73, u 74, u 75, u 76, u 77, u 78, u 79, u 80, u 81, u 82, u 83, u 84, u 85, u 86, u 87, u 88, u 89, u 90, u 91, u 92, u 93, u 94], []⟩ := act_eq hs1 hd1 ⟨hx 0, hx 1, hk1 2, hk1 3, hx 4, hk1 5, hx 6, hk1 7, hk1 8, hx 9, hx 10, hx 11, hx 12, hx 13, hx 14, hx 15, hx 16, hx 17, hx 18, hx 19, hx 20, hx 21, hx 22, hx 23, hx 24, hx 25, hx 26, hk1 27, hk1 28, hk1 29, hk1 30, hk1 31, hk1 32, hk1 33, hk1 34, hk1 35, hk1 36, hk1 37, hk1 38, hk1 39, hk1 40, hk1 41, hk1 42, hk1 43, hx 44, hx 45, hx 46, hx 47, hx 48, hx 49, hx 50, hx 51, hx 52, hx 53, hx 54, hx 55, hx 56, hx 57, hx 58, hx 59, hx 60, hx 61, hx 62, hx 63, hx 64, hx 65, hx 66, hx 67, hx 68, hx 69, hx 70, hx 71, hx 72, hx 73, hx 74, hx 75, hx 76, hx 77, hx 78, hx 79, hx 80, hx 81, hx 82, hx 83, hx 84, hx 85, hx 86, hx 87, hx 88, hx 89, hx 90, hx 91, hx 92, hx 93, hx 94, trivial⟩
  subst ha
  refine hK1 _ _ ?_
  refine wp_cond_false rfl ?_
  refine wp_skip ?_
  refine hK0 _ _ ?_
  clear hx hs1 hd1 hk1 hb1 hK1 hK0 N3 N4 c3 c4
  go_wp2_with fail
  refine (Div_to HX.out HY.out _ false rfl (decide_eq_false HI.out) _).mono ?_
  rintro e w4 ⟨rfl, hb⟩
  obtain ⟨W4, e4, m, hb2, -⟩ := box_new w4 (divM x y) (T := 24)
  have hb := Below.step hb hb2
  clear c1 c2
  have N1 := (N1.out _ hb).keep
  have c1 := (N1.out _ (Below.refl _ _)).c4
  have N2 := (N2.out _ hb).keep
  have c2 := (N2.out _ (Below.refl _ _)).c4
  have N3 := m.keep
  have c3 := m.c4
  have HB4 := Lib.hid (Below.step HB3.out hb)
  clear hb hb2 m
  unfold mv
  go_upto_region 10 with fail
  rename_i K9 hK9
  refine wp_region_knownC [(4, true), (59, true), (60, true), (63, true), (64, true), (65, true), (70, true), (71, true)] []
    [(9, IsV (.pointer (some ⟨w4.heap.size, 0, none⟩))), (2, IsV (.pointer (some ⟨w.heap.size, 0, none⟩))), (3, IsV (.pointer (some ⟨(w.heap.size + 1), 0, none⟩)))]
    [(61, IsV (mv (divM x y))), (62, IsV (mv (⟨0, 0, 0, 0⟩))), (66, IsV (mv (x))), (67, IsV (mv (y))), (68, IsV (mv (lcmM (x) (y)))), (69, IsV (mv (x)))]
    95 (by kernel_rfl) rfl (by kernel_rfl) (by kernel_rfl) ⟨rfl, rfl, rfl, trivial⟩ ⟨IsV.grows _, IsV.grows _, IsV.grows _, IsV.grows _, IsV.grows _, IsV.grows _, IsV.grows _, IsV.grows _, IsV.grows _, trivial⟩ (fun t ht => by cases ht) ?_ ?_
  · refine AllStepC.step rfl (step_call0 (Plain.of Try.func21 rfl rfl) (fun w => alive_any w) (fun _ => rfl)) ?_
    refine AllStepC.step rfl (step_move (fun _ _ h => h)) ?_
    refine AllStepC.step rfl (step_loadM (o := 0) (fun _ _ h => h) (fun W hb => (N3.out W hb).c4) (fun _ => rfl)) ?_
    refine AllStepC.step rfl (step_build (l' := #[]) (fun _ => by simp only [List.map_toArray, List.map_nil]) (fun w => by kernel_rfl) (fun _ => rfl)) ?_
    refine AllStepC.step rfl (step_eqM (fun _ _ h => h) (fun _ _ h => h) (eqM_iff.2 (div_no HI.out)) (fun _ => rfl)) ?_
    refine AllStepC.step rfl (step_pickT (fun _ _ h => h) (fun _ _ h => h)) ?_
    refine AllStepC.step rfl (step_move (fun _ _ h => h)) ?_
    refine AllStepC.step rfl (step_loadM (o := 0) (fun _ _ h => h) (fun W hb => (N1.out W hb).c4) (fun _ => rfl)) ?_
    refine AllStepC.step rfl (step_loadM (o := 0) (fun _ _ h => h) (fun W hb => (N2.out W hb).c4) (fun _ => rfl)) ?_
    refine AllStepC.step rfl (step_call2 (Plain.of Try.func15 rfl rfl) (fun _ _ h => h) (fun _ _ h => h) (fun w => Lcm_any HX.out HY.out w) (fun _ => rfl)) ?_
    refine AllStepC.step rfl (step_loadM (o := 0) (fun _ _ h => h) (fun W hb => (N1.out W hb).c4) (fun _ => rfl)) ?_
    refine AllStepC.step rfl (step_neM (fun _ _ h => h) (fun _ _ h => h) (by rw [Bool.not_eq_true']; exact Bool.eq_false_iff.2 (fun e => HI.out (in_of_lcm (eqM_iff.1 e)))) (fun _ => rfl)) ?_
    refine AllStepC.step rfl (step_pickT (fun _ _ h => h) (fun _ _ h => h)) ?_
    refine AllStepC.step rfl (step_assign (fun _ _ h => h)) ?_
    exact AllStepC.nil
  intro a9 w9 hb9 hs9 hd9 hk9
  refine hK9 _ _ ?_
  refine wp_ret ?_
  have hfin : bodyPost Try.prog Try.f5 (fun e w' => e = .returned (.bool true) ∧ Below w.heap.size w w') .ret a9 w9 := ret_slot (t := 4) rfl hd9 (hk9 4) ⟨rfl, Below.step HB4.out hb9⟩
  exact hfin

set_option maxRecDepth 100000 in
set_option maxHeartbeats 2000000 in
theorem Back_not_in {x y : M4} (hx : OkM x) (hy : OkM y) (h : ¬ fits x y) (h' : inM y x) (w : World) : Calls Try.prog 5 #[mv x, mv y] w fun e w' => e = .returned (.bool true) ∧ Below w.heap.size w w' := by
  have HF : Hid (¬ fits x y) := h
  have HI : Hid (inM y x) := h'
  clear h h'
  have HX := Lib.hid hx
  have HY := Lib.hid hy
  clear hx hy
  obtain ⟨W0, e0, n1, n2, hb0, hs0⟩ := box_2 w x y
  have HB0 := Lib.hid hb0
  have N1 := n1.keep
  have N2 := n2.keep
  have c1 := n1.c4
  have c2 := n2.c4
  clear n1 n2 hb0 hs0
  unfold mv
  go_enter Try.func5, Try.ntmps5
  go_wp2_with fail
  clear e0
  have hno : mulM x y = noM := mul_no HF.out
  have hq := run_eqM noM noM
  refine (Mul_to HX.out HY.out _ 3 rfl (err_no HF.out) _).mono ?_
  rintro e w1 ⟨rfl, hb⟩
  obtain ⟨W1, e1, m, hb2, -⟩ := box_new w1 (mulM x y) (T := 24)
  have hb := Below.step hb hb2
  clear c1 c2
  have N1 := (N1.out _ hb).keep
  have c1 := (N1.out _ (Below.refl _ _)).c4
  have N2 := (N2.out _ hb).keep
  have c2 := (N2.out _ (Below.refl _ _)).c4
  have N3 := m.keep
  have c3 := m.c4
  have HB1 := Lib.hid (Below.step HB0.out hb)
  clear hb hb2 m
  unfold mv
  rw [hno] at c3
  replace c3 : W1.cell? ⟨w1.heap.size, 0, none⟩ = some (.int .u16 0) ∧ W1.cell? ⟨w1.heap.size, 1, none⟩ = some (.int .u16 0) ∧ W1.cell? ⟨w1.heap.size, 2, none⟩ = some (.int .u16 0) ∧ W1.cell? ⟨w1.heap.size, 3, none⟩ = some (.int .u16 0) := c3
  replace hq : ∀ W : World, (Op.equalIn 10000 24 (.agg #[.int .u16 0, .int .u16 0, .int .u16 0, .int .u16 0]) (.agg #[.int .u16 0, .int .u16 0, .int .u16 0, .int .u16 0])).run Try.prog W = .ok true W := fun W => hq W
  clear hno
  go_wp2_with fail
  refine (Div_to HX.out HY.out _ true rfl (decide_eq_true HI.out) _).mono ?_
  rintro e w2 ⟨rfl, hb⟩
  obtain ⟨W2, e2, m, hb2, -⟩ := box_new w2 (divM x y) (T := 24)
  have hb := Below.step hb hb2
  clear c1 c2
  have N1 := (N1.out _ hb).keep
  have c1 := (N1.out _ (Below.refl _ _)).c4
  have N2 := (N2.out _ hb).keep
  have c2 := (N2.out _ (Below.refl _ _)).c4
  have N3 := m.keep
  have c3 := m.c4
  have HB2 := Lib.hid (Below.step HB1.out hb)
  clear hb hb2 m
  unfold mv
  go_wp2_with fail
  refine (Mul_to (OkM.div HX.out y) HY.out x 0 (mul_div HX.out HI.out) (err_ok (fits_div HX.out HI.out)) _).mono ?_
  rintro e w3 ⟨rfl, hb⟩
  obtain ⟨W3, e3, m, hb2, -⟩ := box_new w3 (x) (T := 24)
  have hb := Below.step hb hb2
  clear c1 c2 c3
  have N1 := (N1.out _ hb).keep
  have c1 := (N1.out _ (Below.refl _ _)).c4
  have N2 := (N2.out _ hb).keep
  have c2 := (N2.out _ (Below.refl _ _)).c4
  have N3 := (N3.out _ hb).keep
  have c3 := (N3.out _ (Below.refl _ _)).c4
  have N4 := m.keep
  have c4 := m.c4
  have HB3 := Lib.hid (Below.step HB2.out hb)
  clear hb hb2 m
  unfold mv
  go_upto_region 12 with fail
  rename_i K9 hK9
  refine wp_region_knownC [(4, true), (78, true), (79, true), (81, true), (82, true), (83, true), (86, true), (87, true), (88, true), (93, true), (94, true)] []
    [(12, IsV (.int .i64 (0))), (11, IsV (.pointer (some ⟨w3.heap.size, 0, none⟩))), (2, IsV (.pointer (some ⟨w.heap.size, 0, none⟩))), (3, IsV (.pointer (some ⟨(w.heap.size + 1), 0, none⟩)))]
    [(80, IsV (.int .i64 (0))), (84, IsV (mv (x))), (85, IsV (mv (x))), (89, IsV (mv (x))), (90, IsV (mv (y))), (91, IsV (mv (lcmM (x) (y)))), (92, IsV (mv (x)))]
    95 (by kernel_rfl) rfl (by kernel_rfl) (by kernel_rfl) ⟨rfl, rfl, rfl, rfl, trivial⟩ ⟨IsV.grows _, IsV.grows _, IsV.grows _, IsV.grows _, IsV.grows _, IsV.grows _, IsV.grows _, IsV.grows _, IsV.grows _, IsV.grows _, IsV.grows _, trivial⟩ (fun t ht => by cases ht) ?_ ?_
  · refine AllStepC.step rfl (step_call0 (Plain.of Try.func21 rfl rfl) (fun w => alive_any w) (fun _ => rfl)) ?_
    refine AllStepC.step rfl (step_move (fun _ _ h => h)) ?_
    refine AllStepC.step rfl (step_move (fun _ _ h => h)) ?_
    refine AllStepC.step rfl (step_eqEk (fun _ _ h => h)  (by rfl) (fun _ => rfl)) ?_
    refine AllStepC.step rfl (step_pickT (fun _ _ h => h) (fun _ _ h => h)) ?_
    refine AllStepC.step rfl (step_move (fun _ _ h => h)) ?_
    refine AllStepC.step rfl (step_loadM (o := 0) (fun _ _ h => h) (fun W hb => (N4.out W hb).c4) (fun _ => rfl)) ?_
    refine AllStepC.step rfl (step_loadM (o := 0) (fun _ _ h => h) (fun W hb => (N1.out W hb).c4) (fun _ => rfl)) ?_
    refine AllStepC.step rfl (step_eqM (fun _ _ h => h) (fun _ _ h => h) (eqM_iff.2 rfl) (fun _ => rfl)) ?_
    refine AllStepC.step rfl (step_pickT (fun _ _ h => h) (fun _ _ h => h)) ?_
    refine AllStepC.step rfl (step_move (fun _ _ h => h)) ?_
    refine AllStepC.step rfl (step_loadM (o := 0) (fun _ _ h => h) (fun W hb => (N1.out W hb).c4) (fun _ => rfl)) ?_
    refine AllStepC.step rfl (step_loadM (o := 0) (fun _ _ h => h) (fun W hb => (N2.out W hb).c4) (fun _ => rfl)) ?_
    refine AllStepC.step rfl (step_call2 (Plain.of Try.func15 rfl rfl) (fun _ _ h => h) (fun _ _ h => h) (fun w => Lcm_any HX.out HY.out w) (fun _ => rfl)) ?_
    refine AllStepC.step rfl (step_loadM (o := 0) (fun _ _ h => h) (fun W hb => (N1.out W hb).c4) (fun _ => rfl)) ?_
    refine AllStepC.step rfl (step_eqM (fun _ _ h => h) (fun _ _ h => h) (eqM_iff.2 (lcm_of_in HI.out)) (fun _ => rfl)) ?_
    refine AllStepC.step rfl (step_pickT (fun _ _ h => h) (fun _ _ h => h)) ?_
    refine AllStepC.step rfl (step_assign (fun _ _ h => h)) ?_
    exact AllStepC.nil
  intro a9 w9 hb9 hs9 hd9 hk9
  refine hK9 _ _ ?_
  refine wp_ret ?_
  exact ret_slot (t := 4) rfl hd9 (hk9 4) ⟨rfl, Below.step HB3.out hb9⟩

set_option maxRecDepth 100000 in
set_option maxHeartbeats 2000000 in
theorem Back_not_out {x y : M4} (hx : OkM x) (hy : OkM y) (h : ¬ fits x y) (h' : ¬ inM y x) (w : World) : Calls Try.prog 5 #[mv x, mv y] w fun e w' => e = .returned (.bool true) ∧ Below w.heap.size w w' := by
  have HF : Hid (¬ fits x y) := h
  have HI : Hid (¬ inM y x) := h'
  clear h h'
  have HX := Lib.hid hx
  have HY := Lib.hid hy
  clear hx hy
  obtain ⟨W0, e0, n1, n2, hb0, hs0⟩ := box_2 w x y
  have HB0 := Lib.hid hb0
  have N1 := n1.keep
  have N2 := n2.keep
  have c1 := n1.c4
  have c2 := n2.c4
  clear n1 n2 hb0 hs0
  unfold mv
  go_enter Try.func5, Try.ntmps5
  go_wp2_with fail
  clear e0
  have hno : mulM x y = noM := mul_no HF.out
  have hq := run_eqM noM noM
  refine (Mul_to HX.out HY.out _ 3 rfl (err_no HF.out) _).mono ?_
  rintro e w1 ⟨rfl, hb⟩
  obtain ⟨W1, e1, m, hb2, -⟩ := box_new w1 (mulM x y) (T := 24)
  have hb := Below.step hb hb2
  clear c1 c2
  have N1 := (N1.out _ hb).keep
  have c1 := (N1.out _ (Below.refl _ _)).c4
  have N2 := (N2.out _ hb).keep
  have c2 := (N2.out _ (Below.refl _ _)).c4
  have N3 := m.keep
  have c3 := m.c4
  have HB1 := Lib.hid (Below.step HB0.out hb)
  clear hb hb2 m
  unfold mv
  rw [hno] at c3
  replace c3 : W1.cell? ⟨w1.heap.size, 0, none⟩ = some (.int .u16 0) ∧ W1.cell? ⟨w1.heap.size, 1, none⟩ = some (.int .u16 0) ∧ W1.cell? ⟨w1.heap.size, 2, none⟩ = some (.int .u16 0) ∧ W1.cell? ⟨w1.heap.size, 3, none⟩ = some (.int .u16 0) := c3
  replace hq : ∀ W : World, (Op.equalIn 10000 24 (.agg #[.int .u16 0, .int .u16 0, .int .u16 0, .int .u16 0]) (.agg #[.int .u16 0, .int .u16 0, .int .u16 0, .int .u16 0])).run Try.prog W = .ok true W := fun W => hq W
  clear hno
  go_wp2_with fail
  refine (Div_to HX.out HY.out _ false rfl (decide_eq_false HI.out) _).mono ?_
  rintro e w2 ⟨rfl, hb⟩
  obtain ⟨W2, e2, m, hb2, -⟩ := box_new w2 (divM x y) (T := 24)
  have hb := Below.step hb hb2
  clear c1 c2
  have N1 := (N1.out _ hb).keep
  have c1 := (N1.out _ (Below.refl _ _)).c4
  have N2 := (N2.out _ hb).keep
  have c2 := (N2.out _ (Below.refl _ _)).c4
  have N3 := m.keep
  have c3 := m.c4
  have HB2 := Lib.hid (Below.step HB1.out hb)
  clear hb hb2 m
  unfold mv
  go_upto_region 10 with fail
  rename_i K9 hK9
  refine wp_region_knownC [(4, true), (59, true), (60, true), (63, true), (64, true), (65, true), (70, true), (71, true)] []
    [(9, IsV (.pointer (some ⟨w2.heap.size, 0, none⟩))), (2, IsV (.pointer (some ⟨w.heap.size, 0, none⟩))), (3, IsV (.pointer (some ⟨(w.heap.size + 1), 0, none⟩)))]
    [(61, IsV (mv (divM x y))), (62, IsV (mv (⟨0, 0, 0, 0⟩))), (66, IsV (mv (x))), (67, IsV (mv (y))), (68, IsV (mv (lcmM (x) (y)))), (69, IsV (mv (x)))]
    95 (by kernel_rfl) rfl (by kernel_rfl) (by kernel_rfl) ⟨rfl, rfl, rfl, trivial⟩ ⟨IsV.grows _, IsV.grows _, IsV.grows _, IsV.grows _, IsV.grows _, IsV.grows _, IsV.grows _, IsV.grows _, IsV.grows _, trivial⟩ (fun t ht => by cases ht) ?_ ?_
  · refine AllStepC.step rfl (step_call0 (Plain.of Try.func21 rfl rfl) (fun w => alive_any w) (fun _ => rfl)) ?_
    refine AllStepC.step rfl (step_move (fun _ _ h => h)) ?_
    refine AllStepC.step rfl (step_loadM (o := 0) (fun _ _ h => h) (fun W hb => (N3.out W hb).c4) (fun _ => rfl)) ?_
    refine AllStepC.step rfl (step_build (l' := #[]) (fun _ => by simp only [List.map_toArray, List.map_nil]) (fun w => by kernel_rfl) (fun _ => rfl)) ?_
    refine AllStepC.step rfl (step_eqM (fun _ _ h => h) (fun _ _ h => h) (eqM_iff.2 (div_no HI.out)) (fun _ => rfl)) ?_
    refine AllStepC.step rfl (step_pickT (fun _ _ h => h) (fun _ _ h => h)) ?_
    refine AllStepC.step rfl (step_move (fun _ _ h => h)) ?_
    refine AllStepC.step rfl (step_loadM (o := 0) (fun _ _ h => h) (fun W hb => (N1.out W hb).c4) (fun _ => rfl)) ?_
    refine AllStepC.step rfl (step_loadM (o := 0) (fun _ _ h => h) (fun W hb => (N2.out W hb).c4) (fun _ => rfl)) ?_
    refine AllStepC.step rfl (step_call2 (Plain.of Try.func15 rfl rfl) (fun _ _ h => h) (fun _ _ h => h) (fun w => Lcm_any HX.out HY.out w) (fun _ => rfl)) ?_
    refine AllStepC.step rfl (step_loadM (o := 0) (fun _ _ h => h) (fun W hb => (N1.out W hb).c4) (fun _ => rfl)) ?_
    refine AllStepC.step rfl (step_neM (fun _ _ h => h) (fun _ _ h => h) (by rw [Bool.not_eq_true']; exact Bool.eq_false_iff.2 (fun e => HI.out (in_of_lcm (eqM_iff.1 e)))) (fun _ => rfl)) ?_
    refine AllStepC.step rfl (step_pickT (fun _ _ h => h) (fun _ _ h => h)) ?_
    refine AllStepC.step rfl (step_assign (fun _ _ h => h)) ?_
    exact AllStepC.nil
  intro a9 w9 hb9 hs9 hd9 hk9
  refine hK9 _ _ ?_
  refine wp_ret ?_
  have hfin : bodyPost Try.prog Try.f5 (fun e w' => e = .returned (.bool true) ∧ Below w.heap.size w w') .ret a9 w9 := ret_slot (t := 4) rfl hd9 (hk9 4) ⟨rfl, Below.step HB2.out hb9⟩
  exact hfin

theorem MonosBack_true (w : World) (x : M4) (hx : OkM x) (y : M4) (hy : OkM y) : Calls Try.prog 5 #[mv x, mv y] w fun e w' => e = .returned (.bool true) ∧ Below w.heap.size w w' := by
  by_cases h : fits x y <;> by_cases h' : inM y x
  · exact Back_fits_in hx hy h h' w
  · exact Back_fits_out hx hy h h' w
  · exact Back_not_in hx hy h h' w
  · exact Back_not_out hx hy h h' w

end Go.Proofs.Ytikbjjechhdclaa
