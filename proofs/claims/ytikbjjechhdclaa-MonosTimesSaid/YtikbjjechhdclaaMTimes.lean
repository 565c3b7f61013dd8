/- Walk: the law MonosTimes. -/
import Derived.Test.YtikbjjechhdclaaMLaws
import Derived.Test.YtikbjjechhdclaaMRow
namespace Go.Proofs.Ytikbjjechhdclaa
open Go.RowKit

set_option maxRecDepth 100000 in
set_option maxHeartbeats 2000000 in
theorem Times_both_in {o : Int} (ho : 0 ≤ o ∧ o ≤ 255) {x y z : M4} (hx : OkM x) (hy : OkM y) (hz : OkM z) (h : fits x z) (h' : fits y z) (hi : inM y x) (w : World) : Calls Try.prog 8 #[.int .u8 o, mv3 x y z] w fun e w' => e = .returned (.bool true) ∧ Below w.heap.size w w' := by
  have HO := Lib.hid ho
  have HX := Lib.hid hx
  have HY := Lib.hid hy
  have HZ := Lib.hid hz
  have HI : Hid (inM y x) := hi
  have E1 : Hid (errM x z = 0) := err_ok h
  obtain ⟨e2, he2⟩ : ∃ e, errM y z = e := ⟨_, rfl⟩
  have E2 := Lib.hid he2
  have E3 : Hid (e2 = 0) := by rw [← he2]; exact err_ok h'
  have KK : Hid (keyM o (mulM x z) - keyM o (mulM y z) = keyM o x - keyM o y) := by
    show keyM o (mulM x z) - keyM o (mulM y z) = keyM o x - keyM o y
    rw [key_mul h, key_mul h']
    omega
  obtain ⟨N, hN⟩ : ∃ N, sgn (keyM o x - keyM o y) = N := ⟨_, rfl⟩
  have HN := Lib.hid hN
  have R1 : Hid (0 ≤ N) := by rw [← hN]; exact sgn_nonneg (by have := key_in (o := o) hx hi; omega)
  clear hN
  clear ho hx hy hz hi he2 h h'
  obtain ⟨W0, e0, n0, hb0⟩ := box_12 w x y z
  have HB0 := Lib.hid hb0
  have c0 := n0.all
  have N0 := n0.keep
  clear n0 hb0
  unfold mv3
  go_enter Try.func8, Try.ntmps8
  go_wp2_with fail
  clear e0
  refine (Mul_to HX.out HZ.out _ 0 rfl E1.out _).mono ?_
  rintro e w1 ⟨rfl, hb⟩
  obtain ⟨W1, e1, m, hb2, -⟩ := box_new w1 (mulM x z) (T := 24)
  have hb := Below.step hb hb2
  have N0 := (N0.out _ hb).keep
  have c0 := (N0.out _ (Below.refl _ _)).all
  have N1 := m.keep
  have HB1 := Lib.hid (Below.step HB0.out hb)
  clear hb hb2 m
  unfold mv
  go_wp2_with fail
  refine (Mul_to HY.out HZ.out _ e2 rfl E2.out _).mono ?_
  rintro e w2 ⟨rfl, hb⟩
  obtain ⟨W2, e3, m, hb2, -⟩ := box_new w2 (mulM y z) (T := 24)
  have hb := Below.step hb hb2
  have N0 := (N0.out _ hb).keep
  have N1 := (N1.out _ hb).keep
  have N2 := m.keep
  have HB2 := Lib.hid (Below.step HB1.out hb)
  clear hb hb2 m
  unfold mv
  go_upto_region 3 with fail
  rename_i hK0 K1 hK1
  refine wp_region_knownC [(28, true), (29, true), (31, true), (32, true), (33, true), (44, false), (45, false)] []
    [(0, IsV (.int .u8 (o))), (3, IsV (.pointer (some ⟨w.heap.size, 0, none⟩))), (6, IsV (.int .i64 (0))), (8, IsV (.int .i64 (e2))), (5, IsV (.pointer (some ⟨w1.heap.size, 0, none⟩))), (7, IsV (.pointer (some ⟨w2.heap.size, 0, none⟩)))]
    [(27, IsV (.int .i64 (0))), (30, IsV (.int .i64 (e2))), (34, IsV (.int .u8 (o))), (35, IsV (mv (mulM x z))), (36, IsV (mv (mulM y z))), (37, IsV (.int .i64 (sgn (keyM o (mulM x z) - keyM o (mulM y z))))), (38, IsV (.int .u8 (o))), (39, IsV (.pointer (some ⟨w.heap.size, 0, none⟩))), (40, IsV (mv (x))), (41, IsV (.pointer (some ⟨w.heap.size, 4, none⟩))), (42, IsV (mv (y))), (43, IsV (.int .i64 (sgn (keyM o (x) - keyM o (y)))))]
    68 (by kernel_rfl) rfl (by kernel_rfl) (by kernel_rfl) ⟨rfl, rfl, rfl, rfl, rfl, rfl, trivial⟩ ⟨IsV.grows _, IsV.grows _, IsV.grows _, IsV.grows _, IsV.grows _, IsV.grows _, IsV.grows _, IsV.grows _, IsV.grows _, IsV.grows _, IsV.grows _, IsV.grows _, IsV.grows _, IsV.grows _, IsV.grows _, IsV.grows _, IsV.grows _, IsV.grows _, trivial⟩ (fun t ht => by cases ht) ?_ ?_
  · refine AllStepC.step rfl (step_move (fun _ _ h => h)) ?_
    refine AllStepC.step rfl (step_eqEk (fun _ _ h => h)  (by rfl) (fun _ => rfl)) ?_
    refine AllStepC.step rfl (step_move (fun _ _ h => h)) ?_
    refine AllStepC.step rfl (step_move (fun _ _ h => h)) ?_
    refine AllStepC.step rfl (step_eqEk (fun _ _ h => h)  (by rw [E3.out]; rfl) (fun _ => rfl)) ?_
    refine AllStepC.step rfl (step_pickT (fun _ _ h => h) (fun _ _ h => h)) ?_
    refine AllStepC.step rfl (step_move (fun _ _ h => h)) ?_
    refine AllStepC.step rfl (step_move (fun _ _ h => h)) ?_
    refine AllStepC.step rfl (step_loadM (o := 0) (fun _ _ h => h) (fun W hb => (N1.out W hb).c4) (fun _ => rfl)) ?_
    refine AllStepC.step rfl (step_loadM (o := 0) (fun _ _ h => h) (fun W hb => (N2.out W hb).c4) (fun _ => rfl)) ?_
    refine AllStepC.step rfl (step_call3 (Plain.of Try.func19 rfl rfl) (fun _ _ h => h) (fun _ _ h => h) (fun _ _ h => h) (fun w => Cmp_any HO.out.1 HO.out.2 (OkM.mul x z) (OkM.mul y z) w) (fun _ => rfl)) ?_
    refine AllStepC.step rfl (step_move (fun _ _ h => h)) ?_
    refine AllStepC.step rfl (step_index38 (fun _ _ h => h) (fun w => run_index38_0 w) (fun _ => rfl)) ?_
    refine AllStepC.step rfl (step_loadM (o := 0) (fun _ _ h => h) (fun W hb => (fun W hb => (N0.out W hb).c0) W hb) (fun _ => rfl)) ?_
    refine AllStepC.step rfl (step_index38 (fun _ _ h => h) (fun w => run_index38_1 w) (fun _ => rfl)) ?_
    refine AllStepC.step rfl (step_loadM (o := 4) (fun _ _ h => h) (fun W hb => (fun W hb => (N0.out W hb).c1) W hb) (fun _ => rfl)) ?_
    refine AllStepC.step rfl (step_call3 (Plain.of Try.func19 rfl rfl) (fun _ _ h => h) (fun _ _ h => h) (fun _ _ h => h) (fun w => Cmp_any HO.out.1 HO.out.2 HX.out HY.out w) (fun _ => rfl)) ?_
    refine AllStepC.step rfl (step_neI (fun _ _ h => h) (fun _ _ h => h) (by rw [KK.out]; simp) (fun _ => rfl)) ?_
    refine AllStepC.step rfl (step_pickT (fun _ _ h => h) (fun _ _ h => h)) ?_
    exact AllStepC.nil
  intro a1 wa hb1 hs1 hd1 hk1
  have HB3 := Lib.hid (Below.step HB2.out hb1)
  have N0 := (N0.out _ hb1).keep
  have c0 := (N0.out _ (Below.refl _ _)).all
  obtain ⟨u, hx⟩ : ∃ u : Nat → Value, ∀ t, a1.eval (.tmp t) = u t := ⟨_, fun _ => rfl⟩
  have ha : a1 = ⟨#[.int .u8 (o), u 1, u 2, .pointer (some ⟨w.heap.size, 0, none⟩), u 4, .pointer (some ⟨w1.heap.size, 0, none⟩), .int .i64 (0), .pointer (some ⟨w2.heap.size, 0, none⟩), .int .i64 (e2), u 9, u 10, u 11, u 12, u 13, u 14, u 15, u 16, u 17, u 18, u 19, u 20, u 21, u 22, u 23, u 24, u 25, u 26, .int .i64 (0), .bool true, .bool true, .int .i64 (e2), .bool true, .bool true, .bool true, .int .u8 (o), mv (mulM x z), mv (mulM y z), .int .i64 (sgn (keyM o (mulM x z) - keyM o (mulM y z))), .int .u8 (o), .pointer (some ⟨w.heap.size, 0, none⟩), mv (x), .pointer (some ⟨w.heap.size, 4, none⟩), mv (y), .int .i64 (sgn (keyM o (x) - keyM o (y))), .bool false, .bool false, u 46, u 47, u 48, u 49, u 50, u 51, u 52, u 53, u 54, u 55, u 56, u 57, u 58, u 59, u 60, u 61, u 62, u 63, u 64, u 65, u 66, u 67], []⟩ := act_eq hs1 hd1 ⟨hk1 0, hx 1, hx 2, hk1 3, hx 4, hk1 5, hk1 6, hk1 7, hk1 8, hx 9, hx 10, hx 11, hx 12, hx 13, hx 14, hx 15, hx 16, hx 17, hx 18, hx 19, hx 20, hx 21, hx 22, hx 23, hx 24, hx 25, hx 26, hk1 27, hk1 28, hk1 29, hk1 30, hk1 31, hk1 32, hk1 33, hk1 34, hk1 35, hk1 36, hk1 37, hk1 38, hk1 39, hk1 40, hk1 41, hk1 42, hk1 43, hk1 44, hk1 45, hx 46, hx 47, hx 48, hx 49, hx 50, hx 51, hx 52, hx 53, hx 54, hx 55, hx 56, hx 57, hx 58, hx 59, hx 60, hx 61, hx 62, hx 63, hx 64, hx 65, hx 66, hx 67, trivial⟩
  subst ha
  refine hK1 _ _ ?_
  refine wp_cond_false rfl ?_
  refine wp_skip ?_
  refine hK0 _ _ ?_
  clear hx hs1 hd1 hk1 hb1 hK1 hK0 N1 N2
  go_wp2_with fail
  refine (Div_to HX.out HY.out _ true rfl (decide_eq_true HI.out) _).mono ?_
  rintro e w4 ⟨rfl, hb⟩
  obtain ⟨W4, e4, m, hb2, -⟩ := box_new w4 (divM x y) (T := 24)
  have hb := Below.step hb hb2
  have N0 := (N0.out _ hb).keep
  have HB4 := Lib.hid (Below.step HB3.out hb)
  clear hb hb2 m c0
  unfold mv
  go_wp2_with fail
  refine (alive_any _).mono ?_
  rintro e w5 ⟨rfl, hb⟩
  have HB5 := Lib.hid (Below.step HB4.out hb)
  have c0 := (N0.out _ hb).all
  clear hb
  go_wp2_with fail
  refine (Cmp_to HO.out.1 HO.out.2 HX.out HY.out N HN.out _).mono ?_
  rintro e w6 ⟨rfl, hb⟩
  have HB6 := Lib.hid (Below.step HB5.out hb)
  have r1 := R1.out
  clear hb c0
  go_wp2_with fail
  go_ret
  exact ⟨rfl, HB6.out⟩

set_option maxRecDepth 100000 in
set_option maxHeartbeats 2000000 in
theorem Times_both_out {o : Int} (ho : 0 ≤ o ∧ o ≤ 255) {x y z : M4} (hx : OkM x) (hy : OkM y) (hz : OkM z) (h : fits x z) (h' : fits y z) (hi : ¬ inM y x) (w : World) : Calls Try.prog 8 #[.int .u8 o, mv3 x y z] w fun e w' => e = .returned (.bool true) ∧ Below w.heap.size w w' := by
  have HO := Lib.hid ho
  have HX := Lib.hid hx
  have HY := Lib.hid hy
  have HZ := Lib.hid hz
  have HI : Hid (¬ inM y x) := hi
  have E1 : Hid (errM x z = 0) := err_ok h
  obtain ⟨e2, he2⟩ : ∃ e, errM y z = e := ⟨_, rfl⟩
  have E2 := Lib.hid he2
  have E3 : Hid (e2 = 0) := by rw [← he2]; exact err_ok h'
  have KK : Hid (keyM o (mulM x z) - keyM o (mulM y z) = keyM o x - keyM o y) := by
    show keyM o (mulM x z) - keyM o (mulM y z) = keyM o x - keyM o y
    rw [key_mul h, key_mul h']
    omega
  clear ho hx hy hz hi he2 h h'
  obtain ⟨W0, e0, n0, hb0⟩ := box_12 w x y z
  have HB0 := Lib.hid hb0
  have c0 := n0.all
  have N0 := n0.keep
  clear n0 hb0
  unfold mv3
  go_enter Try.func8, Try.ntmps8
  go_wp2_with fail
  clear e0
  refine (Mul_to HX.out HZ.out _ 0 rfl E1.out _).mono ?_
  rintro e w1 ⟨rfl, hb⟩
  obtain ⟨W1, e1, m, hb2, -⟩ := box_new w1 (mulM x z) (T := 24)
  have hb := Below.step hb hb2
  have N0 := (N0.out _ hb).keep
  have c0 := (N0.out _ (Below.refl _ _)).all
  have N1 := m.keep
  have HB1 := Lib.hid (Below.step HB0.out hb)
  clear hb hb2 m
  unfold mv
  go_wp2_with fail
  refine (Mul_to HY.out HZ.out _ e2 rfl E2.out _).mono ?_
  rintro e w2 ⟨rfl, hb⟩
  obtain ⟨W2, e3, m, hb2, -⟩ := box_new w2 (mulM y z) (T := 24)
  have hb := Below.step hb hb2
  have N0 := (N0.out _ hb).keep
  have N1 := (N1.out _ hb).keep
  have N2 := m.keep
  have HB2 := Lib.hid (Below.step HB1.out hb)
  clear hb hb2 m
  unfold mv
  go_upto_region 3 with fail
  rename_i hK0 K1 hK1
  refine wp_region_knownC [(28, true), (29, true), (31, true), (32, true), (33, true), (44, false), (45, false)] []
    [(0, IsV (.int .u8 (o))), (3, IsV (.pointer (some ⟨w.heap.size, 0, none⟩))), (6, IsV (.int .i64 (0))), (8, IsV (.int .i64 (e2))), (5, IsV (.pointer (some ⟨w1.heap.size, 0, none⟩))), (7, IsV (.pointer (some ⟨w2.heap.size, 0, none⟩)))]
    [(27, IsV (.int .i64 (0))), (30, IsV (.int .i64 (e2))), (34, IsV (.int .u8 (o))), (35, IsV (mv (mulM x z))), (36, IsV (mv (mulM y z))), (37, IsV (.int .i64 (sgn (keyM o (mulM x z) - keyM o (mulM y z))))), (38, IsV (.int .u8 (o))), (39, IsV (.pointer (some ⟨w.heap.size, 0, none⟩))), (40, IsV (mv (x))), (41, IsV (.pointer (some ⟨w.heap.size, 4, none⟩))), (42, IsV (mv (y))), (43, IsV (.int .i64 (sgn (keyM o (x) - keyM o (y)))))]
    68 (by kernel_rfl) rfl (by kernel_rfl) (by kernel_rfl) ⟨rfl, rfl, rfl, rfl, rfl, rfl, trivial⟩ ⟨IsV.grows _, IsV.grows _, IsV.grows _, IsV.grows _, IsV.grows _, IsV.grows _, IsV.grows _, IsV.grows _, IsV.grows _, IsV.grows _, IsV.grows _, IsV.grows _, IsV.grows _, IsV.grows _, IsV.grows _, IsV.grows _, IsV.grows _, IsV.grows _, trivial⟩ (fun t ht => by cases ht) ?_ ?_
  · refine AllStepC.step rfl (step_move (fun _ _ h => h)) ?_
    refine AllStepC.step rfl (step_eqEk (fun _ _ h => h)  (by rfl) (fun _ => rfl)) ?_
    refine AllStepC.step rfl (step_move (fun _ _ h => h)) ?_
    refine AllStepC.step rfl (step_move (fun _ _ h => h)) ?_
    refine AllStepC.step rfl (step_eqEk (fun _ _ h => h)  (by rw [E3.out]; rfl) (fun _ => rfl)) ?_
    refine AllStepC.step rfl (step_pickT (fun _ _ h => h) (fun _ _ h => h)) ?_
    refine AllStepC.step rfl (step_move (fun _ _ h => h)) ?_
    refine AllStepC.step rfl (step_move (fun _ _ h => h)) ?_
    refine AllStepC.step rfl (step_loadM (o := 0) (fun _ _ h => h) (fun W hb => (N1.out W hb).c4) (fun _ => rfl)) ?_
    refine AllStepC.step rfl (step_loadM (o := 0) (fun _ _ h => h) (fun W hb => (N2.out W hb).c4) (fun _ => rfl)) ?_
    refine AllStepC.step rfl (step_call3 (Plain.of Try.func19 rfl rfl) (fun _ _ h => h) (fun _ _ h => h) (fun _ _ h => h) (fun w => Cmp_any HO.out.1 HO.out.2 (OkM.mul x z) (OkM.mul y z) w) (fun _ => rfl)) ?_
    refine AllStepC.step rfl (step_move (fun _ _ h => h)) ?_
    refine AllStepC.step rfl (step_index38 (fun _ _ h => h) (fun w => run_index38_0 w) (fun _ => rfl)) ?_
    refine AllStepC.step rfl (step_loadM (o := 0) (fun _ _ h => h) (fun W hb => (fun W hb => (N0.out W hb).c0) W hb) (fun _ => rfl)) ?_
    refine AllStepC.step rfl (step_index38 (fun _ _ h => h) (fun w => run_index38_1 w) (fun _ => rfl)) ?_
    refine AllStepC.step rfl (step_loadM (o := 4) (fun _ _ h => h) (fun W hb => (fun W hb => (N0.out W hb).c1) W hb) (fun _ => rfl)) ?_
    refine AllStepC.step rfl (step_call3 (Plain.of Try.func19 rfl rfl) (fun _ _ h => h) (fun _ _ h => h) (fun _ _ h => h) (fun w => Cmp_any HO.out.1 HO.out.2 HX.out HY.out w) (fun _ => rfl)) ?_
    refine AllStepC.step rfl (step_neI (fun _ _ h => h) (fun _ _ h => h) (by rw [KK.out]; simp) (fun _ => rfl)) ?_
    refine AllStepC.step rfl (step_pickT (fun _ _ h => h) (fun _ _ h => h)) ?_
    exact AllStepC.nil
  intro a1 wa hb1 hs1 hd1 hk1
  have HB3 := Lib.hid (Below.step HB2.out hb1)
  have N0 := (N0.out _ hb1).keep
  have c0 := (N0.out _ (Below.refl _ _)).all
  obtain ⟨u, hx⟩ : ∃ u : Nat → Value, ∀ t, a1.eval (.tmp t) = u t := ⟨_, fun _ => rfl⟩
  have ha : a1 = ⟨#[.int .u8 (o), u 1, u 2, .pointer (some ⟨w.heap.size, 0, none⟩), u 4, .pointer (some ⟨w1.heap.size, 0, none⟩), .int .i64 (0), .pointer (some ⟨w2.heap.size, 0, none⟩), .int .i64 (e2), u 9, u 10, u 11, u 12, u 13, u 14, u 15, u 16, u 17, u 18, u 19, u 20, u 21, u 22, u 23, u 24, u 25, u 26, .int .i64 (0), .bool true, .bool true, .int .i64 (e2), .bool true, .bool true, .bool true, .int .u8 (o), mv (mulM x z), mv (mulM y z), .int .i64 (sgn (keyM o (mulM x z) - keyM o (mulM y z))), .int .u8 (o), .pointer (some ⟨w.heap.size, 0, none⟩), mv (x), .pointer (some ⟨w.heap.size, 4, none⟩), mv (y), .int .i64 (sgn (keyM o (x) - keyM o (y))), .bool false, .bool false, u 46, u 47, u 48, u 49, u 50, u 51, u 52, u 53, u 54, u 55, u 56, u 57, u 58, u 59, u 60, u 61, u 62, u 63, u 64, u 65, u 66, u 67], []⟩ := act_eq hs1 hd1 ⟨hk1 0, hx 1, hx 2, hk1 3, hx 4, hk1 5, hk1 6, hk1 7, hk1 8, hx 9, hx 10, hx 11, hx 12, hx 13, hx 14, hx 15, hx 16, hx 17, hx 18, hx 19, hx 20, hx 21, hx 22, hx 23, hx 24, hx 25, hx 26, hk1 27, hk1 28, hk1 29, hk1 30, hk1 31, hk1 32, hk1 33, hk1 34, hk1 35, hk1 36, hk1 37, hk1 38, hk1 39, hk1 40, hk1 41, hk1 42, hk1 43, hk1 44, hk1 45, hx 46, hx 47, hx 48, hx 49, hx 50, hx 51, hx 52, hx 53, hx 54, hx 55, hx 56, hx 57, hx 58, hx 59, hx 60, hx 61, hx 62, hx 63, hx 64, hx 65, hx 66, hx 67, trivial⟩
  subst ha
  refine hK1 _ _ ?_
  refine wp_cond_false rfl ?_
  refine wp_skip ?_
  refine hK0 _ _ ?_
  clear hx hs1 hd1 hk1 hb1 hK1 hK0 N1 N2
  go_wp2_with fail
  refine (Div_to HX.out HY.out _ false rfl (decide_eq_false HI.out) _).mono ?_
  rintro e w4 ⟨rfl, hb⟩
  obtain ⟨W4, e4, m, hb2, -⟩ := box_new w4 (divM x y) (T := 24)
  have hb := Below.step hb hb2
  have N0 := (N0.out _ hb).keep
  have HB4 := Lib.hid (Below.step HB3.out hb)
  clear hb hb2 m c0
  unfold mv
  go_wp2_with fail
  refine (alive_any _).mono ?_
  rintro e w5 ⟨rfl, hb⟩
  have HB5 := Lib.hid (Below.step HB4.out hb)
  have c0 := (N0.out _ hb).all
  clear hb
  go_wp2_with fail
  go_ret
  exact ⟨rfl, HB5.out⟩

set_option maxRecDepth 100000 in
set_option maxHeartbeats 2000000 in
theorem Times_one_in {o : Int} (ho : 0 ≤ o ∧ o ≤ 255) {x y z : M4} (hx : OkM x) (hy : OkM y) (hz : OkM z) (h : fits x z) (h' : ¬ fits y z) (hi : inM y x) (w : World) : Calls Try.prog 8 #[.int .u8 o, mv3 x y z] w fun e w' => e = .returned (.bool true) ∧ Below w.heap.size w w' := by
  have HO := Lib.hid ho
  have HX := Lib.hid hx
  have HY := Lib.hid hy
  have HZ := Lib.hid hz
  have HI : Hid (inM y x) := hi
  have E1 : Hid (errM x z = 0) := err_ok h
  obtain ⟨e2, he2⟩ : ∃ e, errM y z = e := ⟨_, rfl⟩
  have E2 := Lib.hid he2
  have E3 : Hid (e2 = 3) := by rw [← he2]; exact err_no h'
  obtain ⟨N, hN⟩ : ∃ N, sgn (keyM o x - keyM o y) = N := ⟨_, rfl⟩
  have HN := Lib.hid hN
  have R1 : Hid (0 ≤ N) := by rw [← hN]; exact sgn_nonneg (by have := key_in (o := o) hx hi; omega)
  clear hN
  clear ho hx hy hz hi he2 h h'
  obtain ⟨W0, e0, n0, hb0⟩ := box_12 w x y z
  have HB0 := Lib.hid hb0
  have c0 := n0.all
  have N0 := n0.keep
  clear n0 hb0
  unfold mv3
  go_enter Try.func8, Try.ntmps8
  go_wp2_with fail
  clear e0
  refine (Mul_to HX.out HZ.out _ 0 rfl E1.out _).mono ?_
  rintro e w1 ⟨rfl, hb⟩
  obtain ⟨W1, e1, m, hb2, -⟩ := box_new w1 (mulM x z) (T := 24)
  have hb := Below.step hb hb2
  have N0 := (N0.out _ hb).keep
  have c0 := (N0.out _ (Below.refl _ _)).all
  have N1 := m.keep
  have HB1 := Lib.hid (Below.step HB0.out hb)
  clear hb hb2 m
  unfold mv
  go_wp2_with fail
  refine (Mul_to HY.out HZ.out _ e2 rfl E2.out _).mono ?_
  rintro e w2 ⟨rfl, hb⟩
  obtain ⟨W2, e3, m, hb2, -⟩ := box_new w2 (mulM y z) (T := 24)
  have hb := Below.step hb hb2
  have N0 := (N0.out _ hb).keep
  have N1 := (N1.out _ hb).keep
  have N2 := m.keep
  have HB2 := Lib.hid (Below.step HB1.out hb)
  clear hb hb2 m
  unfold mv
  go_upto_region 3 with fail
  rename_i hK0 K1 hK1
  refine wp_region_knownC [(28, true), (29, true), (31, false), (32, false), (33, false), (45, false)] []
    [(0, IsV (.int .u8 (o))), (3, IsV (.pointer (some ⟨w.heap.size, 0, none⟩))), (6, IsV (.int .i64 (0))), (8, IsV (.int .i64 (e2)))]
    [(27, IsV (.int .i64 (0))), (30, IsV (.int .i64 (e2)))]
    68 (by kernel_rfl) rfl (by kernel_rfl) (by kernel_rfl) ⟨rfl, rfl, rfl, rfl, trivial⟩ ⟨IsV.grows _, IsV.grows _, IsV.grows _, IsV.grows _, IsV.grows _, IsV.grows _, trivial⟩ (fun t ht => by cases ht) ?_ ?_
  · refine AllStepC.step rfl (step_move (fun _ _ h => h)) ?_
    refine AllStepC.step rfl (step_eqEk (fun _ _ h => h)  (by rfl) (fun _ => rfl)) ?_
    refine AllStepC.step rfl (step_move (fun _ _ h => h)) ?_
    refine AllStepC.step rfl (step_move (fun _ _ h => h)) ?_
    refine AllStepC.step rfl (step_eqEk (fun _ _ h => h)  (by rw [E3.out]; rfl) (fun _ => rfl)) ?_
    refine AllStepC.step rfl (step_pickT (fun _ _ h => h) (fun _ _ h => h)) ?_
    refine AllStepC.step rfl (step_move (fun _ _ h => h)) ?_
    refine AllStepC.skip rfl rfl ?_
    refine AllStepC.skip rfl rfl ?_
    refine AllStepC.skip rfl rfl ?_
    refine AllStepC.skip rfl rfl ?_
    refine AllStepC.skip rfl rfl ?_
    refine AllStepC.skip rfl rfl ?_
    refine AllStepC.skip rfl rfl ?_
    refine AllStepC.skip rfl rfl ?_
    refine AllStepC.skip rfl rfl ?_
    refine AllStepC.skip rfl rfl ?_
    refine AllStepC.skip rfl rfl ?_
    refine AllStepC.step rfl (step_pickN (fun _ _ h => h) (fun _ => rfl)) ?_
    exact AllStepC.nil
  intro a1 wa hb1 hs1 hd1 hk1
  have HB3 := Lib.hid (Below.step HB2.out hb1)
  have N0 := (N0.out _ hb1).keep
  have c0 := (N0.out _ (Below.refl _ _)).all
  obtain ⟨u, hx⟩ : ∃ u : Nat → Value, ∀ t, a1.eval (.tmp t) = u t := ⟨_, fun _ => rfl⟩
  have ha : a1 = ⟨#[.int .u8 (o), u 1, u 2, .pointer (some ⟨w.heap.size, 0, none⟩), u 4, u 5, .int .i64 (0), u 7, .int .i64 (e2), u 9, u 10, u 11, u 12, u 13, u 14, u 15, u 16, u 17, u 18, u 19, u 20, u 21, u 22, u 23, u 24, u 25, u 26, .int .i64 (0), .bool true, .bool true, .int .i64 (e2), .bool false, .bool false, .bool false, u 34, u 35, u 36, u 37, u 38, u 39, u 40, u 41, u 42, u 43, u 44, .bool false, u 46, u 47, u 48, u 49, u 50, u 51, u 52, u 53, u 54, u 55, u 56, u 57, u 58, u 59, u 60, u 61, u 62, u 63, u 64, u 65, u 66, u 67], []⟩ := act_eq hs1 hd1 ⟨hk1 0, hx 1, hx 2, hk1 3, hx 4, hx 5, hk1 6, hx 7, hk1 8, hx 9, hx 10, hx 11, hx 12, hx 13, hx 14, hx 15, hx 16, hx 17, hx 18, hx 19, hx 20, hx 21, hx 22, hx 23, hx 24, hx 25, hx 26, hk1 27, hk1 28, hk1 29, hk1 30, hk1 31, hk1 32, hk1 33, hx 34, hx 35, hx 36, hx 37, hx 38, hx 39, hx 40, hx 41, hx 42, hx 43, hx 44, hk1 45, hx 46, hx 47, hx 48, hx 49, hx 50, hx 51, hx 52, hx 53, hx 54, hx 55, hx 56, hx 57, hx 58, hx 59, hx 60, hx 61, hx 62, hx 63, hx 64, hx 65, hx 66, hx 67, trivial⟩
  subst ha
  refine hK1 _ _ ?_
  refine wp_cond_false rfl ?_
  refine wp_skip ?_
  refine hK0 _ _ ?_
  clear hx hs1 hd1 hk1 hb1 hK1 hK0 N1 N2
  go_wp2_with fail
  refine (Div_to HX.out HY.out _ true rfl (decide_eq_true HI.out) _).mono ?_
  rintro e w4 ⟨rfl, hb⟩
  obtain ⟨W4, e4, m, hb2, -⟩ := box_new w4 (divM x y) (T := 24)
  have hb := Below.step hb hb2
  have N0 := (N0.out _ hb).keep
  have HB4 := Lib.hid (Below.step HB3.out hb)
  clear hb hb2 m c0
  unfold mv
  go_wp2_with fail
  refine (alive_any _).mono ?_
  rintro e w5 ⟨rfl, hb⟩
  have HB5 := Lib.hid (Below.step HB4.out hb)
  have c0 := (N0.out _ hb).all
  clear hb
  go_wp2_with fail
  refine (Cmp_to HO.out.1 HO.out.2 HX.out HY.out N HN.out _).mono ?_
  rintro e w6 ⟨rfl, hb⟩
  have HB6 := Lib.hid (Below.step HB5.out hb)
  have r1 := R1.out
  clear hb c0
  go_wp2_with fail
  go_ret
  exact ⟨rfl, HB6.out⟩

set_option maxRecDepth 100000 in
set_option maxHeartbeats 2000000 in
theorem Times_one_out {o : Int} (ho : 0 ≤ o ∧ o ≤ 255) {x y z : M4} (hx : OkM x) (hy : OkM y) (hz : OkM z) (h : fits x z) (h' : ¬ fits y z) (hi : ¬ inM y x) (w : World) : Calls Try.prog 8 #[.int .u8 o, mv3 x y z] w fun e w' => e = .returned (.bool true) ∧ Below w.heap.size w w' := by
  have HO := Lib.hid ho
  have HX := Lib.hid hx
  have HY := Lib.hid hy
  have HZ := Lib.hid hz
  have HI : Hid (¬ inM y x) := hi
  have E1 : Hid (errM x z = 0) := err_ok h
  obtain ⟨e2, he2⟩ : ∃ e, errM y z = e := ⟨_, rfl⟩
  have E2 := Lib.hid he2
  have E3 : Hid (e2 = 3) := by rw [← he2]; exact err_no h'
  clear ho hx hy hz hi he2 h h'
  obtain ⟨W0, e0, n0, hb0⟩ := box_12 w x y z
  have HB0 := Lib.hid hb0
  have c0 := n0.all
  have N0 := n0.keep
  clear n0 hb0
  unfold mv3
  go_enter Try.func8, Try.ntmps8
  go_wp2_with fail
  clear e0
  refine (Mul_to HX.out HZ.out _ 0 rfl E1.out _).mono ?_
  rintro e w1 ⟨rfl, hb⟩
  obtain ⟨W1, e1, m, hb2, -⟩ := box_new w1 (mulM x z) (T := 24)
  have hb := Below.step hb hb2
  have N0 := (N0.out _ hb).keep
  have c0 := (N0.out _ (Below.refl _ _)).all
  have N1 := m.keep
  have HB1 := Lib.hid (Below.step HB0.out hb)
  clear hb hb2 m
  unfold mv
  go_wp2_with fail
  refine (Mul_to HY.out HZ.out _ e2 rfl E2.out _).mono ?_
  rintro e w2 ⟨rfl, hb⟩
  obtain ⟨W2, e3, m, hb2, -⟩ := box_new w2 (mulM y z) (T := 24)
  have hb := Below.step hb hb2
  have N0 := (N0.out _ hb).keep
  have N1 := (N1.out _ hb).keep
  have N2 := m.keep
  have HB2 := Lib.hid (Below.step HB1.out hb)
  clear hb hb2 m
  unfold mv
  go_upto_region 3 with fail
  rename_i hK0 K1 hK1
  refine wp_region_knownC [(28, true), (29, true), (31, false), (32, false), (33, false), (45, false)] []
    [(0, IsV (.int .u8 (o))), (3, IsV (.pointer (some ⟨w.heap.size, 0, none⟩))), (6, IsV (.int .i64 (0))), (8, IsV (.int .i64 (e2)))]
    [(27, IsV (.int .i64 (0))), (30, IsV (.int .i64 (e2)))]
    68 (by kernel_rfl) rfl (by kernel_rfl) (by kernel_rfl) ⟨rfl, rfl, rfl, rfl, trivial⟩ ⟨IsV.grows _, IsV.grows _, IsV.grows _, IsV.grows _, IsV.grows _, IsV.grows _, trivial⟩ (fun t ht => by cases ht) ?_ ?_
  · refine AllStepC.step rfl (step_move (fun _ _ h => h)) ?_
    refine AllStepC.step rfl (step_eqEk (fun _ _ h => h)  (by rfl) (fun _ => rfl)) ?_
    refine AllStepC.step rfl (step_move (fun _ _ h => h)) ?_
    refine AllStepC.step rfl (step_move (fun _ _ h => h)) ?_
    refine AllStepC.step rfl (step_eqEk (fun _ _ h => h)  (by rw [E3.out]; rfl) (fun _ => rfl)) ?_
    refine AllStepC.step rfl (step_pickT (fun _ _ h => h) (fun _ _ h => h)) ?_
    refine AllStepC.step rfl (step_move (fun _ _ h => h)) ?_
    refine AllStepC.skip rfl rfl ?_
    refine AllStepC.skip rfl rfl ?_
    refine AllStepC.skip rfl rfl ?_
    refine AllStepC.skip rfl rfl ?_
    refine AllStepC.skip rfl rfl ?_
    refine AllStepC.skip rfl rfl ?_
    refine AllStepC.skip rfl rfl ?_
    refine AllStepC.skip rfl rfl ?_
    refine AllStepC.skip rfl rfl ?_
    refine AllStepC.skip rfl rfl ?_
    refine AllStepC.skip rfl rfl ?_
    refine AllStepC.step rfl (step_pickN (fun _ _ h => h) (fun _ => rfl)) ?_
    exact AllStepC.nil
  intro a1 wa hb1 hs1 hd1 hk1
  have HB3 := Lib.hid (Below.step HB2.out hb1)
  have N0 := (N0.out _ hb1).keep
  have c0 := (N0.out _ (Below.refl _ _)).all
  obtain ⟨u, hx⟩ : ∃ u : Nat → Value, ∀ t, a1.eval (.tmp t) = u t := ⟨_, fun _ => rfl⟩
  have ha : a1 = ⟨#[.int .u8 (o), u 1, u 2, .pointer (some ⟨w.heap.size, 0, none⟩), u 4, u 5, .int .i64 (0), u 7, .int .i64 (e2), u 9, u 10, u 11, u 12, u 13, u 14, u 15, u 16, u 17, u 18, u 19, u 20, u 21, u 22, u 23, u 24, u 25, u 26, .int .i64 (0), .bool true, .bool true, .int .i64 (e2), .bool false, .bool false, .bool false, u 34, u 35, u 36, u 37, u 38, u 39, u 40, u 41, u 42, u 43, u 44, .bool false, u 46, u 47, u 48, u 49, u 50, u 51, u 52, u 53, u 54, u 55, u 56, u 57, u 58, u 59, u 60, u 61, u 62, u 63, u 64, u 65, u 66, u 67], []⟩ := act_eq hs1 hd1 ⟨hk1 0, hx 1, hx 2, hk1 3, hx 4, hx 5, hk1 6, hx 7, hk1 8, hx 9, hx 10, hx 11, hx 12, hx 13, hx 14, hx 15, hx 16, hx 17, hx 18, hx 19, hx 20, hx 21, hx 22, hx 23, hx 24, hx 25, hx 26, hk1 27, hk1 28, hk1 29, hk1 30, hk1 31, hk1 32, hk1 33, hx 34, hx 35, hx 36, hx 37, hx 38, hx 39, hx 40, hx 41, hx 42, hx 43, hx 44, hk1 45, hx 46, hx 47, hx 48, hx 49, hx 50, hx 51, hx 52, hx 53, hx 54, hx 55, hx 56, hx 57, hx 58, hx 59, hx 60, hx 61, hx 62, hx 63, hx 64, hx 65, hx 66, hx 67, trivial⟩
  subst ha
  refine hK1 _ _ ?_
  refine wp_cond_false rfl ?_
  refine wp_skip ?_
  refine hK0 _ _ ?_
  clear hx hs1 hd1 hk1 hb1 hK1 hK0 N1 N2
  go_wp2_with fail
  refine (Div_to HX.out HY.out _ false rfl (decide_eq_false HI.out) _).mono ?_
  rintro e w4 ⟨rfl, hb⟩
  obtain ⟨W4, e4, m, hb2, -⟩ := box_new w4 (divM x y) (T := 24)
  have hb := Below.step hb hb2
  have N0 := (N0.out _ hb).keep
  have HB4 := Lib.hid (Below.step HB3.out hb)
  clear hb hb2 m c0
  unfold mv
  go_wp2_with fail
  refine (alive_any _).mono ?_
  rintro e w5 ⟨rfl, hb⟩
  have HB5 := Lib.hid (Below.step HB4.out hb)
  have c0 := (N0.out _ hb).all
  clear hb
  go_wp2_with fail
  go_ret
  exact ⟨rfl, HB5.out⟩

set_option maxRecDepth 100000 in
set_option maxHeartbeats 2000000 in
theorem Times_none_in {o : Int} (ho : 0 ≤ o ∧ o ≤ 255) {x y z : M4} (hx : OkM x) (hy : OkM y) (hz : OkM z) (h : ¬ fits x z) (hi : inM y x) (w : World) : Calls Try.prog 8 #[.int .u8 o, mv3 x y z] w fun e w' => e = .returned (.bool true) ∧ Below w.heap.size w w' := by
  have HO := Lib.hid ho
  have HX := Lib.hid hx
  have HY := Lib.hid hy
  have HZ := Lib.hid hz
  have HI : Hid (inM y x) := hi
  have E1 : Hid (errM x z = 3) := err_no h
  obtain ⟨e2, he2⟩ : ∃ e, errM y z = e := ⟨_, rfl⟩
  have E2 := Lib.hid he2
  obtain ⟨N, hN⟩ : ∃ N, sgn (keyM o x - keyM o y) = N := ⟨_, rfl⟩
  have HN := Lib.hid hN
  have R1 : Hid (0 ≤ N) := by rw [← hN]; exact sgn_nonneg (by have := key_in (o := o) hx hi; omega)
  clear hN
  clear ho hx hy hz hi he2 h
  obtain ⟨W0, e0, n0, hb0⟩ := box_12 w x y z
  have HB0 := Lib.hid hb0
  have c0 := n0.all
  have N0 := n0.keep
  clear n0 hb0
  unfold mv3
  go_enter Try.func8, Try.ntmps8
  go_wp2_with fail
  clear e0
  refine (Mul_to HX.out HZ.out _ 3 rfl E1.out _).mono ?_
  rintro e w1 ⟨rfl, hb⟩
  obtain ⟨W1, e1, m, hb2, -⟩ := box_new w1 (mulM x z) (T := 24)
  have hb := Below.step hb hb2
  have N0 := (N0.out _ hb).keep
  have c0 := (N0.out _ (Below.refl _ _)).all
  have N1 := m.keep
  have HB1 := Lib.hid (Below.step HB0.out hb)
  clear hb hb2 m
  unfold mv
  go_wp2_with fail
  refine (Mul_to HY.out HZ.out _ e2 rfl E2.out _).mono ?_
  rintro e w2 ⟨rfl, hb⟩
  obtain ⟨W2, e3, m, hb2, -⟩ := box_new w2 (mulM y z) (T := 24)
  have hb := Below.step hb hb2
  have N0 := (N0.out _ hb).keep
  have N1 := (N1.out _ hb).keep
  have N2 := m.keep
  have HB2 := Lib.hid (Below.step HB1.out hb)
  clear hb hb2 m
  unfold mv
  go_upto_region 3 with fail
  rename_i hK0 K1 hK1
  refine wp_region_knownC [(28, false), (29, false), (32, false), (33, false), (45, false)] []
    [(0, IsV (.int .u8 (o))), (3, IsV (.pointer (some ⟨w.heap.size, 0, none⟩))), (6, IsV (.int .i64 (3)))]
    [(27, IsV (.int .i64 (3)))]
    68 (by kernel_rfl) rfl (by kernel_rfl) (by kernel_rfl) ⟨rfl, rfl, rfl, trivial⟩ ⟨IsV.grows _, IsV.grows _, IsV.grows _, IsV.grows _, trivial⟩ (fun t ht => by cases ht) ?_ ?_
  · refine AllStepC.step rfl (step_move (fun _ _ h => h)) ?_
    refine AllStepC.step rfl (step_eqEk (fun _ _ h => h)  (by rfl) (fun _ => rfl)) ?_
    refine AllStepC.step rfl (step_move (fun _ _ h => h)) ?_
    refine AllStepC.skip rfl rfl ?_
    refine AllStepC.skip rfl rfl ?_
    refine AllStepC.step rfl (step_pickN (fun _ _ h => h) (fun _ => rfl)) ?_
    refine AllStepC.step rfl (step_move (fun _ _ h => h)) ?_
    refine AllStepC.skip rfl rfl ?_
    refine AllStepC.skip rfl rfl ?_
    refine AllStepC.skip rfl rfl ?_
    refine AllStepC.skip rfl rfl ?_
    refine AllStepC.skip rfl rfl ?_
    refine AllStepC.skip rfl rfl ?_
    refine AllStepC.skip rfl rfl ?_
    refine AllStepC.skip rfl rfl ?_
    refine AllStepC.skip rfl rfl ?_
    refine AllStepC.skip rfl rfl ?_
    refine AllStepC.skip rfl rfl ?_
    refine AllStepC.step rfl (step_pickN (fun _ _ h => h) (fun _ => rfl)) ?_
    exact AllStepC.nil
  intro a1 wa hb1 hs1 hd1 hk1
  have HB3 := Lib.hid (Below.step HB2.out hb1)
  have N0 := (N0.out _ hb1).keep
  have c0 := (N0.out _ (Below.refl _ _)).all
  obtain ⟨u, hx⟩ : ∃ u : Nat → Value, ∀ t, a1.eval (.tmp t) = u t := ⟨_, fun _ => rfl⟩
  have ha : a1 = ⟨#[.int .u8 (o), u 1, u 2, .pointer (some ⟨w.heap.size, 0, none⟩), u 4, u 5, .int .i64 (3), u 7, u 8, u 9, u 10, u 11, u 12, u 13, u 14, u 15, u 16, u 17, u 18, u 19, u 20, u 21, u 22, u 23, u 24, u 25, u 26, .int .i64 (3), .bool false, .bool false, u 30, u 31, .bool false, .bool false, u 34, u 35, u 36, u 37, u 38, u 39, u 40, u 41, u 42, u 43, u 44, .bool false, u 46, u 47, u 48, u 49, u 50, u 51, u 52, u 53, u 54, u 55, u 56, u 57, u 58, u 59, u 60, u 61, u 62, u 63, u 64, u 65, u 66, u 67], []⟩ := act_eq hs1 hd1 ⟨hk1 0, hx 1, hx 2, hk1 3, hx 4, hx 5, hk1 6, hx 7, hx 8, hx 9, hx 10, hx 11, hx 12, hx 13, hx 14, hx 15, hx 16, hx 17, hx 18, hx 19, hx 20, hx 21, hx 22, hx 23, hx 24, hx 25, hx 26, hk1 27, hk1 28, hk1 29, hx 30, hx 31, hk1 32, hk1 33, hx 34, hx 35, hx 36, hx 37, hx 38, hx 39, hx 40, hx 41, hx 42, hx 43, hx 44, hk1 45, hx 46, hx 47, hx 48, hx 49, hx 50, hx 51, hx 52, hx 53, hx 54, hx 55, hx 56, hx 57, hx 58, hx 59, hx 60, hx 61, hx 62, hx 63, hx 64, hx 65, hx 66, hx 67, trivial⟩
  subst ha
  refine hK1 _ _ ?_
  refine wp_cond_false rfl ?_
  refine wp_skip ?_
  refine hK0 _ _ ?_
  clear hx hs1 hd1 hk1 hb1 hK1 hK0 N1 N2
  go_wp2_with fail
  refine (Div_to HX.out HY.out _ true rfl (decide_eq_true HI.out) _).mono ?_
  rintro e w4 ⟨rfl, hb⟩
  obtain ⟨W4, e4, m, hb2, -⟩ := box_new w4 (divM x y) (T := 24)
  have hb := Below.step hb hb2
  have N0 := (N0.out _ hb).keep
  have HB4 := Lib.hid (Below.step HB3.out hb)
  clear hb hb2 m c0
  unfold mv
  go_wp2_with fail
  refine (alive_any _).mono ?_
  rintro e w5 ⟨rfl, hb⟩
  have HB5 := Lib.hid (Below.step HB4.out hb)
  have c0 := (N0.out _ hb).all
  clear hb
  go_wp2_with fail
  refine (Cmp_to HO.out.1 HO.out.2 HX.out HY.out N HN.out _).mono ?_
  rintro e w6 ⟨rfl, hb⟩
  have HB6 := Lib.hid (Below.step HB5.out hb)
  have r1 := R1.out
  clear hb c0
  go_wp2_with fail
  go_ret
  exact ⟨rfl, HB6.out⟩

set_option maxRecDepth 100000 in
set_option maxHeartbeats 2000000 in
theorem Times_none_out {o : Int} (ho : 0 ≤ o ∧ o ≤ 255) {x y z : M4} (hx : OkM x) (hy : OkM y) (hz : OkM z) (h : ¬ fits x z) (hi : ¬ inM y x) (w : World) : Calls Try.prog 8 #[.int .u8 o, mv3 x y z] w fun e w' => e = .returned (.bool true) ∧ Below w.heap.size w w' := by
  have HO := Lib.hid ho
  have HX := Lib.hid hx
  have HY := Lib.hid hy
  have HZ := Lib.hid hz
  have HI : Hid (¬ inM y x) := hi
  have E1 : Hid (errM x z = 3) := err_no h
  obtain ⟨e2, he2⟩ : ∃ e, errM y z = e := ⟨_, rfl⟩
  have E2 := Lib.hid he2
  clear ho hx hy hz hi he2 h
  obtain ⟨W0, e0, n0, hb0⟩ := box_12 w x y z
  have HB0 := Lib.hid hb0
  have c0 := n0.all
  have N0 := n0.keep
  clear n0 hb0
  unfold mv3
  go_enter Try.func8, Try.ntmps8
  go_wp2_with fail
  clear e0
  refine (Mul_to HX.out HZ.out _ 3 rfl E1.out _).mono ?_
  rintro e w1 ⟨rfl, hb⟩
  obtain ⟨W1, e1, m, hb2, -⟩ := box_new w1 (mulM x z) (T := 24)
  have hb := Below.step hb hb2
  have N0 := (N0.out _ hb).keep
  have c0 := (N0.out _ (Below.refl _ _)).all
  have N1 := m.keep
  have HB1 := Lib.hid (Below.step HB0.out hb)
  clear hb hb2 m
  unfold mv
  go_wp2_with fail
  refine (Mul_to HY.out HZ.out _ e2 rfl E2.out _).mono ?_
  rintro e w2 ⟨rfl, hb⟩
  obtain ⟨W2, e3, m, hb2, -⟩ := box_new w2 (mulM y z) (T := 24)
  have hb := Below.step hb hb2
  have N0 := (N0.out _ hb).keep
  have N1 := (N1.out _ hb).keep
  have N2 := m.keep
  have HB2 := Lib.hid (Below.step HB1.out hb)
  clear hb hb2 m
  unfold mv
  go_upto_region 3 with fail
  rename_i hK0 K1 hK1
  refine wp_region_knownC [(28, false), (29, false), (32, false), (33, false), (45, false)] []
    [(0, IsV (.int .u8 (o))), (3, IsV (.pointer (some ⟨w.heap.size, 0, none⟩))), (6, IsV (.int .i64 (3)))]
    [(27, IsV (.int .i64 (3)))]
    68 (by kernel_rfl) rfl (by kernel_rfl) (by kernel_rfl) ⟨rfl, rfl, rfl, trivial⟩ ⟨IsV.grows _, IsV.grows _, IsV.grows _, IsV.grows _, trivial⟩ (fun t ht => by cases ht) ?_ ?_
  · refine AllStepC.step rfl (step_move (fun _ _ h => h)) ?_
    refine AllStepC.step rfl (step_eqEk (fun _ _ h => h)  (by rfl) (fun _ => rfl)) ?_
    refine AllStepC.step rfl (step_move (fun _ _ h => h)) ?_
    refine AllStepC.skip rfl rfl ?_
    refine AllStepC.skip rfl rfl ?_
    refine AllStepC.step rfl (step_pickN (fun _ _ h => h) (fun _ => rfl)) ?_
    refine AllStepC.step rfl (step_move (fun _ _ h => h)) ?_
    refine AllStepC.skip rfl rfl ?_
    refine AllStepC.skip rfl rfl ?_
    refine AllStepC.skip rfl rfl ?_
    refine AllStepC.skip rfl rfl ?_
    refine AllStepC.skip rfl rfl ?_
    refine AllStepC.skip rfl rfl ?_
    refine AllStepC.skip rfl rfl ?_
    refine AllStepC.skip rfl rfl ?_
    refine AllStepC.skip rfl rfl ?_
    refine AllStepC.skip rfl rfl ?_
    refine AllStepC.skip rfl rfl ?_
    refine AllStepC.step rfl (step_pickN (fun _ _ h => h) (fun _ => rfl)) ?_
    exact AllStepC.nil
  intro a1 wa hb1 hs1 hd1 hk1
  have HB3 := Lib.hid (Below.step HB2.out hb1)
  have N0 := (N0.out _ hb1).keep
  have c0 := (N0.out _ (Below.refl _ _)).all
  obtain ⟨u, hx⟩ : ∃ u : Nat → Value, ∀ t, a1.eval (.tmp t) = u t := ⟨_, fun _ => rfl⟩
  have ha : a1 = ⟨#[.int .u8 (o), u 1, u 2, .pointer (some ⟨w.heap.size, 0, none⟩), u 4, u 5, .int .i64 (3), u 7, u 8, u 9, u 10, u 11, u 12, u 13, u 14, u 15, u 16, u 17, u 18, u 19, u 20, u 21, u 22, u 23, u 24, u 25, u 26, .int .i64 (3), .bool false, .bool false, u 30, u 31, .bool false, .bool false, u 34, u 35, u 36, u 37, u 38, u 39, u 40, u 41, u 42, u 43, u 44, .bool false, u 46, u 47, u 48, u 49, u 50, u 51, u 52, u 53, u 54, u 55, u 56, u 57, u 58, u 59, u 60, u 61, u 62, u 63, u 64, u 65, u 66, u 67], []⟩ := act_eq hs1 hd1 ⟨hk1 0, hx 1, hx 2, hk1 3, hx 4, hx 5, hk1 6, hx 7, hx 8, hx 9, hx 10, hx 11, hx 12, hx 13, hx 14, hx 15, hx 16, hx 17, hx 18, hx 19, hx 20, hx 21, hx 22, hx 23, hx 24, hx 25, hx 26, hk1 27, hk1 28, hk1 29, hx 30, hx 31, hk1 32, hk1 33, hx 34, hx 35, hx 36, hx 37, hx 38, hx 39, hx 40, hx 41, hx 42, hx 43, hx 44, hk1 45, hx 46, hx 47, hx 48, hx 49, hx 50, hx 51, hx 52, hx 53, hx 54, hx 55, hx 56, hx 57, hx 58, hx 59, hx 60, hx 61, hx 62, hx 63, hx 64, hx 65, hx 66, hx 67, trivial⟩
  subst ha
  refine hK1 _ _ ?_
  refine wp_cond_false rfl ?_
  refine wp_skip ?_
  refine hK0 _ _ ?_
  clear hx hs1 hd1 hk1 hb1 hK1 hK0 N1 N2
  go_wp2_with fail
  refine (Div_to HX.out HY.out _ false rfl (decide_eq_false HI.out) _).mono ?_
  rintro e w4 ⟨rfl, hb⟩
  obtain ⟨W4, e4, m, hb2, -⟩ := box_new w4 (divM x y) (T := 24)
  have hb := Below.step hb hb2
  have N0 := (N0.out _ hb).keep
  have HB4 := Lib.hid (Below.step HB3.out hb)
  clear hb hb2 m c0
  unfold mv
  go_wp2_with fail
  refine (alive_any _).mono ?_
  rintro e w5 ⟨rfl, hb⟩
  have HB5 := Lib.hid (Below.step HB4.out hb)
  have c0 := (N0.out _ hb).all
  clear hb
  go_wp2_with fail
  go_ret
  exact ⟨rfl, HB5.out⟩

theorem MonosTimes_true (w : World) (o : Int) (ho : 0 ≤ o ∧ o ≤ 255) (x y z : M4) (hx : OkM x) (hy : OkM y) (hz : OkM z) : Calls Try.prog 8 #[.int .u8 o, mv3 x y z] w fun e w' => e = .returned (.bool true) ∧ Below w.heap.size w w' := by
  by_cases hi : inM y x <;> by_cases h : fits x z
  · by_cases h' : fits y z
    · exact Times_both_in ho hx hy hz h h' hi w
    · exact Times_one_in ho hx hy hz h h' hi w
  · exact Times_none_in ho hx hy hz h hi w
  · by_cases h' : fits y z
    · exact Times_both_out ho hx hy hz h h' hi w
    · exact Times_one_out ho hx hy hz h h' hi w
  · exact Times_none_out ho hx hy hz h hi w

end Go.Proofs.Ytikbjjechhdclaa
