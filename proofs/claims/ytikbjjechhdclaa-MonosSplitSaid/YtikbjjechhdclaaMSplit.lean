/- Walk: the law MonosSplit. -/
import Derived.Test.YtikbjjechhdclaaMTail
namespace Go.Proofs.Ytikbjjechhdclaa
open Go.RowKit

set_option maxRecDepth 100000 in
set_option maxHeartbeats 2000000 in
theorem Split_not {x y z : M4} (hx : OkM x) (hy : OkM y) (h : ¬ fits x y) (w : World) : Calls Try.prog 10 #[mv x, mv y, mv z] w fun e w' => e = .returned (.bool true) ∧ Below w.heap.size w w' := by
  have HX := Lib.hid hx
  have HY := Lib.hid hy
  have HF : Hid (¬ fits x y) := h
  clear hx hy h
  obtain ⟨W0, e0, n1, n2, n3, hb0⟩ := box_xyz w x y z
  have HB0 := Lib.hid hb0
  have c1 := n1.c4
  have c2 := n2.c4
  clear n1 n2 n3 hb0
  unfold mv
  go_enter Try.func10, Try.ntmps10
  go_wp2_with fail
  clear e0
  refine (Mul_to HX.out HY.out _ 3 rfl (err_no HF.out) _).mono ?_
  rintro e w1 ⟨rfl, hb⟩
  obtain ⟨W1, e1, m, hb2, -⟩ := box_new w1 (mulM x y) (T := 24)
  have HB1 := Lib.hid (Below.step HB0.out (Below.step hb hb2))
  clear hb hb2 m c1 c2
  unfold mv
  go_wp2_with fail
  refine (alive_any _).mono ?_
  rintro e w2 ⟨rfl, hb⟩
  have HB2 := Lib.hid (Below.step HB1.out hb)
  clear hb
  go_wp2_with fail
  go_ret
  exact ⟨rfl, HB2.out⟩

set_option maxRecDepth 100000 in
set_option maxHeartbeats 2000000 in
theorem Split_both {x y z : M4} (hx : OkM x) (hy : OkM y) (hz : OkM z) (hf : fits x y) (h : inM z x) (h' : inM z y) (w : World) : Calls Try.prog 10 #[mv x, mv y, mv z] w fun e w' => e = .returned (.bool true) ∧ Below w.heap.size w w' := by
  have HX := Lib.hid hx
  have HY := Lib.hid hy
  have HZ := Lib.hid hz
  have HF := Lib.hid hf
  have B3 : Hid (decide (inM z x) = true) := decide_eq_true h
  have B4 : Hid (decide (inM z y) = true) := decide_eq_true h'
  have B5 : Hid (decide (inM z (gcdM x y)) = true) := decide_eq_true (in_gcd.2 ⟨h, h'⟩)
  clear hx hy hz hf h h'
  obtain ⟨W0, e0, n1, n2, n3, hb0⟩ := box_xyz w x y z
  have HB0 := Lib.hid hb0
  have N1 := n1.keep
  have N2 := n2.keep
  have N3 := n3.keep
  have c1 := n1.c4
  have c2 := n2.c4
  have c3 := n3.c4
  clear n1 n2 n3 hb0
  unfold mv
  go_enter Try.func10, Try.ntmps10
  go_wp2_with fail
  clear e0
  refine (Mul_to HX.out HY.out _ 0 rfl (err_ok HF.out) _).mono ?_
  rintro e w1 ⟨rfl, hb⟩
  obtain ⟨W1, e1, m, hb2, -⟩ := box_new w1 (mulM x y) (T := 24)
  have hb := Below.step hb hb2
  clear c1 c2 c3
  have N1 := (N1.out _ hb).keep
  have c1 := (N1.out _ (Below.refl _ _)).c4
  have N2 := (N2.out _ hb).keep
  have c2 := (N2.out _ (Below.refl _ _)).c4
  have N3 := (N3.out _ hb).keep
  have c3 := (N3.out _ (Below.refl _ _)).c4
  have N4 := m.keep
  have c4 := m.c4
  have HB1 := Lib.hid (Below.step HB0.out hb)
  clear hb hb2 m
  unfold mv
  go_upto_region 4 with fail
  rename_i K1 hK1
  refine wp_region_tail [(41, true)]
    [(3, IsV (.pointer (some ⟨w.heap.size, 0, none⟩))), (4, IsV (.pointer (some ⟨(w.heap.size + 1), 0, none⟩))), (5, IsV (.pointer (some ⟨(w.heap.size + 1 + 1), 0, none⟩))), (7, IsV (.pointer (some ⟨w1.heap.size, 0, none⟩))), (6, IsV (.bool false))]
    [(35, IsV (mv (mulM x y))), (36, IsV (mv (x))), (37, IsV (mv (y))), (38, IsV (mv (lcmM x y))), (39, IsV (.tuple #[mv (gcdM x y), .bool true])), (34, IsV (.tuple #[mv (gcdM x y), .bool true])), (40, IsV (mv (gcdM x y))), (9, IsNewM W1.heap.size)]
    [9] 109 9 (by kernel_rfl) rfl (by kernel_rfl) (by kernel_rfl) (by kernel_rfl) (by kernel_rfl) ⟨rfl, rfl, rfl, rfl, rfl, trivial⟩ ⟨IsV.grows _, IsV.grows _, IsV.grows _, IsV.grows _, IsV.grows _, IsV.grows _, IsV.grows _, IsV.grows _, IsV.grows _, IsV.grows _, IsV.grows _, IsV.grows _, IsNewM.grows _, trivial⟩ ?_ (fun d _ _ _ _ h => by cases d <;> exact h) ?_ ?_
  · refine AllStep2.step rfl rfl (step_loadM (o := 0) (fun _ _ h => h) (fun W hb => (N4.out W hb).c4) (fun _ => rfl)) ?_
    refine AllStep2.step rfl rfl (step_loadM (o := 0) (fun _ _ h => h) (fun W hb => (N1.out W hb).c4) (fun _ => rfl)) ?_
    refine AllStep2.step rfl rfl (step_loadM (o := 0) (fun _ _ h => h) (fun W hb => (N2.out W hb).c4) (fun _ => rfl)) ?_
    refine AllStep2.step rfl rfl (step_call2 (Plain.of Try.func15 rfl rfl) (fun _ _ h => h) (fun _ _ h => h) (fun w => Lcm_any HX.out HY.out w) (fun _ => rfl)) ?_
    refine AllStep2.step rfl rfl (step_call2 (Plain.of Try.func12 rfl rfl) (fun _ _ h => h) (fun _ _ h => h) (fun w => Div_to (OkM.mul x y) (OkM.lcm HX.out HY.out) (gcdM x y) true (split_gcd HF.out) (decide_eq_true (lcm_in_mul HF.out)) w) (fun _ => rfl)) ?_
    refine AllStep2.quiet rfl (pure_move (fun _ _ h => h)) ?_
    refine AllStep2.quiet rfl (pure_extract (fun _ _ h => h) rfl (fun _ => rfl)) ?_
    refine AllStep2.quiet rfl (pure_extract (fun _ _ h => h) rfl (fun _ => rfl)) ?_
    refine AllStep2.fresh rfl rfl (alloc_M (fun _ _ h => h)) ?_
    exact AllStep2.nil
  · intro t ht v w hk
    simp only [List.mem_cons, List.not_mem_nil, or_false] at ht
    subst ht
    exact IsNewM.lt (show IsNewM W1.heap.size v w from hk)
  intro a1 wa hb1 hs1 hd1 hk1 _
  obtain ⟨b9, q9, l9, m9⟩ : IsNewM W1.heap.size (a1.eval (.tmp 9)) wa := hk1 9 (by kernel_rfl)
  have q40 : a1.eval (.tmp 40) = mv (gcdM x y) := hk1 40 (by kernel_rfl)
  have q41 : a1.eval (.tmp 41) = .bool true := hk1 41 (by kernel_rfl)
  refine wpOps_step (i := 9) (rest := [10]) rfl rfl ?_
  refine wp_store_M q9 q40 m9 ?_
  obtain ⟨W5, e5, n5, b5, hl5⟩ : ∃ W5, ((((wa.setCell ⟨b9, 0, none⟩ (.int .u16 (gcdM x y).a)).setCell ⟨b9, 1, none⟩ (.int .u16 (gcdM x y).b)).setCell ⟨b9, 2, none⟩ (.int .u16 (gcdM x y).c)).setCell ⟨b9, 3, none⟩ (.int .u16 (gcdM x y).d)) = W5 ∧ BoxV W5 b9 (m4 (gcdM x y)) ∧ Below W1.heap.size W1 W5 ∧ b9 < W5.heap.size :=
    ⟨_, rfl, m9.four _ _ _ _, below_four hb1 l9 _ _ _ _, BoxV.lt (m9.four _ _ _ _)⟩
  rw [e5]
  refine wpOps_step (i := 10) (rest := []) rfl rfl ?_
  refine wp_assign ?_
  have HB2 := Lib.hid (Below.step HB1.out b5)
  have N1 := (N1.out _ b5).keep
  have N2 := (N2.out _ b5).keep
  have N3 := (N3.out _ b5).keep
  have N4 := (N4.out _ b5).keep
  have N5 := n5.keep
  have c1 := (N1.out _ (Below.refl _ _)).c4
  have c2 := (N2.out _ (Below.refl _ _)).c4
  have c3 := (N3.out _ (Below.refl _ _)).c4
  have c4 := (N4.out _ (Below.refl _ _)).c4
  have c5 := n5.c4
  obtain ⟨u, hx⟩ : ∃ u : Nat → Value, ∀ t, (a1.put (some 10) (a1.eval (.tmp 41))).eval (.tmp t) = u t := ⟨_, fun _ => rfl⟩
  have f10 : (a1.put (some 10) (a1.eval (.tmp 41))).eval (.tmp 10) = .bool true := by
    rw [eval_put (by rw [hs1]; decide), if_pos rfl, q41]
  have hs2 : (a1.put (some 10) (a1.eval (.tmp 41))).tmps.size = 109 := by
    show (a1.tmps.setIfInBounds 10 _).size = 109
    rw [Array.size_setIfInBounds]; exact hs1
  have f3 : (a1.put (some 10) (a1.eval (.tmp 41))).eval (.tmp 3) = .pointer (some ⟨w.heap.size, 0, none⟩) := (eval_put' (by simp)).trans (hk1 3 (by kernel_rfl))
  have f4 : (a1.put (some 10) (a1.eval (.tmp 41))).eval (.tmp 4) = .pointer (some ⟨w.heap.size + 1, 0, none⟩) := (eval_put' (by simp)).trans (hk1 4 (by kernel_rfl))
  have f5 : (a1.put (some 10) (a1.eval (.tmp 41))).eval (.tmp 5) = .pointer (some ⟨w.heap.size + 1 + 1, 0, none⟩) := (eval_put' (by simp)).trans (hk1 5 (by kernel_rfl))
  have f7 : (a1.put (some 10) (a1.eval (.tmp 41))).eval (.tmp 7) = .pointer (some ⟨w1.heap.size, 0, none⟩) := (eval_put' (by simp)).trans (hk1 7 (by kernel_rfl))
  have f6 : (a1.put (some 10) (a1.eval (.tmp 41))).eval (.tmp 6) = .bool false := (eval_put' (by simp)).trans (hk1 6 (by kernel_rfl))
  have f9 : (a1.put (some 10) (a1.eval (.tmp 41))).eval (.tmp 9) = .pointer (some ⟨b9, 0, none⟩) := (eval_put' (by simp)).trans q9
  refine hK1 _ _ ?_
  have ha : a1.put (some 10) (a1.eval (.tmp 41)) = ⟨#[u 0, u 1, u 2, .pointer (some ⟨w.heap.size, 0, none⟩), .pointer (some ⟨w.heap.size + 1, 0, none⟩), .pointer (some ⟨w.heap.size + 1 + 1, 0, none⟩), .bool false, .pointer (some ⟨w1.heap.size, 0, none⟩), u 8, .pointer (some ⟨b9, 0, none⟩), .bool true, u 11, u 12, u 13, u 14, u 15, u 16, u 17, u 18, u 19, u 20, u 21, u 22, u 23, u 24, u 25, u 26, u 27, u 28, u 29, u 30, u 31, u 32, u 33, u 34, u 35, u 36, u 37, u 38, u 39, u 40, u 41, u 42, u 43, u 44, u 45, u 46, u 47, u 48, u 49, u 50, u 51, u 52, u 53, u 54, u 55, u 56, u 57, u 58, u 59, u 60, u 61, u 62, u 63, u 64, u 65, u 66, u 67, u 68, u 69, u 70, u 71, u 72, u 73, u 74, u 75, u 76, u 77, u 78, u 79, u 80, u 81, u 82, u 83, u 84, u 85, u 86, u 87, u 88, u 89, u 90, u 91, u 92, u 93, u 94, u 95, u 96, u 97, u 98, u 99, u 100, u 101, u 102, u 103, u 104, u 105, u 106, u 107, u 108], []⟩ := act_eq hs2 hd1 ⟨hx 0, hx 1, hx 2, f3, f4, f5, f6, f7, hx 8, f9, f10, hx 11, hx 12, hx 13, hx 14, hx 15, hx 16, hx 17, hx 18, hx 19, hx 20, hx 21, hx 22, hx 23, hx 24, hx 25, hx 26, hx 27, hx 28, hx 29, hx 30, hx 31, hx 32, hx 33, hx 34, hx 35, hx 36, hx 37, hx 38, hx 39, hx 40, hx 41, hx 42, hx 43, hx 44, hx 45, hx 46, hx 47, hx 48, hx 49, hx 50, hx 51, hx 52, hx 53, hx 54, hx 55, hx 56, hx 57, hx 58, hx 59, hx 60, hx 61, hx 62, hx 63, hx 64, hx 65, hx 66, hx 67, hx 68, hx 69, hx 70, hx 71, hx 72, hx 73, hx 74, hx 75, hx 76, hx 77, hx 78, hx 79, hx 80, hx 81, hx 82, hx 83, hx 84, hx 85, hx 86, hx 87, hx 88, hx 89, hx 90, hx 91, hx 92, hx 93, hx 94, hx 95, hx 96, hx 97, hx 98, hx 99, hx 100, hx 101, hx 102, hx 103, hx 104, hx 105, hx 106, hx 107, hx 108, trivial⟩
  rw [ha]
  clear ha f3 f4 f5 f6 f7 f9 f10 hs2 hx hk1 hs1 hd1 q9 q40 q41 e5 n5 b5 hb1 hK1 m9
  go_wp2_with fail
  refine (Div_to HX.out (OkM.gcd HX.out) _ true rfl (decide_eq_true (gcd_in_left x y)) _).mono ?_
  rintro e w3 ⟨rfl, hb⟩
  obtain ⟨W3, e3, m, hb2, -⟩ := box_new w3 (divM x (gcdM x y)) (T := 24)
  have hb := Below.step hb hb2
  clear c1 c2 c3 c4 c5
  have N1 := (N1.out _ hb).keep
  have c1 := (N1.out _ (Below.refl _ _)).c4
  have N2 := (N2.out _ hb).keep
  have c2 := (N2.out _ (Below.refl _ _)).c4
  have N3 := (N3.out _ hb).keep
  have c3 := (N3.out _ (Below.refl _ _)).c4
  have N4 := (N4.out _ hb).keep
  have c4 := (N4.out _ (Below.refl _ _)).c4
  have N5 := (N5.out _ hb).keep
  have c5 := (N5.out _ (Below.refl _ _)).c4
  have N6 := m.keep
  have c6 := m.c4
  have HB3 := Lib.hid (Below.step HB2.out hb)
  clear hb hb2 m
  unfold mv
  go_wp2_with fail
  refine (Div_to HY.out (OkM.gcd HX.out) _ true rfl (decide_eq_true (gcd_in_right x y)) _).mono ?_
  rintro e w4 ⟨rfl, hb⟩
  obtain ⟨W4, e4, m, hb2, -⟩ := box_new w4 (divM y (gcdM x y)) (T := 24)
  have hb := Below.step hb hb2
  clear c1 c2 c3 c4 c5 c6
  have N1 := (N1.out _ hb).keep
  have c1 := (N1.out _ (Below.refl _ _)).c4
  have N2 := (N2.out _ hb).keep
  have c2 := (N2.out _ (Below.refl _ _)).c4
  have N3 := (N3.out _ hb).keep
  have c3 := (N3.out _ (Below.refl _ _)).c4
  have N4 := (N4.out _ hb).keep
  have c4 := (N4.out _ (Below.refl _ _)).c4
  have N5 := (N5.out _ hb).keep
  have c5 := (N5.out _ (Below.refl _ _)).c4
  have N6 := (N6.out _ hb).keep
  have c6 := (N6.out _ (Below.refl _ _)).c4
  have N7 := m.keep
  have c7 := m.c4
  have HB4 := Lib.hid (Below.step HB3.out hb)
  clear hb hb2 m
  unfold mv
  go_wp2_with fail
  refine (Div_to HX.out HZ.out _ true rfl B3.out _).mono ?_
  rintro e w5 ⟨rfl, hb⟩
  obtain ⟨W5, e5, m, hb2, -⟩ := box_new w5 (divM x z) (T := 24)
  have hb := Below.step hb hb2
  clear c1 c2 c3 c4 c5 c6 c7
  have N1 := (N1.out _ hb).keep
  have c1 := (N1.out _ (Below.refl _ _)).c4
  have N2 := (N2.out _ hb).keep
  have c2 := (N2.out _ (Below.refl _ _)).c4
  have N3 := (N3.out _ hb).keep
  have c3 := (N3.out _ (Below.refl _ _)).c4
  have N4 := (N4.out _ hb).keep
  have c4 := (N4.out _ (Below.refl _ _)).c4
  have N5 := (N5.out _ hb).keep
  have c5 := (N5.out _ (Below.refl _ _)).c4
  have N6 := (N6.out _ hb).keep
  have c6 := (N6.out _ (Below.refl _ _)).c4
  have N7 := (N7.out _ hb).keep
  have c7 := (N7.out _ (Below.refl _ _)).c4
  have N8 := m.keep
  have c8 := m.c4
  have HB5 := Lib.hid (Below.step HB4.out hb)
  clear hb hb2 m
  unfold mv
  go_wp2_with fail
  refine (Div_to HY.out HZ.out _ true rfl B4.out _).mono ?_
  rintro e w6 ⟨rfl, hb⟩
  obtain ⟨W6, e6, m, hb2, -⟩ := box_new w6 (divM y z) (T := 24)
  have hb := Below.step hb hb2
  clear c1 c2 c3 c4 c5 c6 c7 c8
  have N1 := (N1.out _ hb).keep
  have c1 := (N1.out _ (Below.refl _ _)).c4
  have N2 := (N2.out _ hb).keep
  have c2 := (N2.out _ (Below.refl _ _)).c4
  have N3 := (N3.out _ hb).keep
  have c3 := (N3.out _ (Below.refl _ _)).c4
  have N4 := (N4.out _ hb).keep
  have c4 := (N4.out _ (Below.refl _ _)).c4
  have N5 := (N5.out _ hb).keep
  have c5 := (N5.out _ (Below.refl _ _)).c4
  have N6 := (N6.out _ hb).keep
  have c6 := (N6.out _ (Below.refl _ _)).c4
  have N7 := (N7.out _ hb).keep
  have c7 := (N7.out _ (Below.refl _ _)).c4
  have N8 := (N8.out _ hb).keep
  have c8 := (N8.out _ (Below.refl _ _)).c4
  have N9 := m.keep
  have c9 := m.c4
  have HB6 := Lib.hid (Below.step HB5.out hb)
  clear hb hb2 m
  unfold mv
  go_wp2_with fail
  refine (Div_to (OkM.gcd HX.out) HZ.out _ true rfl B5.out _).mono ?_
  rintro e w7 ⟨rfl, hb⟩
  obtain ⟨W7, e7, m, hb2, -⟩ := box_new w7 (divM (gcdM x y) z) (T := 24)
  have hb := Below.step hb hb2
  clear c1 c2 c3 c4 c5 c6 c7 c8 c9
  have N1 := (N1.out _ hb).keep
  have c1 := (N1.out _ (Below.refl _ _)).c4
  have N2 := (N2.out _ hb).keep
  have c2 := (N2.out _ (Below.refl _ _)).c4
  have N3 := (N3.out _ hb).keep
  have c3 := (N3.out _ (Below.refl _ _)).c4
  have N4 := (N4.out _ hb).keep
  have c4 := (N4.out _ (Below.refl _ _)).c4
  have N5 := (N5.out _ hb).keep
  have c5 := (N5.out _ (Below.refl _ _)).c4
  have N6 := (N6.out _ hb).keep
  have c6 := (N6.out _ (Below.refl _ _)).c4
  have N7 := (N7.out _ hb).keep
  have c7 := (N7.out _ (Below.refl _ _)).c4
  have N8 := (N8.out _ hb).keep
  have c8 := (N8.out _ (Below.refl _ _)).c4
  have N9 := (N9.out _ hb).keep
  have c9 := (N9.out _ (Below.refl _ _)).c4
  have N10 := m.keep
  have c10 := m.c4
  have HB7 := Lib.hid (Below.step HB6.out hb)
  clear hb hb2 m
  unfold mv
  go_upto_region 10 with fail
  rename_i K9 hK9
  refine wp_region_knownC [(6, true), (72, true), (73, true), (74, true), (75, true), (76, true), (77, true), (78, true), (79, true), (80, true), (81, true), (82, true), (83, true), (84, true), (85, true), (86, true), (87, true), (88, true), (89, true), (90, true), (95, true), (96, true), (97, true), (107, true), (108, true)] []
    [(10, IsV (.bool true)), (12, IsV (.bool true)), (14, IsV (.bool true)), (20, IsV (.bool true)), (16, IsV (.bool true)), (18, IsV (.bool true)), (3, IsV (.pointer (some ⟨w.heap.size, 0, none⟩))), (9, IsV (.pointer (some ⟨b9, 0, none⟩))), (4, IsV (.pointer (some ⟨(w.heap.size + 1), 0, none⟩))), (7, IsV (.pointer (some ⟨w1.heap.size, 0, none⟩)))]
    [(91, IsV (mv (x))), (92, IsV (mv (gcdM x y))), (93, IsV (mv (lcmM (x) (gcdM x y)))), (94, IsV (mv (x))), (98, IsV (mv (gcdM x y))), (99, IsV (.int .i64 ((degM (gcdM x y) : Int)))), (100, IsV (mv (x))), (101, IsV (mv (y))), (102, IsV (mv (lcmM (x) (y)))), (103, IsV (.int .i64 ((degM (lcmM (x) (y)) : Int)))), (104, IsV (.int .i64 (((degM (gcdM x y) : Int)) + ((degM (lcmM (x) (y)) : Int))))), (105, IsV (mv (mulM x y))), (106, IsV (.int .i64 ((degM (mulM x y) : Int))))]
    109 (by kernel_rfl) rfl (by kernel_rfl) (by kernel_rfl) ⟨rfl, rfl, rfl, rfl, rfl, rfl, rfl, rfl, rfl, rfl, trivial⟩ ⟨IsV.grows _, IsV.grows _, IsV.grows _, IsV.grows _, IsV.grows _, IsV.grows _, IsV.grows _, IsV.grows _, IsV.grows _, IsV.grows _, IsV.grows _, IsV.grows _, IsV.grows _, IsV.grows _, IsV.grows _, IsV.grows _, IsV.grows _, IsV.grows _, IsV.grows _, IsV.grows _, IsV.grows _, IsV.grows _, IsV.grows _, trivial⟩ (fun t ht => by cases ht) ?_ ?_
  · refine AllStepC.step rfl (step_call0 (Plain.of Try.func21 rfl rfl) (fun w => alive_any w) (fun _ => rfl)) ?_
    refine AllStepC.step rfl (step_move (fun _ _ h => h)) ?_
    refine AllStepC.step rfl (step_moveB (fun _ _ h => h) (fun _ => rfl)) ?_
    refine AllStepC.step rfl (step_pickT (fun _ _ h => h) (fun _ _ h => h)) ?_
    refine AllStepC.step rfl (step_move (fun _ _ h => h)) ?_
    refine AllStepC.step rfl (step_moveB (fun _ _ h => h) (fun _ => rfl)) ?_
    refine AllStepC.step rfl (step_pickT (fun _ _ h => h) (fun _ _ h => h)) ?_
    refine AllStepC.step rfl (step_move (fun _ _ h => h)) ?_
    refine AllStepC.step rfl (step_moveB (fun _ _ h => h) (fun _ => rfl)) ?_
    refine AllStepC.step rfl (step_pickT (fun _ _ h => h) (fun _ _ h => h)) ?_
    refine AllStepC.step rfl (step_move (fun _ _ h => h)) ?_
    refine AllStepC.step rfl (step_moveB (fun _ _ h => h) (fun _ => rfl)) ?_
    refine AllStepC.step rfl (step_moveB (fun _ _ h => h) (fun _ => rfl)) ?_
    refine AllStepC.step rfl (step_move (fun _ _ h => h)) ?_
    refine AllStepC.step rfl (step_moveB (fun _ _ h => h) (fun _ => rfl)) ?_
    refine AllStepC.step rfl (step_pickT (fun _ _ h => h) (fun _ _ h => h)) ?_
    refine AllStepC.step rfl (step_eqB (fun _ _ h => h) (fun _ _ h => h) (by rfl) (fun _ => rfl)) ?_
    refine AllStepC.step rfl (step_pickT (fun _ _ h => h) (fun _ _ h => h)) ?_
    refine AllStepC.step rfl (step_move (fun _ _ h => h)) ?_
    refine AllStepC.step rfl (step_loadM (o := 0) (fun _ _ h => h) (fun W hb => (N1.out W hb).c4) (fun _ => rfl)) ?_
    refine AllStepC.step rfl (step_loadM (o := 0) (fun _ _ h => h) (fun W hb => (N5.out W hb).c4) (fun _ => rfl)) ?_
    refine AllStepC.step rfl (step_call2 (Plain.of Try.func15 rfl rfl) (fun _ _ h => h) (fun _ _ h => h) (fun w => Lcm_any HX.out (OkM.gcd HX.out) w) (fun _ => rfl)) ?_
    refine AllStepC.step rfl (step_loadM (o := 0) (fun _ _ h => h) (fun W hb => (N1.out W hb).c4) (fun _ => rfl)) ?_
    refine AllStepC.step rfl (step_eqM (fun _ _ h => h) (fun _ _ h => h) (eqM_iff.2 (lcm_of_in (gcd_in_left x y))) (fun _ => rfl)) ?_
    refine AllStepC.step rfl (step_pickT (fun _ _ h => h) (fun _ _ h => h)) ?_
    refine AllStepC.step rfl (step_move (fun _ _ h => h)) ?_
    refine AllStepC.step rfl (step_loadM (o := 0) (fun _ _ h => h) (fun W hb => (N5.out W hb).c4) (fun _ => rfl)) ?_
    refine AllStepC.step rfl (step_call1 (Plain.of Try.func17 rfl rfl) (fun _ _ h => h) (fun w => Degree_any (OkM.gcd HX.out) w) (fun _ => rfl)) ?_
    refine AllStepC.step rfl (step_loadM (o := 0) (fun _ _ h => h) (fun W hb => (N1.out W hb).c4) (fun _ => rfl)) ?_
    refine AllStepC.step rfl (step_loadM (o := 0) (fun _ _ h => h) (fun W hb => (N2.out W hb).c4) (fun _ => rfl)) ?_
    refine AllStepC.step rfl (step_call2 (Plain.of Try.func15 rfl rfl) (fun _ _ h => h) (fun _ _ h => h) (fun w => Lcm_any HX.out HY.out w) (fun _ => rfl)) ?_
    refine AllStepC.step rfl (step_call1 (Plain.of Try.func17 rfl rfl) (fun _ _ h => h) (fun w => Degree_any (OkM.lcm HX.out HY.out) w) (fun _ => rfl)) ?_
    refine AllStepC.step rfl (step_add (fun _ _ h => h) (fun _ _ h => h) (IntWalk.i64_in _ (by obtain ⟨h1, h2, h3, h4⟩ := OkM.gcd (y := y) HX.out; obtain ⟨g1, g2, g3, g4⟩ := OkM.lcm HX.out HY.out; unfold degM; omega)) (fun _ => rfl)) ?_
    refine AllStepC.step rfl (step_loadM (o := 0) (fun _ _ h => h) (fun W hb => (N4.out W hb).c4) (fun _ => rfl)) ?_
    refine AllStepC.step rfl (step_call1 (Plain.of Try.func17 rfl rfl) (fun _ _ h => h) (fun w => Degree_any (OkM.mul x y) w) (fun _ => rfl)) ?_
    refine AllStepC.step rfl (step_eqI (fun _ _ h => h) (fun _ _ h => h) (by rw [beq_iff_eq, ← deg_split HF.out]; simp) (fun _ => rfl)) ?_
    refine AllStepC.step rfl (step_pickT (fun _ _ h => h) (fun _ _ h => h)) ?_
    refine AllStepC.step rfl (step_assign (fun _ _ h => h)) ?_
    exact AllStepC.nil
  intro a9 w9 hb9 hs9 hd9 hk9
  refine hK9 _ _ ?_
  refine wp_ret ?_
  exact ret_slot (t := 6) rfl hd9 (hk9 6) ⟨rfl, Below.step HB7.out hb9⟩

set_option maxRecDepth 100000 in
set_option maxHeartbeats 2000000 in
theorem Split_one {x y z : M4} (hx : OkM x) (hy : OkM y) (hz : OkM z) (hf : fits x y) (h : inM z x) (h' : ¬ inM z y) (w : World) : Calls Try.prog 10 #[mv x, mv y, mv z] w fun e w' => e = .returned (.bool true) ∧ Below w.heap.size w w' := by
  have HX := Lib.hid hx
  have HY := Lib.hid hy
  have HZ := Lib.hid hz
  have HF := Lib.hid hf
  have B3 : Hid (decide (inM z x) = true) := decide_eq_true h
  have B4 : Hid (decide (inM z y) = false) := decide_eq_false h'
  have B5 : Hid (decide (inM z (gcdM x y)) = false) := decide_eq_false (fun e => h' (in_gcd.1 e).2)
  clear hx hy hz hf h h'
  obtain ⟨W0, e0, n1, n2, n3, hb0⟩ := box_xyz w x y z
  have HB0 := Lib.hid hb0
  have N1 := n1.keep
  have N2 := n2.keep
  have N3 := n3.keep
  have c1 := n1.c4
  have c2 := n2.c4
  have c3 := n3.c4
  clear n1 n2 n3 hb0
  unfold mv
  go_enter Try.func10, Try.ntmps10
  go_wp2_with fail
  clear e0
  refine (Mul_to HX.out HY.out _ 0 rfl (err_ok HF.out) _).mono ?_
  rintro e w1 ⟨rfl, hb⟩
  obtain ⟨W1, e1, m, hb2, -⟩ := box_new w1 (mulM x y) (T := 24)
  have hb := Below.step hb hb2
  clear c1 c2 c3
  have N1 := (N1.out _ hb).keep
  have c1 := (N1.out _ (Below.refl _ _)).c4
  have N2 := (N2.out _ hb).keep
  have c2 := (N2.out _ (Below.refl _ _)).c4
  have N3 := (N3.out _ hb).keep
  have c3 := (N3.out _ (Below.refl _ _)).c4
  have N4 := m.keep
  have c4 := m.c4
  have HB1 := Lib.hid (Below.step HB0.out hb)
  clear hb hb2 m
  unfold mv
  go_upto_region 4 with fail
  rename_i K1 hK1
  refine wp_region_tail [(41, true)]
    [(3, IsV (.pointer (some ⟨w.heap.size, 0, none⟩))), (4, IsV (.pointer (some ⟨(w.heap.size + 1), 0, none⟩))), (5, IsV (.pointer (some ⟨(w.heap.size + 1 + 1), 0, none⟩))), (7, IsV (.pointer (some ⟨w1.heap.size, 0, none⟩))), (6, IsV (.bool false))]
    [(35, IsV (mv (mulM x y))), (36, IsV (mv (x))), (37, IsV (mv (y))), (38, IsV (mv (lcmM x y))), (39, IsV (.tuple #[mv (gcdM x y), .bool true])), (34, IsV (.tuple #[mv (gcdM x y), .bool true])), (40, IsV (mv (gcdM x y))), (9, IsNewM W1.heap.size)]
    [9] 109 9 (by kernel_rfl) rfl (by kernel_rfl) (by kernel_rfl) (by kernel_rfl) (by kernel_rfl) ⟨rfl, rfl, rfl, rfl, rfl, trivial⟩ ⟨IsV.grows _, IsV.grows _, IsV.grows _, IsV.grows _, IsV.grows _, IsV.grows _, IsV.grows _, IsV.grows _, IsV.grows _, IsV.grows _, IsV.grows _, IsV.grows _, IsNewM.grows _, trivial⟩ ?_ (fun d _ _ _ _ h => by cases d <;> exact h) ?_ ?_
  · refine AllStep2.step rfl rfl (step_loadM (o := 0) (fun _ _ h => h) (fun W hb => (N4.out W hb).c4) (fun _ => rfl)) ?_
    refine AllStep2.step rfl rfl (step_loadM (o := 0) (fun _ _ h => h) (fun W hb => (N1.out W hb).c4) (fun _ => rfl)) ?_
    refine AllStep2.step rfl rfl (step_loadM (o := 0) (fun _ _ h => h) (fun W hb => (N2.out W hb).c4) (fun _ => rfl)) ?_
    refine AllStep2.step rfl rfl (step_call2 (Plain.of Try.func15 rfl rfl) (fun _ _ h => h) (fun _ _ h => h) (fun w => Lcm_any HX.out HY.out w) (fun _ => rfl)) ?_
    refine AllStep2.step rfl rfl (step_call2 (Plain.of Try.func12 rfl rfl) (fun _ _ h => h) (fun _ _ h => h) (fun w => Div_to (OkM.mul x y) (OkM.lcm HX.out HY.out) (gcdM x y) true (split_gcd HF.out) (decide_eq_true (lcm_in_mul HF.out)) w) (fun _ => rfl)) ?_
    refine AllStep2.quiet rfl (pure_move (fun _ _ h => h)) ?_
    refine AllStep2.quiet rfl (pure_extract (fun _ _ h => h) rfl (fun _ => rfl)) ?_
    refine AllStep2.quiet rfl (pure_extract (fun _ _ h => h) rfl (fun _ => rfl)) ?_
    refine AllStep2.fresh rfl rfl (alloc_M (fun _ _ h => h)) ?_
    exact AllStep2.nil
  · intro t ht v w hk
    simp only [List.mem_cons, List.not_mem_nil, or_false] at ht
    subst ht
    exact IsNewM.lt (show IsNewM W1.heap.size v w from hk)
  intro a1 wa hb1 hs1 hd1 hk1 _
  obtain ⟨b9, q9, l9, m9⟩ : IsNewM W1.heap.size (a1.eval (.tmp 9)) wa := hk1 9 (by kernel_rfl)
  have q40 : a1.eval (.tmp 40) = mv (gcdM x y) := hk1 40 (by kernel_rfl)
  have q41 : a1.eval (.tmp 41) = .bool true := hk1 41 (by kernel_rfl)
  refine wpOps_step (i := 9) (rest := [10]) rfl rfl ?_
  refine wp_store_M q9 q40 m9 ?_
  obtain ⟨W5, e5, n5, b5, hl5⟩ : ∃ W5, ((((wa.setCell ⟨b9, 0, none⟩ (.int .u16 (gcdM x y).a)).setCell ⟨b9, 1, none⟩ (.int .u16 (gcdM x y).b)).setCell ⟨b9, 2, none⟩ (.int .u16 (gcdM x y).c)).setCell ⟨b9, 3, none⟩ (.int .u16 (gcdM x y).d)) = W5 ∧ BoxV W5 b9 (m4 (gcdM x y)) ∧ Below W1.heap.size W1 W5 ∧ b9 < W5.heap.size :=
    ⟨_, rfl, m9.four _ _ _ _, below_four hb1 l9 _ _ _ _, BoxV.lt (m9.four _ _ _ _)⟩
  rw [e5]
  refine wpOps_step (i := 10) (rest := []) rfl rfl ?_
  refine wp_assign ?_
  have HB2 := Lib.hid (Below.step HB1.out b5)
  have N1 := (N1.out _ b5).keep
  have N2 := (N2.out _ b5).keep
  have N3 := (N3.out _ b5).keep
  have N4 := (N4.out _ b5).keep
  have N5 := n5.keep
  have c1 := (N1.out _ (Below.refl _ _)).c4
  have c2 := (N2.out _ (Below.refl _ _)).c4
  have c3 := (N3.out _ (Below.refl _ _)).c4
  have c4 := (N4.out _ (Below.refl _ _)).c4
  have c5 := n5.c4
  obtain ⟨u, hx⟩ : ∃ u : Nat → Value, ∀ t, (a1.put (some 10) (a1.eval (.tmp 41))).eval (.tmp t) = u t := ⟨_, fun _ => rfl⟩
  have f10 : (a1.put (some 10) (a1.eval (.tmp 41))).eval (.tmp 10) = .bool true := by
    rw [eval_put (by rw [hs1]; decide), if_pos rfl, q41]
  have hs2 : (a1.put (some 10) (a1.eval (.tmp 41))).tmps.size = 109 := by
    show (a1.tmps.setIfInBounds 10 _).size = 109
    rw [Array.size_setIfInBounds]; exact hs1
  have f3 : (a1.put (some 10) (a1.eval (.tmp 41))).eval (.tmp 3) = .pointer (some ⟨w.heap.size, 0, none⟩) := (eval_put' (by simp)).trans (hk1 3 (by kernel_rfl))
  have f4 : (a1.put (some 10) (a1.eval (.tmp 41))).eval (.tmp 4) = .pointer (some ⟨w.heap.size + 1, 0, none⟩) := (eval_put' (by simp)).trans (hk1 4 (by kernel_rfl))
  have f5 : (a1.put (some 10) (a1.eval (.tmp 41))).eval (.tmp 5) = .pointer (some ⟨w.heap.size + 1 + 1, 0, none⟩) := (eval_put' (by simp)).trans (hk1 5 (by kernel_rfl))
  have f7 : (a1.put (some 10) (a1.eval (.tmp 41))).eval (.tmp 7) = .pointer (some ⟨w1.heap.size, 0, none⟩) := (eval_put' (by simp)).trans (hk1 7 (by kernel_rfl))
  have f6 : (a1.put (some 10) (a1.eval (.tmp 41))).eval (.tmp 6) = .bool false := (eval_put' (by simp)).trans (hk1 6 (by kernel_rfl))
  have f9 : (a1.put (some 10) (a1.eval (.tmp 41))).eval (.tmp 9) = .pointer (some ⟨b9, 0, none⟩) := (eval_put' (by simp)).trans q9
  refine hK1 _ _ ?_
  have ha : a1.put (some 10) (a1.eval (.tmp 41)) = ⟨#[u 0, u 1, u 2, .pointer (some ⟨w.heap.size, 0, none⟩), .pointer (some ⟨w.heap.size + 1, 0, none⟩), .pointer (some ⟨w.heap.size + 1 + 1, 0, none⟩), .bool false, .pointer (some ⟨w1.heap.size, 0, none⟩), u 8, .pointer (some ⟨b9, 0, none⟩), .bool true, u 11, u 12, u 13, u 14, u 15, u 16, u 17, u 18, u 19, u 20, u 21, u 22, u 23, u 24, u 25, u 26, u 27, u 28, u 29, u 30, u 31, u 32, u 33, u 34, u 35, u 36, u 37, u 38, u 39, u 40, u 41, u 42, u 43, u 44, u 45, u 46, u 47, u 48, u 49, u 50, u 51, u 52, u 53, u 54, u 55, u 56, u 57, u 58, u 59, u 60, u 61, u 62, u 63, u 64, u 65, u 66, u 67, u 68, u 69, u 70, u 71, u 72, u 73, u 74, u 75, u 76, u 77, u 78, u 79, u 80, u 81, u 82, u 83, u 84, u 85, u 86, u 87, u 88, u 89, u 90, u 91, u 92, u 93, u 94, u 95, u 96, u 97, u 98, u 99, u 100, u 101, u 102, u 103, u 104, u 105, u 106, u 107, u 108], []⟩ := act_eq hs2 hd1 ⟨hx 0, hx 1, hx 2, f3, f4, f5, f6, f7, hx 8, f9, f10, hx 11, hx 12, hx 13, hx 14, hx 15, hx 16, hx 17, hx 18, hx 19, hx 20, hx 21, hx 22, hx 23, hx 24, hx 25, hx 26, hx 27, hx 28, hx 29, hx 30, hx 31, hx 32, hx 33, hx 34, hx 35, hx 36, hx 37, hx 38, hx 39, hx 40, hx 41, hx 42, hx 43, hx 44, hx 45, hx 46, hx 47, hx 48, hx 49, hx 50, hx 51, hx 52, hx 53, hx 54, hx 55, hx 56, hx 57, hx 58, hx 59, hx 60, hx 61, hx 62, hx 63, hx 64, hx 65, hx 66, hx 67, hx 68, hx 69, hx 70, hx 71, hx 72, hx 73, hx 74, hx 75, hx 76, hx 77, hx 78, hx 79, hx 80, hx 81, hx 82, hx 83, hx 84, hx 85, hx 86, hx 87, hx 88, hx 89, hx 90, hx 91, hx 92, hx 93, hx 94, hx 95, hx 96, hx 97, hx 98, hx 99, hx 100, hx 101, hx 102, hx 103, hx 104, hx 105, hx 106, hx 107, hx 108, trivial⟩
  rw [ha]
  clear ha f3 f4 f5 f6 f7 f9 f10 hs2 hx hk1 hs1 hd1 q9 q40 q41 e5 n5 b5 hb1 hK1 m9
  go_wp2_with fail
  refine (Div_to HX.out (OkM.gcd HX.out) _ true rfl (decide_eq_true (gcd_in_left x y)) _).mono ?_
  rintro e w3 ⟨rfl, hb⟩
  obtain ⟨W3, e3, m, hb2, -⟩ := box_new w3 (divM x (gcdM x y)) (T := 24)
  have hb := Below.step hb hb2
  clear c1 c2 c3 c4 c5
  have N1 := (N1.out _ hb).keep
  have c1 := (N1.out _ (Below.refl _ _)).c4
  have N2 := (N2.out _ hb).keep
  have c2 := (N2.out _ (Below.refl _ _)).c4
  have N3 := (N3.out _ hb).keep
  have c3 := (N3.out _ (Below.refl _ _)).c4
  have N4 := (N4.out _ hb).keep
  have c4 := (N4.out _ (Below.refl _ _)).c4
  have N5 := (N5.out _ hb).keep
  have c5 := (N5.out _ (Below.refl _ _)).c4
  have N6 := m.keep
  have c6 := m.c4
  have HB3 := Lib.hid (Below.step HB2.out hb)
  clear hb hb2 m
  unfold mv
  go_wp2_with fail
  refine (Div_to HY.out (OkM.gcd HX.out) _ true rfl (decide_eq_true (gcd_in_right x y)) _).mono ?_
  rintro e w4 ⟨rfl, hb⟩
  obtain ⟨W4, e4, m, hb2, -⟩ := box_new w4 (divM y (gcdM x y)) (T := 24)
  have hb := Below.step hb hb2
  clear c1 c2 c3 c4 c5 c6
  have N1 := (N1.out _ hb).keep
  have c1 := (N1.out _ (Below.refl _ _)).c4
  have N2 := (N2.out _ hb).keep
  have c2 := (N2.out _ (Below.refl _ _)).c4
  have N3 := (N3.out _ hb).keep
  have c3 := (N3.out _ (Below.refl _ _)).c4
  have N4 := (N4.out _ hb).keep
  have c4 := (N4.out _ (Below.refl _ _)).c4
  have N5 := (N5.out _ hb).keep
  have c5 := (N5.out _ (Below.refl _ _)).c4
  have N6 := (N6.out _ hb).keep
  have c6 := (N6.out _ (Below.refl _ _)).c4
  have N7 := m.keep
  have c7 := m.c4
  have HB4 := Lib.hid (Below.step HB3.out hb)
  clear hb hb2 m
  unfold mv
  go_wp2_with fail
  refine (Div_to HX.out HZ.out _ true rfl B3.out _).mono ?_
  rintro e w5 ⟨rfl, hb⟩
  obtain ⟨W5, e5, m, hb2, -⟩ := box_new w5 (divM x z) (T := 24)
  have hb := Below.step hb hb2
  clear c1 c2 c3 c4 c5 c6 c7
  have N1 := (N1.out _ hb).keep
  have c1 := (N1.out _ (Below.refl _ _)).c4
  have N2 := (N2.out _ hb).keep
  have c2 := (N2.out _ (Below.refl _ _)).c4
  have N3 := (N3.out _ hb).keep
  have c3 := (N3.out _ (Below.refl _ _)).c4
  have N4 := (N4.out _ hb).keep
  have c4 := (N4.out _ (Below.refl _ _)).c4
  have N5 := (N5.out _ hb).keep
  have c5 := (N5.out _ (Below.refl _ _)).c4
  have N6 := (N6.out _ hb).keep
  have c6 := (N6.out _ (Below.refl _ _)).c4
  have N7 := (N7.out _ hb).keep
  have c7 := (N7.out _ (Below.refl _ _)).c4
  have N8 := m.keep
  have c8 := m.c4
  have HB5 := Lib.hid (Below.step HB4.out hb)
  clear hb hb2 m
  unfold mv
  go_wp2_with fail
  refine (Div_to HY.out HZ.out _ false rfl B4.out _).mono ?_
  rintro e w6 ⟨rfl, hb⟩
  obtain ⟨W6, e6, m, hb2, -⟩ := box_new w6 (divM y z) (T := 24)
  have hb := Below.step hb hb2
  clear c1 c2 c3 c4 c5 c6 c7 c8
  have N1 := (N1.out _ hb).keep
  have c1 := (N1.out _ (Below.refl _ _)).c4
  have N2 := (N2.out _ hb).keep
  have c2 := (N2.out _ (Below.refl _ _)).c4
  have N3 := (N3.out _ hb).keep
  have c3 := (N3.out _ (Below.refl _ _)).c4
  have N4 := (N4.out _ hb).keep
  have c4 := (N4.out _ (Below.refl _ _)).c4
  have N5 := (N5.out _ hb).keep
  have c5 := (N5.out _ (Below.refl _ _)).c4
  have N6 := (N6.out _ hb).keep
  have c6 := (N6.out _ (Below.refl _ _)).c4
  have N7 := (N7.out _ hb).keep
  have c7 := (N7.out _ (Below.refl _ _)).c4
  have N8 := (N8.out _ hb).keep
  have c8 := (N8.out _ (Below.refl _ _)).c4
  have N9 := m.keep
  have c9 := m.c4
  have HB6 := Lib.hid (Below.step HB5.out hb)
  clear hb hb2 m
  unfold mv
  go_wp2_with fail
  refine (Div_to (OkM.gcd HX.out) HZ.out _ false rfl B5.out _).mono ?_
  rintro e w7 ⟨rfl, hb⟩
  obtain ⟨W7, e7, m, hb2, -⟩ := box_new w7 (divM (gcdM x y) z) (T := 24)
  have hb := Below.step hb hb2
  clear c1 c2 c3 c4 c5 c6 c7 c8 c9
  have N1 := (N1.out _ hb).keep
  have c1 := (N1.out _ (Below.refl _ _)).c4
  have N2 := (N2.out _ hb).keep
  have c2 := (N2.out _ (Below.refl _ _)).c4
  have N3 := (N3.out _ hb).keep
  have c3 := (N3.out _ (Below.refl _ _)).c4
  have N4 := (N4.out _ hb).keep
  have c4 := (N4.out _ (Below.refl _ _)).c4
  have N5 := (N5.out _ hb).keep
  have c5 := (N5.out _ (Below.refl _ _)).c4
  have N6 := (N6.out _ hb).keep
  have c6 := (N6.out _ (Below.refl _ _)).c4
  have N7 := (N7.out _ hb).keep
  have c7 := (N7.out _ (Below.refl _ _)).c4
  have N8 := (N8.out _ hb).keep
  have c8 := (N8.out _ (Below.refl _ _)).c4
  have N9 := (N9.out _ hb).keep
  have c9 := (N9.out _ (Below.refl _ _)).c4
  have N10 := m.keep
  have c10 := m.c4
  have HB7 := Lib.hid (Below.step HB6.out hb)
  clear hb hb2 m
  unfold mv
  go_upto_region 10 with fail
  rename_i K9 hK9
  refine wp_region_knownC [(6, true), (72, true), (73, true), (74, true), (75, true), (76, true), (77, true), (78, true), (79, true), (80, true), (81, true), (82, true), (83, false), (84, true), (85, true), (86, false), (87, false), (88, true), (89, true), (90, true), (95, true), (96, true), (97, true), (107, true), (108, true)] []
    [(10, IsV (.bool true)), (12, IsV (.bool true)), (14, IsV (.bool true)), (20, IsV (.bool false)), (16, IsV (.bool true)), (18, IsV (.bool false)), (3, IsV (.pointer (some ⟨w.heap.size, 0, none⟩))), (9, IsV (.pointer (some ⟨b9, 0, none⟩))), (4, IsV (.pointer (some ⟨(w.heap.size + 1), 0, none⟩))), (7, IsV (.pointer (some ⟨w1.heap.size, 0, none⟩)))]
    [(91, IsV (mv (x))), (92, IsV (mv (gcdM x y))), (93, IsV (mv (lcmM (x) (gcdM x y)))), (94, IsV (mv (x))), (98, IsV (mv (gcdM x y))), (99, IsV (.int .i64 ((degM (gcdM x y) : Int)))), (100, IsV (mv (x))), (101, IsV (mv (y))), (102, IsV (mv (lcmM (x) (y)))), (103, IsV (.int .i64 ((degM (lcmM (x) (y)) : Int)))), (104, IsV (.int .i64 (((degM (gcdM x y) : Int)) + ((degM (lcmM (x) (y)) : Int))))), (105, IsV (mv (mulM x y))), (106, IsV (.int .i64 ((degM (mulM x y) : Int))))]
    109 (by kernel_rfl) rfl (by kernel_rfl) (by kernel_rfl) ⟨rfl, rfl, rfl, rfl, rfl, rfl, rfl, rfl, rfl, rfl, trivial⟩ ⟨IsV.grows _, IsV.grows _, IsV.grows _, IsV.grows _, IsV.grows _, IsV.grows _, IsV.grows _, IsV.grows _, IsV.grows _, IsV.grows _, IsV.grows _, IsV.grows _, IsV.grows _, IsV.grows _, IsV.grows _, IsV.grows _, IsV.grows _, IsV.grows _, IsV.grows _, IsV.grows _, IsV.grows _, IsV.grows _, IsV.grows _, trivial⟩ (fun t ht => by cases ht) ?_ ?_
  · refine AllStepC.step rfl (step_call0 (Plain.of Try.func21 rfl rfl) (fun w => alive_any w) (fun _ => rfl)) ?_
    refine AllStepC.step rfl (step_move (fun _ _ h => h)) ?_
    refine AllStepC.step rfl (step_moveB (fun _ _ h => h) (fun _ => rfl)) ?_
    refine AllStepC.step rfl (step_pickT (fun _ _ h => h) (fun _ _ h => h)) ?_
    refine AllStepC.step rfl (step_move (fun _ _ h => h)) ?_
    refine AllStepC.step rfl (step_moveB (fun _ _ h => h) (fun _ => rfl)) ?_
    refine AllStepC.step rfl (step_pickT (fun _ _ h => h) (fun _ _ h => h)) ?_
    refine AllStepC.step rfl (step_move (fun _ _ h => h)) ?_
    refine AllStepC.step rfl (step_moveB (fun _ _ h => h) (fun _ => rfl)) ?_
    refine AllStepC.step rfl (step_pickT (fun _ _ h => h) (fun _ _ h => h)) ?_
    refine AllStepC.step rfl (step_move (fun _ _ h => h)) ?_
    refine AllStepC.step rfl (step_moveB (fun _ _ h => h) (fun _ => rfl)) ?_
    refine AllStepC.step rfl (step_moveB (fun _ _ h => h) (fun _ => rfl)) ?_
    refine AllStepC.step rfl (step_move (fun _ _ h => h)) ?_
    refine AllStepC.step rfl (step_moveB (fun _ _ h => h) (fun _ => rfl)) ?_
    refine AllStepC.step rfl (step_pickT (fun _ _ h => h) (fun _ _ h => h)) ?_
    refine AllStepC.step rfl (step_eqB (fun _ _ h => h) (fun _ _ h => h) (by rfl) (fun _ => rfl)) ?_
    refine AllStepC.step rfl (step_pickT (fun _ _ h => h) (fun _ _ h => h)) ?_
    refine AllStepC.step rfl (step_move (fun _ _ h => h)) ?_
    refine AllStepC.step rfl (step_loadM (o := 0) (fun _ _ h => h) (fun W hb => (N1.out W hb).c4) (fun _ => rfl)) ?_
    refine AllStepC.step rfl (step_loadM (o := 0) (fun _ _ h => h) (fun W hb => (N5.out W hb).c4) (fun _ => rfl)) ?_
    refine AllStepC.step rfl (step_call2 (Plain.of Try.func15 rfl rfl) (fun _ _ h => h) (fun _ _ h => h) (fun w => Lcm_any HX.out (OkM.gcd HX.out) w) (fun _ => rfl)) ?_
    refine AllStepC.step rfl (step_loadM (o := 0) (fun _ _ h => h) (fun W hb => (N1.out W hb).c4) (fun _ => rfl)) ?_
    refine AllStepC.step rfl (step_eqM (fun _ _ h => h) (fun _ _ h => h) (eqM_iff.2 (lcm_of_in (gcd_in_left x y))) (fun _ => rfl)) ?_
    refine AllStepC.step rfl (step_pickT (fun _ _ h => h) (fun _ _ h => h)) ?_
    refine AllStepC.step rfl (step_move (fun _ _ h => h)) ?_
    refine AllStepC.step rfl (step_loadM (o := 0) (fun _ _ h => h) (fun W hb => (N5.out W hb).c4) (fun _ => rfl)) ?_
    refine AllStepC.step rfl (step_call1 (Plain.of Try.func17 rfl rfl) (fun _ _ h => h) (fun w => Degree_any (OkM.gcd HX.out) w) (fun _ => rfl)) ?_
    refine AllStepC.step rfl (step_loadM (o := 0) (fun _ _ h => h) (fun W hb => (N1.out W hb).c4) (fun _ => rfl)) ?_
    refine AllStepC.step rfl (step_loadM (o := 0) (fun _ _ h => h) (fun W hb => (N2.out W hb).c4) (fun _ => rfl)) ?_
    refine AllStepC.step rfl (step_call2 (Plain.of Try.func15 rfl rfl) (fun _ _ h => h) (fun _ _ h => h) (fun w => Lcm_any HX.out HY.out w) (fun _ => rfl)) ?_
    refine AllStepC.step rfl (step_call1 (Plain.of Try.func17 rfl rfl) (fun _ _ h => h) (fun w => Degree_any (OkM.lcm HX.out HY.out) w) (fun _ => rfl)) ?_
    refine AllStepC.step rfl (step_add (fun _ _ h => h) (fun _ _ h => h) (IntWalk.i64_in _ (by obtain ⟨h1, h2, h3, h4⟩ := OkM.gcd (y := y) HX.out; obtain ⟨g1, g2, g3, g4⟩ := OkM.lcm HX.out HY.out; unfold degM; omega)) (fun _ => rfl)) ?_
    refine AllStepC.step rfl (step_loadM (o := 0) (fun _ _ h => h) (fun W hb => (N4.out W hb).c4) (fun _ => rfl)) ?_
    refine AllStepC.step rfl (step_call1 (Plain.of Try.func17 rfl rfl) (fun _ _ h => h) (fun w => Degree_any (OkM.mul x y) w) (fun _ => rfl)) ?_
    refine AllStepC.step rfl (step_eqI (fun _ _ h => h) (fun _ _ h => h) (by rw [beq_iff_eq, ← deg_split HF.out]; simp) (fun _ => rfl)) ?_
    refine AllStepC.step rfl (step_pickT (fun _ _ h => h) (fun _ _ h => h)) ?_
    refine AllStepC.step rfl (step_assign (fun _ _ h => h)) ?_
    exact AllStepC.nil
  intro a9 w9 hb9 hs9 hd9 hk9
  refine hK9 _ _ ?_
  refine wp_ret ?_
  exact ret_slot (t := 6) rfl hd9 (hk9 6) ⟨rfl, Below.step HB7.out hb9⟩

set_option maxRecDepth 100000 in
set_option maxHeartbeats 2000000 in
theorem Split_none {x y z : M4} (hx : OkM x) (hy : OkM y) (hz : OkM z) (hf : fits x y) (h : ¬ inM z x) (w : World) : Calls Try.prog 10 #[mv x, mv y, mv z] w fun e w' => e = .returned (.bool true) ∧ Below w.heap.size w w' := by
  have HX := Lib.hid hx
  have HY := Lib.hid hy
  have HZ := Lib.hid hz
  have HF := Lib.hid hf
  have B3 : Hid (decide (inM z x) = false) := decide_eq_false h
  have B5 : Hid (decide (inM z (gcdM x y)) = false) := decide_eq_false (fun e => h (in_gcd.1 e).1)
  clear hx hy hz hf h
  obtain ⟨W0, e0, n1, n2, n3, hb0⟩ := box_xyz w x y z
  have HB0 := Lib.hid hb0
  have N1 := n1.keep
  have N2 := n2.keep
  have N3 := n3.keep
  have c1 := n1.c4
  have c2 := n2.c4
  have c3 := n3.c4
  clear n1 n2 n3 hb0
  unfold mv
  go_enter Try.func10, Try.ntmps10
  go_wp2_with fail
  clear e0
  refine (Mul_to HX.out HY.out _ 0 rfl (err_ok HF.out) _).mono ?_
  rintro e w1 ⟨rfl, hb⟩
  obtain ⟨W1, e1, m, hb2, -⟩ := box_new w1 (mulM x y) (T := 24)
  have hb := Below.step hb hb2
  clear c1 c2 c3
  have N1 := (N1.out _ hb).keep
  have c1 := (N1.out _ (Below.refl _ _)).c4
  have N2 := (N2.out _ hb).keep
  have c2 := (N2.out _ (Below.refl _ _)).c4
  have N3 := (N3.out _ hb).keep
  have c3 := (N3.out _ (Below.refl _ _)).c4
  have N4 := m.keep
  have c4 := m.c4
  have HB1 := Lib.hid (Below.step HB0.out hb)
  clear hb hb2 m
  unfold mv
  go_upto_region 4 with fail
  rename_i K1 hK1
  refine wp_region_tail [(41, true)]
    [(3, IsV (.pointer (some ⟨w.heap.size, 0, none⟩))), (4, IsV (.pointer (some ⟨(w.heap.size + 1), 0, none⟩))), (5, IsV (.pointer (some ⟨(w.heap.size + 1 + 1), 0, none⟩))), (7, IsV (.pointer (some ⟨w1.heap.size, 0, none⟩))), (6, IsV (.bool false))]
    [(35, IsV (mv (mulM x y))), (36, IsV (mv (x))), (37, IsV (mv (y))), (38, IsV (mv (lcmM x y))), (39, IsV (.tuple #[mv (gcdM x y), .bool true])), (34, IsV (.tuple #[mv (gcdM x y), .bool true])), (40, IsV (mv (gcdM x y))), (9, IsNewM W1.heap.size)]
    [9] 109 9 (by kernel_rfl) rfl (by kernel_rfl) (by kernel_rfl) (by kernel_rfl) (by kernel_rfl) ⟨rfl, rfl, rfl, rfl, rfl, trivial⟩ ⟨IsV.grows _, IsV.grows _, IsV.grows _, IsV.grows _, IsV.grows _, IsV.grows _, IsV.grows _, IsV.grows _, IsV.grows _, IsV.grows _, IsV.grows _, IsV.grows _, IsNewM.grows _, trivial⟩ ?_ (fun d _ _ _ _ h => by cases d <;> exact h) ?_ ?_
  · refine AllStep2.step rfl rfl (step_loadM (o := 0) (fun _ _ h => h) (fun W hb => (N4.out W hb).c4) (fun _ => rfl)) ?_
    refine AllStep2.step rfl rfl (step_loadM (o := 0) (fun _ _ h => h) (fun W hb => (N1.out W hb).c4) (fun _ => rfl)) ?_
    refine AllStep2.step rfl rfl (step_loadM (o := 0) (fun _ _ h => h) (fun W hb => (N2.out W hb).c4) (fun _ => rfl)) ?_
    refine AllStep2.step rfl rfl (step_call2 (Plain.of Try.func15 rfl rfl) (fun _ _ h => h) (fun _ _ h => h) (fun w => Lcm_any HX.out HY.out w) (fun _ => rfl)) ?_
    refine AllStep2.step rfl rfl (step_call2 (Plain.of Try.func12 rfl rfl) (fun _ _ h => h) (fun _ _ h => h) (fun w => Div_to (OkM.mul x y) (OkM.lcm HX.out HY.out) (gcdM x y) true (split_gcd HF.out) (decide_eq_true (lcm_in_mul HF.out)) w) (fun _ => rfl)) ?_
    refine AllStep2.quiet rfl (pure_move (fun _ _ h => h)) ?_
    refine AllStep2.quiet rfl (pure_extract (fun _ _ h => h) rfl (fun _ => rfl)) ?_
    refine AllStep2.quiet rfl (pure_extract (fun _ _ h => h) rfl (fun _ => rfl)) ?_
    refine AllStep2.fresh rfl rfl (alloc_M (fun _ _ h => h)) ?_
    exact AllStep2.nil
  · intro t ht v w hk
    simp only [List.mem_cons, List.not_mem_nil, or_false] at ht
    subst ht
    exact IsNewM.lt (show IsNewM W1.heap.size v w from hk)
  intro a1 wa hb1 hs1 hd1 hk1 _
  obtain ⟨b9, q9, l9, m9⟩ : IsNewM W1.heap.size (a1.eval (.tmp 9)) wa := hk1 9 (by kernel_rfl)
  have q40 : a1.eval (.tmp 40) = mv (gcdM x y) := hk1 40 (by kernel_rfl)
  have q41 : a1.eval (.tmp 41) = .bool true := hk1 41 (by kernel_rfl)
  refine wpOps_step (i := 9) (rest := [10]) rfl rfl ?_
  refine wp_store_M q9 q40 m9 ?_
  obtain ⟨W5, e5, n5, b5, hl5⟩ : ∃ W5, ((((wa.setCell ⟨b9, 0, none⟩ (.int .u16 (gcdM x y).a)).setCell ⟨b9, 1, none⟩ (.int .u16 (gcdM x y).b)).setCell ⟨b9, 2, none⟩ (.int .u16 (gcdM x y).c)).setCell ⟨b9, 3, none⟩ (.int .u16 (gcdM x y).d)) = W5 ∧ BoxV W5 b9 (m4 (gcdM x y)) ∧ Below W1.heap.size W1 W5 ∧ b9 < W5.heap.size :=
    ⟨_, rfl, m9.four _ _ _ _, below_four hb1 l9 _ _ _ _, BoxV.lt (m9.four _ _ _ _)⟩
  rw [e5]
  refine wpOps_step (i := 10) (rest := []) rfl rfl ?_
  refine wp_assign ?_
  have HB2 := Lib.hid (Below.step HB1.out b5)
  have N1 := (N1.out _ b5).keep
  have N2 := (N2.out _ b5).keep
  have N3 := (N3.out _ b5).keep
  have N4 := (N4.out _ b5).keep
  have N5 := n5.keep
  have c1 := (N1.out _ (Below.refl _ _)).c4
  have c2 := (N2.out _ (Below.refl _ _)).c4
  have c3 := (N3.out _ (Below.refl _ _)).c4
  have c4 := (N4.out _ (Below.refl _ _)).c4
  have c5 := n5.c4
  obtain ⟨u, hx⟩ : ∃ u : Nat → Value, ∀ t, (a1.put (some 10) (a1.eval (.tmp 41))).eval (.tmp t) = u t := ⟨_, fun _ => rfl⟩
  have f10 : (a1.put (some 10) (a1.eval (.tmp 41))).eval (.tmp 10) = .bool true := by
    rw [eval_put (by rw [hs1]; decide), if_pos rfl, q41]
  have hs2 : (a1.put (some 10) (a1.eval (.tmp 41))).tmps.size = 109 := by
    show (a1.tmps.setIfInBounds 10 _).size = 109
    rw [Array.size_setIfInBounds]; exact hs1
  have f3 : (a1.put (some 10) (a1.eval (.tmp 41))).eval (.tmp 3) = .pointer (some ⟨w.heap.size, 0, none⟩) := (eval_put' (by simp)).trans (hk1 3 (by kernel_rfl))
  have f4 : (a1.put (some 10) (a1.eval (.tmp 41))).eval (.tmp 4) = .pointer (some ⟨w.heap.size + 1, 0, none⟩) := (eval_put' (by simp)).trans (hk1 4 (by kernel_rfl))
  have f5 : (a1.put (some 10) (a1.eval (.tmp 41))).eval (.tmp 5) = .pointer (some ⟨w.heap.size + 1 + 1, 0, none⟩) := (eval_put' (by simp)).trans (hk1 5 (by kernel_rfl))
  have f7 : (a1.put (some 10) (a1.eval (.tmp 41))).eval (.tmp 7) = .pointer (some ⟨w1.heap.size, 0, none⟩) := (eval_put' (by simp)).trans (hk1 7 (by kernel_rfl))
  have f6 : (a1.put (some 10) (a1.eval (.tmp 41))).eval (.tmp 6) = .bool false := (eval_put' (by simp)).trans (hk1 6 (by kernel_rfl))
  have f9 : (a1.put (some 10) (a1.eval (.tmp 41))).eval (.tmp 9) = .pointer (some ⟨b9, 0, none⟩) := (eval_put' (by simp)).trans q9
  refine hK1 _ _ ?_
  have ha : a1.put (some 10) (a1.eval (.tmp 41)) = ⟨#[u 0, u 1, u 2, .pointer (some ⟨w.heap.size, 0, none⟩), .pointer (some ⟨w.heap.size + 1, 0, none⟩), .pointer (some ⟨w.heap.size + 1 + 1, 0, none⟩), .bool false, .pointer (some ⟨w1.heap.size, 0, none⟩), u 8, .pointer (some ⟨b9, 0, none⟩), .bool true, u 11, u 12, u 13, u 14, u 15, u 16, u 17, u 18, u 19, u 20, u 21, u 22, u 23, u 24, u 25, u 26, u 27, u 28, u 29, u 30, u 31, u 32, u 33, u 34, u 35, u 36, u 37, u 38, u 39, u 40, u 41, u 42, u 43, u 44, u 45, u 46, u 47, u 48, u 49, u 50, u 51, u 52, u 53, u 54, u 55, u 56, u 57, u 58, u 59, u 60, u 61, u 62, u 63, u 64, u 65, u 66, u 67, u 68, u 69, u 70, u 71, u 72, u 73, u 74, u 75, u 76, u 77, u 78, u 79, u 80, u 81, u 82, u 83, u 84, u 85, u 86, u 87, u 88, u 89, u 90, u 91, u 92, u 93, u 94, u 95, u 96, u 97, u 98, u 99, u 100, u 101, u 102, u 103, u 104, u 105, u 106, u 107, u 108], []⟩ := act_eq hs2 hd1 ⟨hx 0, hx 1, hx 2, f3, f4, f5, f6, f7, hx 8, f9, f10, hx 11, hx 12, hx 13, hx 14, hx 15, hx 16, hx 17, hx 18, hx 19, hx 20, hx 21, hx 22, hx 23, hx 24, hx 25, hx 26, hx 27, hx 28, hx 29, hx 30, hx 31, hx 32, hx 33, hx 34, hx 35, hx 36, hx 37, hx 38, hx 39, hx 40, hx 41, hx 42, hx 43, hx 44, hx 45, hx 46, hx 47, hx 48, hx 49, hx 50, hx 51, hx 52, hx 53, hx 54, hx 55, hx 56, hx 57, hx 58, hx 59, hx 60, hx 61, hx 62, hx 63, hx 64, hx 65, hx 66, hx 67, hx 68, hx 69, hx 70, hx 71, hx 72, hx 73, hx 74, hx 75, hx 76, hx 77, hx 78, hx 79, hx 80, hx 81, hx 82, hx 83, hx 84, hx 85, hx 86, hx 87, hx 88, hx 89, hx 90, hx 91, hx 92, hx 93, hx 94, hx 95, hx 96, hx 97, hx 98, hx 99, hx 100, hx 101, hx 102, hx 103, hx 104, hx 105, hx 106, hx 107, hx 108, trivial⟩
  rw [ha]
  clear ha f3 f4 f5 f6 f7 f9 f10 hs2 hx hk1 hs1 hd1 q9 q40 q41 e5 n5 b5 hb1 hK1 m9
  go_wp2_with fail
  refine (Div_to HX.out (OkM.gcd HX.out) _ true rfl (decide_eq_true (gcd_in_left x y)) _).mono ?_
  rintro e w3 ⟨rfl, hb⟩
  obtain ⟨W3, e3, m, hb2, -⟩ := box_new w3 (divM x (gcdM x y)) (T := 24)
  have hb := Below.step hb hb2
  clear c1 c2 c3 c4 c5
  have N1 := (N1.out _ hb).keep
  have c1 := (N1.out _ (Below.refl _ _)).c4
  have N2 := (N2.out _ hb).keep
  have c2 := (N2.out _ (Below.refl _ _)).c4
  have N3 := (N3.out _ hb).keep
  have c3 := (N3.out _ (Below.refl _ _)).c4
  have N4 := (N4.out _ hb).keep
  have c4 := (N4.out _ (Below.refl _ _)).c4
  have N5 := (N5.out _ hb).keep
  have c5 := (N5.out _ (Below.refl _ _)).c4
  have N6 := m.keep
  have c6 := m.c4
  have HB3 := Lib.hid (Below.step HB2.out hb)
  clear hb hb2 m
  unfold mv
  go_wp2_with fail
  refine (Div_to HY.out (OkM.gcd HX.out) _ true rfl (decide_eq_true (gcd_in_right x y)) _).mono ?_
  rintro e w4 ⟨rfl, hb⟩
  obtain ⟨W4, e4, m, hb2, -⟩ := box_new w4 (divM y (gcdM x y)) (T := 24)
  have hb := Below.step hb hb2
  clear c1 c2 c3 c4 c5 c6
  have N1 := (N1.out _ hb).keep
  have c1 := (N1.out _ (Below.refl _ _)).c4
  have N2 := (N2.out _ hb).keep
  have c2 := (N2.out _ (Below.refl _ _)).c4
  have N3 := (N3.out _ hb).keep
  have c3 := (N3.out _ (Below.refl _ _)).c4
  have N4 := (N4.out _ hb).keep
  have c4 := (N4.out _ (Below.refl _ _)).c4
  have N5 := (N5.out _ hb).keep
  have c5 := (N5.out _ (Below.refl _ _)).c4
  have N6 := (N6.out _ hb).keep
  have c6 := (N6.out _ (Below.refl _ _)).c4
  have N7 := m.keep
  have c7 := m.c4
  have HB4 := Lib.hid (Below.step HB3.out hb)
  clear hb hb2 m
  unfold mv
  go_wp2_with fail
  refine (Div_to HX.out HZ.out _ false rfl B3.out _).mono ?_
  rintro e w5 ⟨rfl, hb⟩
  obtain ⟨W5, e5, m, hb2, -⟩ := box_new w5 (divM x z) (T := 24)
  have hb := Below.step hb hb2
  clear c1 c2 c3 c4 c5 c6 c7
  have N1 := (N1.out _ hb).keep
  have c1 := (N1.out _ (Below.refl _ _)).c4
  have N2 := (N2.out _ hb).keep
  have c2 := (N2.out _ (Below.refl _ _)).c4
  have N3 := (N3.out _ hb).keep
  have c3 := (N3.out _ (Below.refl _ _)).c4
  have N4 := (N4.out _ hb).keep
  have c4 := (N4.out _ (Below.refl _ _)).c4
  have N5 := (N5.out _ hb).keep
  have c5 := (N5.out _ (Below.refl _ _)).c4
  have N6 := (N6.out _ hb).keep
  have c6 := (N6.out _ (Below.refl _ _)).c4
  have N7 := (N7.out _ hb).keep
  have c7 := (N7.out _ (Below.refl _ _)).c4
  have N8 := m.keep
  have c8 := m.c4
  have HB5 := Lib.hid (Below.step HB4.out hb)
  clear hb hb2 m
  unfold mv
  go_wp2_with fail
  refine (Div_to HY.out HZ.out _ (decide (inM z y)) rfl rfl _).mono ?_
  rintro e w6 ⟨rfl, hb⟩
  obtain ⟨W6, e6, m, hb2, -⟩ := box_new w6 (divM y z) (T := 24)
  have hb := Below.step hb hb2
  clear c1 c2 c3 c4 c5 c6 c7 c8
  have N1 := (N1.out _ hb).keep
  have c1 := (N1.out _ (Below.refl _ _)).c4
  have N2 := (N2.out _ hb).keep
  have c2 := (N2.out _ (Below.refl _ _)).c4
  have N3 := (N3.out _ hb).keep
  have c3 := (N3.out _ (Below.refl _ _)).c4
  have N4 := (N4.out _ hb).keep
  have c4 := (N4.out _ (Below.refl _ _)).c4
  have N5 := (N5.out _ hb).keep
  have c5 := (N5.out _ (Below.refl _ _)).c4
  have N6 := (N6.out _ hb).keep
  have c6 := (N6.out _ (Below.refl _ _)).c4
  have N7 := (N7.out _ hb).keep
  have c7 := (N7.out _ (Below.refl _ _)).c4
  have N8 := (N8.out _ hb).keep
  have c8 := (N8.out _ (Below.refl _ _)).c4
  have N9 := m.keep
  have c9 := m.c4
  have HB6 := Lib.hid (Below.step HB5.out hb)
  clear hb hb2 m
  unfold mv
  go_wp2_with fail
  refine (Div_to (OkM.gcd HX.out) HZ.out _ false rfl B5.out _).mono ?_
  rintro e w7 ⟨rfl, hb⟩
  obtain ⟨W7, e7, m, hb2, -⟩ := box_new w7 (divM (gcdM x y) z) (T := 24)
  have hb := Below.step hb hb2
  clear c1 c2 c3 c4 c5 c6 c7 c8 c9
  have N1 := (N1.out _ hb).keep
  have c1 := (N1.out _ (Below.refl _ _)).c4
  have N2 := (N2.out _ hb).keep
  have c2 := (N2.out _ (Below.refl _ _)).c4
  have N3 := (N3.out _ hb).keep
  have c3 := (N3.out _ (Below.refl _ _)).c4
  have N4 := (N4.out _ hb).keep
  have c4 := (N4.out _ (Below.refl _ _)).c4
  have N5 := (N5.out _ hb).keep
  have c5 := (N5.out _ (Below.refl _ _)).c4
  have N6 := (N6.out _ hb).keep
  have c6 := (N6.out _ (Below.refl _ _)).c4
  have N7 := (N7.out _ hb).keep
  have c7 := (N7.out _ (Below.refl _ _)).c4
  have N8 := (N8.out _ hb).keep
  have c8 := (N8.out _ (Below.refl _ _)).c4
  have N9 := (N9.out _ hb).keep
  have c9 := (N9.out _ (Below.refl _ _)).c4
  have N10 := m.keep
  have c10 := m.c4
  have HB7 := Lib.hid (Below.step HB6.out hb)
  clear hb hb2 m
  unfold mv
  go_upto_region 10 with fail
  rename_i K9 hK9
  refine wp_region_knownC [(6, true), (72, true), (73, true), (74, true), (75, true), (76, true), (77, true), (78, true), (79, true), (80, true), (81, true), (82, true), (83, false), (84, false), (85, false), (87, false), (88, true), (89, true), (90, true), (95, true), (96, true), (97, true), (107, true), (108, true)] []
    [(10, IsV (.bool true)), (12, IsV (.bool true)), (14, IsV (.bool true)), (20, IsV (.bool false)), (16, IsV (.bool false)), (3, IsV (.pointer (some ⟨w.heap.size, 0, none⟩))), (9, IsV (.pointer (some ⟨b9, 0, none⟩))), (4, IsV (.pointer (some ⟨(w.heap.size + 1), 0, none⟩))), (7, IsV (.pointer (some ⟨w1.heap.size, 0, none⟩)))]
    [(91, IsV (mv (x))), (92, IsV (mv (gcdM x y))), (93, IsV (mv (lcmM (x) (gcdM x y)))), (94, IsV (mv (x))), (98, IsV (mv (gcdM x y))), (99, IsV (.int .i64 ((degM (gcdM x y) : Int)))), (100, IsV (mv (x))), (101, IsV (mv (y))), (102, IsV (mv (lcmM (x) (y)))), (103, IsV (.int .i64 ((degM (lcmM (x) (y)) : Int)))), (104, IsV (.int .i64 (((degM (gcdM x y) : Int)) + ((degM (lcmM (x) (y)) : Int))))), (105, IsV (mv (mulM x y))), (106, IsV (.int .i64 ((degM (mulM x y) : Int))))]
    109 (by kernel_rfl) rfl (by kernel_rfl) (by kernel_rfl) ⟨rfl, rfl, rfl, rfl, rfl, rfl, rfl, rfl, rfl, trivial⟩ ⟨IsV.grows _, IsV.grows _, IsV.grows _, IsV.grows _, IsV.grows _, IsV.grows _, IsV.grows _, IsV.grows _, IsV.grows _, IsV.grows _, IsV.grows _, IsV.grows _, IsV.grows _, IsV.grows _, IsV.grows _, IsV.grows _, IsV.grows _, IsV.grows _, IsV.grows _, IsV.grows _, IsV.grows _, IsV.grows _, trivial⟩ (fun t ht => by cases ht) ?_ ?_
  · refine AllStepC.step rfl (step_call0 (Plain.of Try.func21 rfl rfl) (fun w => alive_any w) (fun _ => rfl)) ?_
    refine AllStepC.step rfl (step_move (fun _ _ h => h)) ?_
    refine AllStepC.step rfl (step_moveB (fun _ _ h => h) (fun _ => rfl)) ?_
    refine AllStepC.step rfl (step_pickT (fun _ _ h => h) (fun _ _ h => h)) ?_
    refine AllStepC.step rfl (step_move (fun _ _ h => h)) ?_
    refine AllStepC.step rfl (step_moveB (fun _ _ h => h) (fun _ => rfl)) ?_
    refine AllStepC.step rfl (step_pickT (fun _ _ h => h) (fun _ _ h => h)) ?_
    refine AllStepC.step rfl (step_move (fun _ _ h => h)) ?_
    refine AllStepC.step rfl (step_moveB (fun _ _ h => h) (fun _ => rfl)) ?_
    refine AllStepC.step rfl (step_pickT (fun _ _ h => h) (fun _ _ h => h)) ?_
    refine AllStepC.step rfl (step_move (fun _ _ h => h)) ?_
    refine AllStepC.step rfl (step_moveB (fun _ _ h => h) (fun _ => rfl)) ?_
    refine AllStepC.step rfl (step_moveB (fun _ _ h => h) (fun _ => rfl)) ?_
    refine AllStepC.step rfl (step_move (fun _ _ h => h)) ?_
    refine AllStepC.skip rfl rfl ?_
    refine AllStepC.step rfl (step_pickN (fun _ _ h => h) (fun _ => rfl)) ?_
    refine AllStepC.step rfl (step_eqB (fun _ _ h => h) (fun _ _ h => h) (by rfl) (fun _ => rfl)) ?_
    refine AllStepC.step rfl (step_pickT (fun _ _ h => h) (fun _ _ h => h)) ?_
    refine AllStepC.step rfl (step_move (fun _ _ h => h)) ?_
    refine AllStepC.step rfl (step_loadM (o := 0) (fun _ _ h => h) (fun W hb => (N1.out W hb).c4) (fun _ => rfl)) ?_
    refine AllStepC.step rfl (step_loadM (o := 0) (fun _ _ h => h) (fun W hb => (N5.out W hb).c4) (fun _ => rfl)) ?_
    refine AllStepC.step rfl (step_call2 (Plain.of Try.func15 rfl rfl) (fun _ _ h => h) (fun _ _ h => h) (fun w => Lcm_any HX.out (OkM.gcd HX.out) w) (fun _ => rfl)) ?_
    refine AllStepC.step rfl (step_loadM (o := 0) (fun _ _ h => h) (fun W hb => (N1.out W hb).c4) (fun _ => rfl)) ?_
    refine AllStepC.step rfl (step_eqM (fun _ _ h => h) (fun _ _ h => h) (eqM_iff.2 (lcm_of_in (gcd_in_left x y))) (fun _ => rfl)) ?_
    refine AllStepC.step rfl (step_pickT (fun _ _ h => h) (fun _ _ h => h)) ?_
    refine AllStepC.step rfl (step_move (fun _ _ h => h)) ?_
    refine AllStepC.step rfl (step_loadM (o := 0) (fun _ _ h => h) (fun W hb => (N5.out W hb).c4) (fun _ => rfl)) ?_
    refine AllStepC.step rfl (step_call1 (Plain.of Try.func17 rfl rfl) (fun _ _ h => h) (fun w => Degree_any (OkM.gcd HX.out) w) (fun _ => rfl)) ?_
    refine AllStepC.step rfl (step_loadM (o := 0) (fun _ _ h => h) (fun W hb => (N1.out W hb).c4) (fun _ => rfl)) ?_
    refine AllStepC.step rfl (step_loadM (o := 0) (fun _ _ h => h) (fun W hb => (N2.out W hb).c4) (fun _ => rfl)) ?_
    refine AllStepC.step rfl (step_call2 (Plain.of Try.func15 rfl rfl) (fun _ _ h => h) (fun _ _ h => h) (fun w => Lcm_any HX.out HY.out w) (fun _ => rfl)) ?_
    refine AllStepC.step rfl (step_call1 (Plain.of Try.func17 rfl rfl) (fun _ _ h => h) (fun w => Degree_any (OkM.lcm HX.out HY.out) w) (fun _ => rfl)) ?_
    refine AllStepC.step rfl (step_add (fun _ _ h => h) (fun _ _ h => h) (IntWalk.i64_in _ (by obtain ⟨h1, h2, h3, h4⟩ := OkM.gcd (y := y) HX.out; obtain ⟨g1, g2, g3, g4⟩ := OkM.lcm HX.out HY.out; unfold degM; omega)) (fun _ => rfl)) ?_
    refine AllStepC.step rfl (step_loadM (o := 0) (fun _ _ h => h) (fun W hb => (N4.out W hb).c4) (fun _ => rfl)) ?_
    refine AllStepC.step rfl (step_call1 (Plain.of Try.func17 rfl rfl) (fun _ _ h => h) (fun w => Degree_any (OkM.mul x y) w) (fun _ => rfl)) ?_
    refine AllStepC.step rfl (step_eqI (fun _ _ h => h) (fun _ _ h => h) (by rw [beq_iff_eq, ← deg_split HF.out]; simp) (fun _ => rfl)) ?_
    refine AllStepC.step rfl (step_pickT (fun _ _ h => h) (fun _ _ h => h)) ?_
    refine AllStepC.step rfl (step_assign (fun _ _ h => h)) ?_
    exact AllStepC.nil
  intro a9 w9 hb9 hs9 hd9 hk9
  refine hK9 _ _ ?_
  refine wp_ret ?_
  exact ret_slot (t := 6) rfl hd9 (hk9 6) ⟨rfl, Below.step HB7.out hb9⟩

theorem MonosSplit_true (w : World) (x : M4) (hx : OkM x) (y : M4) (hy : OkM y) (z : M4) (hz : OkM z) : Calls Try.prog 10 #[mv x, mv y, mv z] w fun e w' => e = .returned (.bool true) ∧ Below w.heap.size w w' := by
  by_cases hf : fits x y
  · by_cases h : inM z x
    · by_cases h' : inM z y
      · exact Split_both hx hy hz hf h h' w
      · exact Split_one hx hy hz hf h h' w
    · exact Split_none hx hy hz hf h w
  · exact Split_not hx hy hf w

end Go.Proofs.Ytikbjjechhdclaa
