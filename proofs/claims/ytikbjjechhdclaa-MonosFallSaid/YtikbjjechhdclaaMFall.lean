/- Walk: the law MonosFall. -/
import Derived.Test.YtikbjjechhdclaaMLaws
import Derived.Test.YtikbjjechhdclaaMRow
namespace Go.Proofs.Ytikbjjechhdclaa
open Go.RowKit

set_option maxRecDepth 100000 in
set_option maxHeartbeats 2000000 in
theorem Fall_same {o : Int} (ho : 0 ≤ o ∧ o ≤ 255) {x y z : M4} (hx : OkM x) (hy : OkM y) (hz : OkM z) (h : x = y) (w : World) : Calls Try.prog 7 #[.int .u8 o, mv3 x y z] w fun e w' => e = .returned (.bool true) ∧ Below w.heap.size w w' := by
  have HO := Lib.hid ho
  have HX := Lib.hid hx
  have HY := Lib.hid hy
  have HZ := Lib.hid hz
  have HE : Hid (x = y) := h
  obtain ⟨N, hN⟩ : ∃ N, sgn (keyM o x - keyM o y) = N := ⟨_, rfl⟩
  have HN := Lib.hid hN
  have R1 : Hid (-1 ≤ N ∧ N ≤ 1) := by rw [← hN]; exact sgn_le _
  have R2 : Hid (IntKind.i64.wrap (-N) = -N) := IntWalk.i64_in _ (by have := R1.out; omega)
  have R3 : Hid (sgn (keyM o y - keyM o x) = -N) := by rw [← hN]; exact sgn_swap _ _
  have R4 : Hid ((N == 0) = true) := by
    rw [← hN]
    rw [HE.out, Int.sub_self]; rfl
  have R5 : Hid (0 ≤ sgn (keyM o x - keyM o noM)) := sgn_nonneg (by have := key_nonneg (o := o) HX.out; rw [key_no]; omega)
  clear hN ho hx hy hz h
  obtain ⟨W0, e0, n0, hb0⟩ := box_12 w x y z
  obtain ⟨W1, e1, n1, n2, n3, hb1⟩ := box_xyz W0 x y z
  have HB0 := Lib.hid (Below.step hb0 hb1)
  have c0 := n0.all
  have hl0 : w.heap.size < W0.heap.size := BoxV.lt (v := .int .u16 x.a) n0
  have hl1 : w.heap.size < W0.heap.size + 1 := by omega
  have N1 := n1.keep
  have N2 := n2.keep
  have N3 := n3.keep
  have c1 := n1.c4
  have c2 := n2.c4
  clear n0 n1 n2 n3 hb0 hb1
  unfold mv3
  go_enter Try.func7, Try.ntmps7
  go_wp2_with fail
  clear e0 e1 c0 hl0 hl1
  refine (Cmp_to HO.out.1 HO.out.2 HX.out HY.out N HN.out _).mono ?_
  rintro e w1 ⟨rfl, hb⟩
  have HB1 := Lib.hid (Below.step HB0.out hb)
  have N1 := (N1.out _ hb).keep
  have N2 := (N2.out _ hb).keep
  have N3 := (N3.out _ hb).keep
  clear hb c1 c2
  go_upto_region 5 with fail
  rename_i hK0 K1 hK1
  refine wp_region_seq [(20, false), (21, false), (23, false), (24, false), (25, false), (32, false), (33, false), (34, false), (36, true), (39, true), (40, false), (41, false), (42, false), (47, false), (48, false), (49, false), (54, false), (55, false)]
    [(0, IsV (.int .u8 (o))), (8, IsV (.int .i64 (N))), (5, IsV (.pointer (some ⟨W0.heap.size, 0, none⟩))), (6, IsV (.pointer (some ⟨(W0.heap.size + 1), 0, none⟩))), (7, IsV (.pointer (some ⟨(W0.heap.size + 1 + 1), 0, none⟩)))]
    [(19, IsV (.int .i64 (N))), (22, IsV (.int .i64 (N))), (26, IsV (.int .u8 (o))), (27, IsV (mv (y))), (28, IsV (mv (x))), (29, IsV (.int .i64 (sgn (keyM o (y) - keyM o (x))))), (30, IsV (.int .i64 (N))), (31, IsV (.int .i64 (-(N)))), (35, IsV (.int .i64 (N))), (37, IsV (mv (x))), (38, IsV (mv (y))), (43, IsV (.int .u8 (o))), (44, IsV (mv (x))), (45, IsV (mv (⟨0, 0, 0, 0⟩))), (46, IsV (.int .i64 (sgn (keyM o (x) - keyM o (⟨0, 0, 0, 0⟩))))), (50, IsV (.int .u8 (o))), (51, IsV (mv (x))), (52, IsV (mv (x))), (53, IsV (.int .i64 (sgn (keyM o (x) - keyM o (x)))))]
    75 37 rfl (by kernel_rfl) (by kernel_rfl) ⟨rfl, rfl, rfl, rfl, rfl, trivial⟩ ⟨IsV.grows _, IsV.grows _, IsV.grows _, IsV.grows _, IsV.grows _, IsV.grows _, IsV.grows _, IsV.grows _, IsV.grows _, IsV.grows _, IsV.grows _, IsV.grows _, IsV.grows _, IsV.grows _, IsV.grows _, IsV.grows _, IsV.grows _, IsV.grows _, IsV.grows _, IsV.grows _, IsV.grows _, IsV.grows _, IsV.grows _, IsV.grows _, trivial⟩ ?_ ?_
  · refine AllStep.cons (step_move (fun _ _ h => h)) ?_
    refine AllStep.cons (step_ltIk (fun _ _ h => h)  (decide_eq_false (by have := R1.out; omega)) (fun _ => rfl)) ?_
    refine AllStep.cons (step_move (fun _ _ h => h)) ?_
    refine AllStep.cons (step_move (fun _ _ h => h)) ?_
    refine AllStep.cons (step_gtIk (fun _ _ h => h)  (decide_eq_false (by have := R1.out; omega)) (fun _ => rfl)) ?_
    refine AllStep.cons (step_pickF (fun _ _ h => h) (fun _ _ h => h)) ?_
    refine AllStep.cons (step_move (fun _ _ h => h)) ?_
    refine AllStep.cons (step_move (fun _ _ h => h)) ?_
    refine AllStep.cons (step_loadM (o := 0) (fun _ _ h => h) (fun W hb => (N2.out W hb).c4) (fun _ => rfl)) ?_
    refine AllStep.cons (step_loadM (o := 0) (fun _ _ h => h) (fun W hb => (N1.out W hb).c4) (fun _ => rfl)) ?_
    refine AllStep.cons (step_call3 (Plain.of Try.func19 rfl rfl) (fun _ _ h => h) (fun _ _ h => h) (fun _ _ h => h) (fun w => Cmp_any HO.out.1 HO.out.2 HY.out HX.out w) (fun _ => rfl)) ?_
    refine AllStep.cons (step_move (fun _ _ h => h)) ?_
    refine AllStep.cons (step_neg (fun _ _ h => h) R2.out (fun _ => rfl)) ?_
    refine AllStep.cons (step_neI (fun _ _ h => h) (fun _ _ h => h) (by rw [R3.out]; simp) (fun _ => rfl)) ?_
    refine AllStep.cons (step_pickF (fun _ _ h => h) (fun _ _ h => h)) ?_
    refine AllStep.cons (step_move (fun _ _ h => h)) ?_
    refine AllStep.cons (step_move (fun _ _ h => h)) ?_
    refine AllStep.cons (step_eqIk (fun _ _ h => h)  R4.out (fun _ => rfl)) ?_
    refine AllStep.cons (step_loadM (o := 0) (fun _ _ h => h) (fun W hb => (N1.out W hb).c4) (fun _ => rfl)) ?_
    refine AllStep.cons (step_loadM (o := 0) (fun _ _ h => h) (fun W hb => (N2.out W hb).c4) (fun _ => rfl)) ?_
    refine AllStep.cons (step_eqM (fun _ _ h => h) (fun _ _ h => h) (eqM_iff.2 HE.out) (fun _ => rfl)) ?_
    refine AllStep.cons (step_neB (fun _ _ h => h) (fun _ _ h => h) (by rfl) (fun _ => rfl)) ?_
    refine AllStep.cons (step_pickF (fun _ _ h => h) (fun _ _ h => h)) ?_
    refine AllStep.cons (step_move (fun _ _ h => h)) ?_
    refine AllStep.cons (step_move (fun _ _ h => h)) ?_
    refine AllStep.cons (step_loadM (o := 0) (fun _ _ h => h) (fun W hb => (N1.out W hb).c4) (fun _ => rfl)) ?_
    refine AllStep.cons (step_build (l' := #[]) (fun _ => by simp only [List.map_toArray, List.map_nil]) (fun w => by kernel_rfl) (fun _ => rfl)) ?_
    refine AllStep.cons (step_call3 (Plain.of Try.func19 rfl rfl) (fun _ _ h => h) (fun _ _ h => h) (fun _ _ h => h) (fun w => Cmp_any HO.out.1 HO.out.2 HX.out (by decide) w) (fun _ => rfl)) ?_
    refine AllStep.cons (step_ltIk (fun _ _ h => h)  (decide_eq_false (Int.not_lt.2 R5.out)) (fun _ => rfl)) ?_
    refine AllStep.cons (step_pickF (fun _ _ h => h) (fun _ _ h => h)) ?_
    refine AllStep.cons (step_move (fun _ _ h => h)) ?_
    refine AllStep.cons (step_move (fun _ _ h => h)) ?_
    refine AllStep.cons (step_loadM (o := 0) (fun _ _ h => h) (fun W hb => (N1.out W hb).c4) (fun _ => rfl)) ?_
    refine AllStep.cons (step_loadM (o := 0) (fun _ _ h => h) (fun W hb => (N1.out W hb).c4) (fun _ => rfl)) ?_
    refine AllStep.cons (step_call3 (Plain.of Try.func19 rfl rfl) (fun _ _ h => h) (fun _ _ h => h) (fun _ _ h => h) (fun w => Cmp_any HO.out.1 HO.out.2 HX.out HX.out w) (fun _ => rfl)) ?_
    refine AllStep.cons (step_neIk (fun _ _ h => h)  (by rw [Int.sub_self]; rfl) (fun _ => rfl)) ?_
    refine AllStep.cons (step_pickF (fun _ _ h => h) (fun _ _ h => h)) ?_
    exact AllStep.nil
  intro a1 wa hb1 hs1 hd1 hk1
  have HB2 := Lib.hid (Below.step HB1.out hb1)
  have N1 := (N1.out _ hb1).keep
  have N2 := (N2.out _ hb1).keep
  have N3 := (N3.out _ hb1).keep
  obtain ⟨u, hx⟩ : ∃ u : Nat → Value, ∀ t, a1.eval (.tmp t) = u t := ⟨_, fun _ => rfl⟩
  have ha : a1 = ⟨#[.int .u8 (o), u 1, u 2, u 3, u 4, .pointer (some ⟨W0.heap.size, 0, none⟩), .pointer (some ⟨(W0.heap.size + 1), 0, none⟩), .pointer (some ⟨(W0.heap.size + 1 + 1), 0, none⟩), .int .i64 (N), u 9, u 10, u 11, u 12, u 13, u 14, u 15, u 16, u 17, u 18, .int .i64 (N), .bool false, .bool false, .int .i64 (N), .bool false, .bool false, .bool false, .int .u8 (o), mv (y), mv (x), .int .i64 (sgn (keyM o (y) - keyM o (x))), .int .i64 (N), .int .i64 (-(N)), .bool false, .bool false, .bool false, .int .i64 (N), .bool true, mv (x), mv (y), .bool true, .bool false, .bool false, .bool false, .int .u8 (o), mv (x), mv (⟨0, 0, 0, 0⟩), .int .i64 (sgn (keyM o (x) - keyM o (⟨0, 0, 0, 0⟩))), .bool false, .bool false, .bool false, .int .u8 (o), mv (x), mv (x), .int .i64 (sgn (keyM o (x) - keyM o (x))), .bool false, .bool false, u 56, u 57, u 58, u 59, u 60, u 61, u 62, u 63, u 64, u 65, u 66, u 67, u 68, u 69, u 70, u 71, u 72, u 73, u 74], []⟩ := act_eq hs1 hd1 ⟨hk1 0 (by kernel_rfl), hx 1, hx 2, hx 3, hx 4, hk1 5 (by kernel_rfl), hk1 6 (by kernel_rfl), hk1 7 (by kernel_rfl), hk1 8 (by kernel_rfl), hx 9, hx 10, hx 11, hx 12, hx 13, hx 14, hx 15, hx 16, hx 17, hx 18, hk1 19 (by kernel_rfl), hk1 20 (by kernel_rfl), hk1 21 (by kernel_rfl), hk1 22 (by kernel_rfl), hk1 23 (by kernel_rfl), hk1 24 (by kernel_rfl), hk1 25 (by kernel_rfl), hk1 26 (by kernel_rfl), hk1 27 (by kernel_rfl), hk1 28 (by kernel_rfl), hk1 29 (by kernel_rfl), hk1 30 (by kernel_rfl), hk1 31 (by kernel_rfl), hk1 32 (by kernel_rfl), hk1 33 (by kernel_rfl), hk1 34 (by kernel_rfl), hk1 35 (by kernel_rfl), hk1 36 (by kernel_rfl), hk1 37 (by kernel_rfl), hk1 38 (by kernel_rfl), hk1 39 (by kernel_rfl), hk1 40 (by kernel_rfl), hk1 41 (by kernel_rfl), hk1 42 (by kernel_rfl), hk1 43 (by kernel_rfl), hk1 44 (by kernel_rfl), hk1 45 (by kernel_rfl), hk1 46 (by kernel_rfl), hk1 47 (by kernel_rfl), hk1 48 (by kernel_rfl), hk1 49 (by kernel_rfl), hk1 50 (by kernel_rfl), hk1 51 (by kernel_rfl), hk1 52 (by kernel_rfl), hk1 53 (by kernel_rfl), hk1 54 (by kernel_rfl), hk1 55 (by kernel_rfl), hx 56, hx 57, hx 58, hx 59, hx 60, hx 61, hx 62, hx 63, hx 64, hx 65, hx 66, hx 67, hx 68, hx 69, hx 70, hx 71, hx 72, hx 73, hx 74, trivial⟩
  subst ha
  refine hK1 _ _ ?_
  refine wp_cond_false rfl ?_
  refine wp_skip ?_
  refine hK0 _ _ ?_
  clear hx hs1 hd1 hk1 hb1 hK1 hK0
  unfold mv
  go_wp2_with fail
  refine (alive_any _).mono ?_
  rintro e w2 ⟨rfl, hb⟩
  have HB3 := Lib.hid (Below.step HB2.out hb)
  have N1 := (N1.out _ hb).keep
  have N2 := (N2.out _ hb).keep
  have N3 := (N3.out _ hb).keep
  have c1 := (N1.out _ (Below.refl _ _)).c4
  have c2 := (N2.out _ (Below.refl _ _)).c4
  have c3 := (N3.out _ (Below.refl _ _)).c4
  clear hb
  by_cases hn : 0 < N
  · have HH := Lib.hid hn
    go_wp2_with fail
    go_ret
    exact ⟨rfl, HB3.out⟩
  · have HH : Hid (¬ 0 < N) := hn
    obtain ⟨M, hM⟩ : ∃ M, sgn (keyM o y - keyM o z) = M := ⟨_, rfl⟩
    obtain ⟨K, hK⟩ : ∃ K, sgn (keyM o x - keyM o z) = K := ⟨_, rfl⟩
    have HM := Lib.hid hM
    have HK := Lib.hid hK
    have HTR : Hid (¬ 0 < N → ¬ 0 < M → K ≤ 0) := by
      rw [← HN.out, ← hM, ← hK, sgn_pos_iff, sgn_pos_iff]
      intro p q
      have h3 : ¬ 0 < sgn (keyM o x - keyM o z) := by rw [sgn_pos_iff]; omega
      omega
    clear hM hK
    go_wp2_with fail
    refine (Cmp_to HO.out.1 HO.out.2 HY.out HZ.out M HM.out _).mono ?_
    rintro e w3 ⟨rfl, hb⟩
    have HB4 := Lib.hid (Below.step HB3.out hb)
    have c1 := (N1.out _ hb).c4
    have c3 := (N3.out _ hb).c4
    clear hb c2
    by_cases hm : 0 < M
    · go_wp2_with fail
      go_ret
      exact ⟨rfl, HB4.out⟩
    · have hk : K ≤ 0 := HTR.out (by have := HH.out; omega) (by omega)
      go_wp2_with fail
      refine (Cmp_to HO.out.1 HO.out.2 HX.out HZ.out K HK.out _).mono ?_
      rintro e w4 ⟨rfl, hb⟩
      have HB5 := Lib.hid (Below.step HB4.out hb)
      clear hb c1 c3
      go_wp2_with fail
      go_ret
      exact ⟨rfl, HB5.out⟩

set_option maxRecDepth 100000 in
set_option maxHeartbeats 2000000 in
theorem Fall_other {o : Int} (ho : 0 ≤ o ∧ o ≤ 255) {x y z : M4} (hx : OkM x) (hy : OkM y) (hz : OkM z) (h : ¬ x = y) (w : World) : Calls Try.prog 7 #[.int .u8 o, mv3 x y z] w fun e w' => e = .returned (.bool true) ∧ Below w.heap.size w w' := by
  have HO := Lib.hid ho
  have HX := Lib.hid hx
  have HY := Lib.hid hy
  have HZ := Lib.hid hz
  have HE : Hid (¬ x = y) := h
  obtain ⟨N, hN⟩ : ∃ N, sgn (keyM o x - keyM o y) = N := ⟨_, rfl⟩
  have HN := Lib.hid hN
  have R1 : Hid (-1 ≤ N ∧ N ≤ 1) := by rw [← hN]; exact sgn_le _
  have R2 : Hid (IntKind.i64.wrap (-N) = -N) := IntWalk.i64_in _ (by have := R1.out; omega)
  have R3 : Hid (sgn (keyM o y - keyM o x) = -N) := by rw [← hN]; exact sgn_swap _ _
  have R4 : Hid ((N == 0) = false) := by
    rw [← hN]
    rw [beq_eq_false_iff_ne]
    intro e
    exact HE.out (key_inj (o := o) HX.out HY.out (by have := sgn_zero_iff.1 e; omega))
  have R5 : Hid (0 ≤ sgn (keyM o x - keyM o noM)) := sgn_nonneg (by have := key_nonneg (o := o) HX.out; rw [key_no]; omega)
  clear hN ho hx hy hz h
  obtain ⟨W0, e0, n0, hb0⟩ := box_12 w x y z
  obtain ⟨W1, e1, n1, n2, n3, hb1⟩ := box_xyz W0 x y z
  have HB0 := Lib.hid (Below.step hb0 hb1)
  have c0 := n0.all
  have hl0 : w.heap.size < W0.heap.size := BoxV.lt (v := .int .u16 x.a) n0
  have hl1 : w.heap.size < W0.heap.size + 1 := by omega
  have N1 := n1.keep
  have N2 := n2.keep
  have N3 := n3.keep
  have c1 := n1.c4
  have c2 := n2.c4
  clear n0 n1 n2 n3 hb0 hb1
  unfold mv3
  go_enter Try.func7, Try.ntmps7
  go_wp2_with fail
  clear e0 e1 c0 hl0 hl1
  refine (Cmp_to HO.out.1 HO.out.2 HX.out HY.out N HN.out _).mono ?_
  rintro e w1 ⟨rfl, hb⟩
  have HB1 := Lib.hid (Below.step HB0.out hb)
  have N1 := (N1.out _ hb).keep
  have N2 := (N2.out _ hb).keep
  have N3 := (N3.out _ hb).keep
  clear hb c1 c2
  go_upto_region 5 with fail
  rename_i hK0 K1 hK1
  refine wp_region_seq [(20, false), (21, false), (23, false), (24, false), (25, false), (32, false), (33, false), (34, false), (36, false), (39, false), (40, false), (41, false), (42, false), (47, false), (48, false), (49, false), (54, false), (55, false)]
    [(0, IsV (.int .u8 (o))), (8, IsV (.int .i64 (N))), (5, IsV (.pointer (some ⟨W0.heap.size, 0, none⟩))), (6, IsV (.pointer (some ⟨(W0.heap.size + 1), 0, none⟩))), (7, IsV (.pointer (some ⟨(W0.heap.size + 1 + 1), 0, none⟩)))]
    [(19, IsV (.int .i64 (N))), (22, IsV (.int .i64 (N))), (26, IsV (.int .u8 (o))), (27, IsV (mv (y))), (28, IsV (mv (x))), (29, IsV (.int .i64 (sgn (keyM o (y) - keyM o (x))))), (30, IsV (.int .i64 (N))), (31, IsV (.int .i64 (-(N)))), (35, IsV (.int .i64 (N))), (37, IsV (mv (x))), (38, IsV (mv (y))), (43, IsV (.int .u8 (o))), (44, IsV (mv (x))), (45, IsV (mv (⟨0, 0, 0, 0⟩))), (46, IsV (.int .i64 (sgn (keyM o (x) - keyM o (⟨0, 0, 0, 0⟩))))), (50, IsV (.int .u8 (o))), (51, IsV (mv (x))), (52, IsV (mv (x))), (53, IsV (.int .i64 (sgn (keyM o (x) - keyM o (x)))))]
    75 37 rfl (by kernel_rfl) (by kernel_rfl) ⟨rfl, rfl, rfl, rfl, rfl, trivial⟩ ⟨IsV.grows _, IsV.grows _, IsV.grows _, IsV.grows _, IsV.grows _, IsV.grows _, IsV.grows _, IsV.grows _, IsV.grows _, IsV.grows _, IsV.grows _, IsV.grows _, IsV.grows _, IsV.grows _, IsV.grows _, IsV.grows _, IsV.grows _, IsV.grows _, IsV.grows _, IsV.grows _, IsV.grows _, IsV.grows _, IsV.grows _, IsV.grows _, trivial⟩ ?_ ?_
  · refine AllStep.cons (step_move (fun _ _ h => h)) ?_
    refine AllStep.cons (step_ltIk (fun _ _ h => h)  (decide_eq_false (by have := R1.out; omega)) (fun _ => rfl)) ?_
    refine AllStep.cons (step_move (fun _ _ h => h)) ?_
    refine AllStep.cons (step_move (fun _ _ h => h)) ?_
    refine AllStep.cons (step_gtIk (fun _ _ h => h)  (decide_eq_false (by have := R1.out; omega)) (fun _ => rfl)) ?_
    refine AllStep.cons (step_pickF (fun _ _ h => h) (fun _ _ h => h)) ?_
    refine AllStep.cons (step_move (fun _ _ h => h)) ?_
    refine AllStep.cons (step_move (fun _ _ h => h)) ?_
    refine AllStep.cons (step_loadM (o := 0) (fun _ _ h => h) (fun W hb => (N2.out W hb).c4) (fun _ => rfl)) ?_
    refine AllStep.cons (step_loadM (o := 0) (fun _ _ h => h) (fun W hb => (N1.out W hb).c4) (fun _ => rfl)) ?_
    refine AllStep.cons (step_call3 (Plain.of Try.func19 rfl rfl) (fun _ _ h => h) (fun _ _ h => h) (fun _ _ h => h) (fun w => Cmp_any HO.out.1 HO.out.2 HY.out HX.out w) (fun _ => rfl)) ?_
    refine AllStep.cons (step_move (fun _ _ h => h)) ?_
    refine AllStep.cons (step_neg (fun _ _ h => h) R2.out (fun _ => rfl)) ?_
    refine AllStep.cons (step_neI (fun _ _ h => h) (fun _ _ h => h) (by rw [R3.out]; simp) (fun _ => rfl)) ?_
    refine AllStep.cons (step_pickF (fun _ _ h => h) (fun _ _ h => h)) ?_
    refine AllStep.cons (step_move (fun _ _ h => h)) ?_
    refine AllStep.cons (step_move (fun _ _ h => h)) ?_
    refine AllStep.cons (step_eqIk (fun _ _ h => h)  R4.out (fun _ => rfl)) ?_
    refine AllStep.cons (step_loadM (o := 0) (fun _ _ h => h) (fun W hb => (N1.out W hb).c4) (fun _ => rfl)) ?_
    refine AllStep.cons (step_loadM (o := 0) (fun _ _ h => h) (fun W hb => (N2.out W hb).c4) (fun _ => rfl)) ?_
    refine AllStep.cons (step_eqM (fun _ _ h => h) (fun _ _ h => h) (Bool.eq_false_iff.2 (fun e => HE.out (eqM_iff.1 e))) (fun _ => rfl)) ?_
    refine AllStep.cons (step_neB (fun _ _ h => h) (fun _ _ h => h) (by rfl) (fun _ => rfl)) ?_
    refine AllStep.cons (step_pickF (fun _ _ h => h) (fun _ _ h => h)) ?_
    refine AllStep.cons (step_move (fun _ _ h => h)) ?_
    refine AllStep.cons (step_move (fun _ _ h => h)) ?_
    refine AllStep.cons (step_loadM (o := 0) (fun _ _ h => h) (fun W hb => (N1.out W hb).c4) (fun _ => rfl)) ?_
    refine AllStep.cons (step_build (l' := #[]) (fun _ => by simp only [List.map_toArray, List.map_nil]) (fun w => by kernel_rfl) (fun _ => rfl)) ?_
    refine AllStep.cons (step_call3 (Plain.of Try.func19 rfl rfl) (fun _ _ h => h) (fun _ _ h => h) (fun _ _ h => h) (fun w => Cmp_any HO.out.1 HO.out.2 HX.out (by decide) w) (fun _ => rfl)) ?_
    refine AllStep.cons (step_ltIk (fun _ _ h => h)  (decide_eq_false (Int.not_lt.2 R5.out)) (fun _ => rfl)) ?_
    refine AllStep.cons (step_pickF (fun _ _ h => h) (fun _ _ h => h)) ?_
    refine AllStep.cons (step_move (fun _ _ h => h)) ?_
    refine AllStep.cons (step_move (fun _ _ h => h)) ?_
    refine AllStep.cons (step_loadM (o := 0) (fun _ _ h => h) (fun W hb => (N1.out W hb).c4) (fun _ => rfl)) ?_
    refine AllStep.cons (step_loadM (o := 0) (fun _ _ h => h) (fun W hb => (N1.out W hb).c4) (fun _ => rfl)) ?_
    refine AllStep.cons (step_call3 (Plain.of Try.func19 rfl rfl) (fun _ _ h => h) (fun _ _ h => h) (fun _ _ h => h) (fun w => Cmp_any HO.out.1 HO.out.2 HX.out HX.out w) (fun _ => rfl)) ?_
    refine AllStep.cons (step_neIk (fun _ _ h => h)  (by rw [Int.sub_self]; rfl) (fun _ => rfl)) ?_
    refine AllStep.cons (step_pickF (fun _ _ h => h) (fun _ _ h => h)) ?_
    exact AllStep.nil
  intro a1 wa hb1 hs1 hd1 hk1
  have HB2 := Lib.hid (Below.step HB1.out hb1)
  have N1 := (N1.out _ hb1).keep
  have N2 := (N2.out _ hb1).keep
  have N3 := (N3.out _ hb1).keep
  obtain ⟨u, hx⟩ : ∃ u : Nat → Value, ∀ t, a1.eval (.tmp t) = u t := ⟨_, fun _ => rfl⟩
  have ha : a1 = ⟨#[.int .u8 (o), u 1, u 2, u 3, u 4, .pointer (some ⟨W0.heap.size, 0, none⟩), .pointer (some ⟨(W0.heap.size + 1), 0, none⟩), .pointer (some ⟨(W0.heap.size + 1 + 1), 0, none⟩), .int .i64 (N), u 9, u 10, u 11, u 12, u 13, u 14, u 15, u 16, u 17, u 18, .int .i64 (N), .bool false, .bool false, .int .i64 (N), .bool false, .bool false, .bool false, .int .u8 (o), mv (y), mv (x), .int .i64 (sgn (keyM o (y) - keyM o (x))), .int .i64 (N), .int .i64 (-(N)), .bool false, .bool false, .bool false, .int .i64 (N), .bool false, mv (x), mv (y), .bool false, .bool false, .bool false, .bool false, .int .u8 (o), mv (x), mv (⟨0, 0, 0, 0⟩), .int .i64 (sgn (keyM o (x) - keyM o (⟨0, 0, 0, 0⟩))), .bool false, .bool false, .bool false, .int .u8 (o), mv (x), mv (x), .int .i64 (sgn (keyM o (x) - keyM o (x))), .bool false, .bool false, u 56, u 57, u 58, u 59, u 60, u 61, u 62, u 63, u 64, u 65, u 66, u 67, u 68, u 69, u 70, u 71, u 72, u 73, u 74], []⟩ := act_eq hs1 hd1 ⟨hk1 0 (by kernel_rfl), hx 1, hx 2, hx 3, hx 4, hk1 5 (by kernel_rfl), hk1 6 (by kernel_rfl), hk1 7 (by kernel_rfl), hk1 8 (by kernel_rfl), hx 9, hx 10, hx 11, hx 12, hx 13, hx 14, hx 15, hx 16, hx 17, hx 18, hk1 19 (by kernel_rfl), hk1 20 (by kernel_rfl), hk1 21 (by kernel_rfl), hk1 22 (by kernel_rfl), hk1 23 (by kernel_rfl), hk1 24 (by kernel_rfl), hk1 25 (by kernel_rfl), hk1 26 (by kernel_rfl), hk1 27 (by kernel_rfl), hk1 28 (by kernel_rfl), hk1 29 (by kernel_rfl), hk1 30 (by kernel_rfl), hk1 31 (by kernel_rfl), hk1 32 (by kernel_rfl), hk1 33 (by kernel_rfl), hk1 34 (by kernel_rfl), hk1 35 (by kernel_rfl), hk1 36 (by kernel_rfl), hk1 37 (by kernel_rfl), hk1 38 (by kernel_rfl), hk1 39 (by kernel_rfl), hk1 40 (by kernel_rfl), hk1 41 (by kernel_rfl), hk1 42 (by kernel_rfl), hk1 43 (by kernel_rfl), hk1 44 (by kernel_rfl), hk1 45 (by kernel_rfl), hk1 46 (by kernel_rfl), hk1 47 (by kernel_rfl), hk1 48 (by kernel_rfl), hk1 49 (by kernel_rfl), hk1 50 (by kernel_rfl), hk1 51 (by kernel_rfl), hk1 52 (by kernel_rfl), hk1 53 (by kernel_rfl), hk1 54 (by kernel_rfl), hk1 55 (by kernel_rfl), hx 56, hx 57, hx 58, hx 59, hx 60, hx 61, hx 62, hx 63, hx 64, hx 65, hx 66, hx 67, hx 68, hx 69, hx 70, hx 71, hx 72, hx 73, hx 74, trivial⟩
  subst ha
  refine hK1 _ _ ?_
  refine wp_cond_false rfl ?_
  refine wp_skip ?_
  refine hK0 _ _ ?_
  clear hx hs1 hd1 hk1 hb1 hK1 hK0
  unfold mv
  go_wp2_with fail
  refine (alive_any _).mono ?_
  rintro e w2 ⟨rfl, hb⟩
  have HB3 := Lib.hid (Below.step HB2.out hb)
  have N1 := (N1.out _ hb).keep
  have N2 := (N2.out _ hb).keep
  have N3 := (N3.out _ hb).keep
  have c1 := (N1.out _ (Below.refl _ _)).c4
  have c2 := (N2.out _ (Below.refl _ _)).c4
  have c3 := (N3.out _ (Below.refl _ _)).c4
  clear hb
  by_cases hn : 0 < N
  · have HH := Lib.hid hn
    go_wp2_with fail
    go_ret
    exact ⟨rfl, HB3.out⟩
  · have HH : Hid (¬ 0 < N) := hn
    obtain ⟨M, hM⟩ : ∃ M, sgn (keyM o y - keyM o z) = M := ⟨_, rfl⟩
    obtain ⟨K, hK⟩ : ∃ K, sgn (keyM o x - keyM o z) = K := ⟨_, rfl⟩
    have HM := Lib.hid hM
    have HK := Lib.hid hK
    have HTR : Hid (¬ 0 < N → ¬ 0 < M → K ≤ 0) := by
      rw [← HN.out, ← hM, ← hK, sgn_pos_iff, sgn_pos_iff]
      intro p q
      have h3 : ¬ 0 < sgn (keyM o x - keyM o z) := by rw [sgn_pos_iff]; omega
      omega
    clear hM hK
    go_wp2_with fail
    refine (Cmp_to HO.out.1 HO.out.2 HY.out HZ.out M HM.out _).mono ?_
    rintro e w3 ⟨rfl, hb⟩
    have HB4 := Lib.hid (Below.step HB3.out hb)
    have c1 := (N1.out _ hb).c4
    have c3 := (N3.out _ hb).c4
    clear hb c2
    by_cases hm : 0 < M
    · go_wp2_with fail
      go_ret
      exact ⟨rfl, HB4.out⟩
    · have hk : K ≤ 0 := HTR.out (by have := HH.out; omega) (by omega)
      go_wp2_with fail
      refine (Cmp_to HO.out.1 HO.out.2 HX.out HZ.out K HK.out _).mono ?_
      rintro e w4 ⟨rfl, hb⟩
      have HB5 := Lib.hid (Below.step HB4.out hb)
      clear hb c1 c3
      go_wp2_with fail
      go_ret
      exact ⟨rfl, HB5.out⟩

theorem MonosFall_true (w : World) (o : Int) (ho : 0 ≤ o ∧ o ≤ 255) (x y z : M4) (hx : OkM x) (hy : OkM y) (hz : OkM z) : Calls Try.prog 7 #[.int .u8 o, mv3 x y z] w fun e w' => e = .returned (.bool true) ∧ Below w.heap.size w w' := by
  by_cases h : x = y
  · exact Fall_same ho hx hy hz h w
  · exact Fall_other ho hx hy hz h w

end Go.Proofs.Ytikbjjechhdclaa
