/- Walk: some answers that the document fixes. -/
import Derived.Test.YtikbjjechhdclaaMRefCmp
import Derived.Test.YtikbjjechhdclaaFacts4
namespace Go.Proofs.Ytikbjjechhdclaa
open Go.RowKit

set_option maxRecDepth 100000 in
set_option maxHeartbeats 2000000 in
theorem alive_any (w : World) : Calls Try.prog 21 #[] w fun e w' => e = .returned (.bool true) ∧ Below w.heap.size w w' := by
  obtain ⟨m1, q1⟩ : ∃ m, mulM ⟨65535, 0, 0, 0⟩ ⟨1, 0, 0, 0⟩ = m := ⟨_, rfl⟩
  obtain ⟨m2, q2⟩ : ∃ m, mulM ⟨2, 1, 0, 0⟩ ⟨1, 0, 0, 3⟩ = m := ⟨_, rfl⟩
  obtain ⟨m3, q3⟩ : ∃ m, divM ⟨1, 0, 0, 0⟩ ⟨0, 1, 0, 0⟩ = m := ⟨_, rfl⟩
  have C1 : Hid (∀ W, Calls Try.prog 11 #[.agg #[.int .u16 65535, .int .u16 0, .int .u16 0, .int .u16 0], .agg #[.int .u16 1, .int .u16 0, .int .u16 0, .int .u16 0]] W fun e w' => e = .returned (.tuple #[mv m1, .int .i64 3]) ∧ Below W.heap.size W w') := by
    intro W
    have h := Mul_any (x := ⟨65535, 0, 0, 0⟩) (y := ⟨1, 0, 0, 0⟩) (by decide) (by decide) W
    rw [q1, show errM ⟨65535, 0, 0, 0⟩ ⟨1, 0, 0, 0⟩ = 3 by decide] at h
    exact h
  have C2 : Hid (∀ W, Calls Try.prog 11 #[.agg #[.int .u16 2, .int .u16 1, .int .u16 0, .int .u16 0], .agg #[.int .u16 1, .int .u16 0, .int .u16 0, .int .u16 3]] W fun e w' => e = .returned (.tuple #[mv m2, .int .i64 0]) ∧ Below W.heap.size W w') := by
    intro W
    have h := Mul_any (x := ⟨2, 1, 0, 0⟩) (y := ⟨1, 0, 0, 3⟩) (by decide) (by decide) W
    rw [q2, show errM ⟨2, 1, 0, 0⟩ ⟨1, 0, 0, 3⟩ = 0 by decide] at h
    exact h
  have C3 : Hid (∀ W, Calls Try.prog 12 #[.agg #[.int .u16 1, .int .u16 0, .int .u16 0, .int .u16 0], .agg #[.int .u16 0, .int .u16 1, .int .u16 0, .int .u16 0]] W fun e w' => e = .returned (.tuple #[mv m3, .bool false]) ∧ Below W.heap.size W w') := by
    intro W
    have h := Div_any (x := ⟨1, 0, 0, 0⟩) (y := ⟨0, 1, 0, 0⟩) (by decide) (by decide) W
    rw [q3, show decide (inM ⟨0, 1, 0, 0⟩ ⟨1, 0, 0, 0⟩) = false by decide] at h
    exact h
  have E2 : Hid (eqM m2 ⟨3, 1, 0, 3⟩ = true) := by
    rw [← q2]
    show eqM _ _ = true
    decide
  clear q1 q2 q3
  go_enter Try.func21, Try.ntmps21
  go_wp2_with fail
  refine (C1.out _).mono ?_
  rintro e w1 ⟨rfl, hb⟩
  obtain ⟨W1, e1, m, hb2, -⟩ := box_new w1 m1 (T := 24)
  have HB1 := Lib.hid (Below.step hb hb2)
  clear hb hb2 m
  unfold mv
  go_wp2_with fail
  refine (C2.out _).mono ?_
  rintro e w2 ⟨rfl, hb⟩
  obtain ⟨W2, e2, m, hb2, -⟩ := box_new w2 m2 (T := 24)
  have HB2 := Lib.hid (Below.step HB1.out (Below.step hb hb2))
  have N2 := m.keep
  clear hb hb2 m
  unfold mv
  go_wp2_with fail
  refine (C3.out _).mono ?_
  rintro e w3 ⟨rfl, hb⟩
  obtain ⟨W3, e3, m, hb2, -⟩ := box_new w3 m3 (T := 24)
  have HB3 := Lib.hid (Below.step HB2.out (Below.step hb hb2))
  have N2 := (N2.out _ (Below.step hb hb2)).keep
  clear hb hb2 m
  unfold mv
  go_upto_region 4 with fail
  rename_i K1 hK1
  refine wp_region_seq [(0, true), (26, true), (27, true), (29, true), (30, true), (31, true), (34, true), (35, true), (36, true), (37, false), (38, true), (39, true), (40, true), (45, true), (46, true), (47, true), (50, true), (51, true), (52, true), (56, true), (57, true), (58, true), (62, true), (63, true), (64, true), (68, true), (69, true), (70, true), (74, true), (75, true)]
    [(2, IsV (.int .i64 (3))), (4, IsV (.int .i64 (0))), (3, IsV (.pointer (some ⟨w2.heap.size, 0, none⟩))), (6, IsV (.bool false))]
    [(25, IsV (.int .i64 (3))), (28, IsV (.int .i64 (0))), (32, IsV (mv (m2))), (33, IsV (mv (⟨3, 1, 0, 3⟩))), (41, IsV (mv (⟨2, 0, 1, 0⟩))), (42, IsV (mv (⟨1, 3, 0, 0⟩))), (43, IsV (mv (lcmM (⟨2, 0, 1, 0⟩) (⟨1, 3, 0, 0⟩)))), (44, IsV (mv (⟨2, 3, 1, 0⟩))), (48, IsV (mv (⟨2, 0, 1, 0⟩))), (49, IsV (.int .i64 ((degM (⟨2, 0, 1, 0⟩) : Int)))), (53, IsV (mv (⟨1, 0, 0, 0⟩))), (54, IsV (mv (⟨0, 5, 0, 0⟩))), (55, IsV (.int .i64 (sgn (keyM 0 (⟨1, 0, 0, 0⟩) - keyM 0 (⟨0, 5, 0, 0⟩))))), (59, IsV (mv (⟨1, 0, 0, 0⟩))), (60, IsV (mv (⟨0, 5, 0, 0⟩))), (61, IsV (.int .i64 (sgn (keyM 1 (⟨1, 0, 0, 0⟩) - keyM 1 (⟨0, 5, 0, 0⟩))))), (65, IsV (mv (⟨2, 0, 0, 1⟩))), (66, IsV (mv (⟨1, 1, 1, 0⟩))), (67, IsV (.int .i64 (sgn (keyM 1 (⟨2, 0, 0, 1⟩) - keyM 1 (⟨1, 1, 1, 0⟩))))), (71, IsV (mv (⟨2, 0, 0, 1⟩))), (72, IsV (mv (⟨1, 1, 1, 0⟩))), (73, IsV (.int .i64 (sgn (keyM 2 (⟨2, 0, 0, 1⟩) - keyM 2 (⟨1, 1, 1, 0⟩)))))]
    76 52 rfl (by kernel_rfl) (by kernel_rfl) ⟨rfl, rfl, rfl, rfl, trivial⟩ ⟨IsV.grows _, IsV.grows _, IsV.grows _, IsV.grows _, IsV.grows _, IsV.grows _, IsV.grows _, IsV.grows _, IsV.grows _, IsV.grows _, IsV.grows _, IsV.grows _, IsV.grows _, IsV.grows _, IsV.grows _, IsV.grows _, IsV.grows _, IsV.grows _, IsV.grows _, IsV.grows _, IsV.grows _, IsV.grows _, IsV.grows _, IsV.grows _, IsV.grows _, IsV.grows _, trivial⟩ ?_ ?_
  · refine AllStep.cons (step_move (fun _ _ h => h)) ?_
    refine AllStep.cons (step_eqEk (fun _ _ h => h)  (by decide) (fun _ => rfl)) ?_
    refine AllStep.cons (step_move (fun _ _ h => h)) ?_
    refine AllStep.cons (step_move (fun _ _ h => h)) ?_
    refine AllStep.cons (step_eqEk (fun _ _ h => h)  (by decide) (fun _ => rfl)) ?_
    refine AllStep.cons (step_pickT (fun _ _ h => h) (fun _ _ h => h)) ?_
    refine AllStep.cons (step_move (fun _ _ h => h)) ?_
    refine AllStep.cons (step_loadM (o := 0) (fun _ _ h => h) (fun W hb => (N2.out W hb).c4) (fun _ => rfl)) ?_
    refine AllStep.cons (step_build (l' := #[(0, .int .u16 3), (1, .int .u16 1), (2, .int .u16 0), (3, .int .u16 3)]) (fun _ => by simp only [List.map_toArray, List.map_cons, List.map_nil]; rfl) (fun w => by kernel_rfl) (fun _ => rfl)) ?_
    refine AllStep.cons (step_eqM (fun _ _ h => h) (fun _ _ h => h) E2.out (fun _ => rfl)) ?_
    refine AllStep.cons (step_pickT (fun _ _ h => h) (fun _ _ h => h)) ?_
    refine AllStep.cons (step_move (fun _ _ h => h)) ?_
    refine AllStep.cons (step_moveB (fun _ _ h => h) (fun _ => rfl)) ?_
    refine AllStep.cons (step_not false (fun _ _ h => h) (fun _ => rfl)) ?_
    refine AllStep.cons (step_pickT (fun _ _ h => h) (fun _ _ h => h)) ?_
    refine AllStep.cons (step_move (fun _ _ h => h)) ?_
    refine AllStep.cons (step_build (l' := #[(0, .int .u16 2), (1, .int .u16 0), (2, .int .u16 1)]) (fun _ => by simp only [List.map_toArray, List.map_cons, List.map_nil]; rfl) (fun w => by kernel_rfl) (fun _ => rfl)) ?_
    refine AllStep.cons (step_build (l' := #[(0, .int .u16 1), (1, .int .u16 3)]) (fun _ => by simp only [List.map_toArray, List.map_cons, List.map_nil]; rfl) (fun w => by kernel_rfl) (fun _ => rfl)) ?_
    refine AllStep.cons (step_call2 (Plain.of Try.func15 rfl rfl) (fun _ _ h => h) (fun _ _ h => h) (fun w => Lcm_any (by decide) (by decide) w) (fun _ => rfl)) ?_
    refine AllStep.cons (step_build (l' := #[(0, .int .u16 2), (1, .int .u16 3), (2, .int .u16 1)]) (fun _ => by simp only [List.map_toArray, List.map_cons, List.map_nil]; rfl) (fun w => by kernel_rfl) (fun _ => rfl)) ?_
    refine AllStep.cons (step_eqM (fun _ _ h => h) (fun _ _ h => h) (by decide) (fun _ => rfl)) ?_
    refine AllStep.cons (step_pickT (fun _ _ h => h) (fun _ _ h => h)) ?_
    refine AllStep.cons (step_move (fun _ _ h => h)) ?_
    refine AllStep.cons (step_build (l' := #[(0, .int .u16 2), (1, .int .u16 0), (2, .int .u16 1)]) (fun _ => by simp only [List.map_toArray, List.map_cons, List.map_nil]; rfl) (fun w => by kernel_rfl) (fun _ => rfl)) ?_
    refine AllStep.cons (step_call1 (Plain.of Try.func17 rfl rfl) (fun _ _ h => h) (fun w => Degree_any (by decide) w) (fun _ => rfl)) ?_
    refine AllStep.cons (step_eqIk (fun _ _ h => h)  (by decide) (fun _ => rfl)) ?_
    refine AllStep.cons (step_pickT (fun _ _ h => h) (fun _ _ h => h)) ?_
    refine AllStep.cons (step_move (fun _ _ h => h)) ?_
    refine AllStep.cons (step_build (l' := #[(0, .int .u16 1)]) (fun _ => by simp only [List.map_toArray, List.map_cons, List.map_nil]; rfl) (fun w => by kernel_rfl) (fun _ => rfl)) ?_
    refine AllStep.cons (step_build (l' := #[(0, .int .u16 0), (1, .int .u16 5)]) (fun _ => by simp only [List.map_toArray, List.map_cons, List.map_nil]; rfl) (fun w => by kernel_rfl) (fun _ => rfl)) ?_
    refine AllStep.cons (step_callk (Plain.of Try.func19 rfl rfl) (fun _ _ h => h) (fun _ _ h => h) (fun w => Cmp_any (by decide) (by decide) (by decide) (by decide) w) (fun _ => rfl)) ?_
    refine AllStep.cons (step_eqIk (fun _ _ h => h)  (by decide) (fun _ => rfl)) ?_
    refine AllStep.cons (step_pickT (fun _ _ h => h) (fun _ _ h => h)) ?_
    refine AllStep.cons (step_move (fun _ _ h => h)) ?_
    refine AllStep.cons (step_build (l' := #[(0, .int .u16 1)]) (fun _ => by simp only [List.map_toArray, List.map_cons, List.map_nil]; rfl) (fun w => by kernel_rfl) (fun _ => rfl)) ?_
    refine AllStep.cons (step_build (l' := #[(0, .int .u16 0), (1, .int .u16 5)]) (fun _ => by simp only [List.map_toArray, List.map_cons, List.map_nil]; rfl) (fun w => by kernel_rfl) (fun _ => rfl)) ?_
    refine AllStep.cons (step_callk (Plain.of Try.func19 rfl rfl) (fun _ _ h => h) (fun _ _ h => h) (fun w => Cmp_any (by decide) (by decide) (by decide) (by decide) w) (fun _ => rfl)) ?_
    refine AllStep.cons (step_eqIk (fun _ _ h => h)  (by decide) (fun _ => rfl)) ?_
    refine AllStep.cons (step_pickT (fun _ _ h => h) (fun _ _ h => h)) ?_
    refine AllStep.cons (step_move (fun _ _ h => h)) ?_
    refine AllStep.cons (step_build (l' := #[(0, .int .u16 2), (1, .int .u16 0), (2, .int .u16 0), (3, .int .u16 1)]) (fun _ => by simp only [List.map_toArray, List.map_cons, List.map_nil]; rfl) (fun w => by kernel_rfl) (fun _ => rfl)) ?_
    refine AllStep.cons (step_build (l' := #[(0, .int .u16 1), (1, .int .u16 1), (2, .int .u16 1)]) (fun _ => by simp only [List.map_toArray, List.map_cons, List.map_nil]; rfl) (fun w => by kernel_rfl) (fun _ => rfl)) ?_
    refine AllStep.cons (step_callk (Plain.of Try.func19 rfl rfl) (fun _ _ h => h) (fun _ _ h => h) (fun w => Cmp_any (by decide) (by decide) (by decide) (by decide) w) (fun _ => rfl)) ?_
    refine AllStep.cons (step_eqIk (fun _ _ h => h)  (by decide) (fun _ => rfl)) ?_
    refine AllStep.cons (step_pickT (fun _ _ h => h) (fun _ _ h => h)) ?_
    refine AllStep.cons (step_move (fun _ _ h => h)) ?_
    refine AllStep.cons (step_build (l' := #[(0, .int .u16 2), (1, .int .u16 0), (2, .int .u16 0), (3, .int .u16 1)]) (fun _ => by simp only [List.map_toArray, List.map_cons, List.map_nil]; rfl) (fun w => by kernel_rfl) (fun _ => rfl)) ?_
    refine AllStep.cons (step_build (l' := #[(0, .int .u16 1), (1, .int .u16 1), (2, .int .u16 1)]) (fun _ => by simp only [List.map_toArray, List.map_cons, List.map_nil]; rfl) (fun w => by kernel_rfl) (fun _ => rfl)) ?_
    refine AllStep.cons (step_callk (Plain.of Try.func19 rfl rfl) (fun _ _ h => h) (fun _ _ h => h) (fun w => Cmp_any (by decide) (by decide) (by decide) (by decide) w) (fun _ => rfl)) ?_
    refine AllStep.cons (step_eqIk (fun _ _ h => h)  (by decide) (fun _ => rfl)) ?_
    refine AllStep.cons (step_pickT (fun _ _ h => h) (fun _ _ h => h)) ?_
    refine AllStep.cons (step_assign (fun _ _ h => h)) ?_
    exact AllStep.nil
  intro a1 w4 hb1 hs1 hd1 hk1
  refine hK1 _ _ ?_
  refine wp_ret ?_
  exact ret_slot (t := 0) rfl hd1 (hk1 0 (by kernel_rfl)) ⟨rfl, Below.step HB3.out hb1⟩

end Go.Proofs.Ytikbjjechhdclaa
