/- Walk of the reference of layer 1: a number read. -/
import Derived.Test.YtgpoljbccimkjaaGreatDoorRefW
import Derived.Test.YtgpoljbccimkjaaGreatDoorEnds
import Derived.Test.YtgpoljbccimkjaaGreatDoorFacts3
import Derived.Test.YtgpoljbccimkjaaGreatDoorSteps3
namespace Go.Proofs.YtgpoljbccimkjaaGreatDoor
set_option linter.unusedSimpArgs false
set_option linter.unusedVariables false
open Go.RowKit Go.Shelf

/-- The error, the number. -/
def backE (s : Bool) (l : List Nat) : Int := if okB s l then (if -9223372036854775808 ≤ valS s l ∧ valS s l ≤ 9223372036854775807 then 0 else 3) else 1
def backM (s : Bool) (l : List Nat) : Int := if okB s l = true ∧ -9223372036854775808 ≤ valS s l ∧ valS s l ≤ 9223372036854775807 then valS s l else 0
theorem back_not {s : Bool} {l : List Nat} (h : okB s l = false) : backM s l = 0 ∧ backE s l = 1 := by unfold backM backE; simp [h]
theorem back_far {s : Bool} {l : List Nat} (h : okB s l = true) (hz : valS s l < -9223372036854775808 ∨ 9223372036854775807 < valS s l) : backM s l = 0 ∧ backE s l = 3 := by
  unfold backM backE
  have h1 : ¬ (-9223372036854775808 ≤ valS s l ∧ valS s l ≤ 9223372036854775807) := by omega
  rw [h, if_neg (by simp only [true_and]; exact h1), if_pos rfl, if_neg h1]
  exact ⟨rfl, rfl⟩
theorem back_with {s : Bool} {l : List Nat} (h : okB s l = true) (hz : -9223372036854775808 ≤ valS s l ∧ valS s l ≤ 9223372036854775807) : backM s l = valS s l ∧ backE s l = 0 := by
  unfold backM backE
  rw [h, if_pos ⟨rfl, hz⟩, if_pos rfl, if_pos hz]
  exact ⟨rfl, rfl⟩

set_option maxRecDepth 100000 in
set_option maxHeartbeats 4000000 in
theorem rBack_any (s : Bool) (v : Value) (l : List Nat) (w : World) (h : Lim w v l) (hl : l.length ≤ 900000) :
    Calls Tryz.prog 26 #[.agg #[.bool s, v]] w fun e w' => e = .returned (.tuple #[.int .i64 (backM s l), .int .i64 (backE s l)]) ∧ Below w.heap.size w w' := by
  have HL := keepLim h
  have HA0 := (NumAt.of (s := s) (k := l.length) h (Nat.le_refl _)).keep
  obtain ⟨a, c, rfl, -⟩ := h
  obtain ⟨W0, e0, n1, hb0, hz0⟩ := box1 w (.bool s) (.slice a l.length c)
  have N1 := n1.v.keep
  have B0 := Lib.hid hb0
  obtain ⟨c0, c1, -, -⟩ := n1
  clear hb0 hz0
  cases ho : okB s l with
  | false =>
    have HM := Lib.hid (back_not ho)
    have HO := Lib.hid ho
    clear ho
    go_enter Tryz.func26, Tryz.ntmps26
    go_wp2_with fail
    clear e0
    refine (rCheck_any s _ l _ (HL.out _ B0.out)).mono ?_
    rintro e w1 ⟨rfl, hb1⟩
    rw [HO.out]
    have B1 := Lib.hid (Below.step B0.out hb1)
    clear hb1
    go_wp2_with fail
    go_ret2
    exact ⟨by rw [HM.out.1, HM.out.2]; rfl, B1.out⟩
  | true =>
    have HO := Lib.hid ho
    obtain ⟨Z, hZ⟩ : ∃ Z, numZ s l = Z := ⟨_, rfl⟩
    have hzz : valS s l = Z := by rw [← hZ, numZ_ok ho]
    rw [hZ] at HA0
    go_enter Tryz.func26, Tryz.ntmps26
    go_wp2_with fail
    refine (rCheck_any s _ l _ (HL.out _ B0.out)).mono ?_
    rintro e w1 ⟨rfl, hb1⟩
    rw [HO.out]
    have B1 := Lib.hid (Below.step B0.out hb1)
    have N1 := (N1.out _ hb1).keep
    have HA := (HA0.out _ B1.out).keep
    clear hb1 HA0
    rcases Int.lt_or_le Z (-9223372036854775808) with h1 | h1
    · have HM := Lib.hid (back_far ho (.inl (by rw [hzz]; exact h1)))
      have HC1 : Hid (decide (cmpI Z (-9223372036854775808) < 0) = true) := by rw [cmpI_lt h1]; rfl
      clear h1 hzz ho hZ
      go_upto_region 3 with fail
      clear e0 c0 c1
      rename_i hK0 K1 hK1
      refine wp_region_knownC [(12, true), (13, true), (18, true)] [17]
        [(1, IsV (.pointer (some ⟨w.heap.size, 0, none⟩))), (2, IsV (.int .i64 0)), (3, IsV (.int .i64 0))]
        [(9, IsN (l.length) Z), (10, IsO 3 (-9223372036854775808)), (11, IsV (.int .i64 (cmpI Z (-9223372036854775808)))), (17, IsV undef)]
        42 (by kernel_rfl) rfl (by kernel_rfl) (by kernel_rfl) ⟨rfl, rfl, rfl, trivial⟩ ⟨IsV.grows _, IsV.grows _, IsV.grows _, IsN.grows _ _, IsO.grows _ _, IsV.grows _, IsV.grows _, trivial⟩ (fun t ht => by simp only [List.mem_cons, List.not_mem_nil, or_false] at ht; subst ht; exact ⟨fun _ _ h => h, fun _ => rfl⟩) ?_ ?_
      · refine AllStepC.step (by kernel_rfl) (step_load (fun _ _ h => h) (fun _ hb => (N1.out _ hb).c2) (fun w hb => HA.out w hb)) ?_
        refine AllStepC.step (by kernel_rfl) (step_callk (Plain.of Tryz.func34 rfl rfl) (fun w _ => rOf_num _ _ (by decide) (by decide))) ?_
        refine AllStepC.step (by kernel_rfl) (step_call2 (Plain.of Tryz.func124 rfl rfl) (fun _ _ _ _ hu hv => (rCmp_num hu (OkAt.num hv) _ rfl).mono (fun _ _ h => ansV h))) ?_
        refine AllStepC.step (by kernel_rfl) (step_lss (fun _ _ h => h) HC1.out (fun _ => rfl)) ?_
        refine AllStepC.step (by kernel_rfl) (step_move (fun _ _ h => h)) ?_
        refine AllStepC.skip (by kernel_rfl) (by kernel_rfl) ?_
        refine AllStepC.skip (by kernel_rfl) (by kernel_rfl) ?_
        refine AllStepC.skip (by kernel_rfl) (by kernel_rfl) ?_
        refine AllStepC.skip (by kernel_rfl) (by kernel_rfl) ?_
        refine AllStepC.step (by kernel_rfl) (step_pickTk (fun _ _ h => h) (fun _ => rfl)) ?_
        exact AllStepC.nil
      · intro a3 w3 hb3 hs1 hd1 hk1
        have B3 := Lib.hid (Below.step B1.out hb3)
        have N1 := (N1.out _ hb3).keep
        have HL := keepLim (HL.out _ B3.out)
        obtain ⟨u, hx⟩ : ∃ u : Nat → Value, ∀ t, a3.eval (.tmp t) = u t := ⟨_, fun _ => rfl⟩
        have ha : a3 = ⟨#[u 0, .pointer (some ⟨w.heap.size, 0, none⟩), .int .i64 0, .int .i64 0, u 4, u 5, u 6, u 7, u 8, u 9, u 10, u 11, u 12, u 13, u 14, u 15, u 16, u 17, .bool true, u 19, u 20, u 21, u 22, u 23, u 24, u 25, u 26, u 27, u 28, u 29, u 30, u 31, u 32, u 33, u 34, u 35, u 36, u 37, u 38, u 39, u 40, u 41], []⟩ := act_eq hs1 hd1 ⟨hx 0, hk1 1, hk1 2, hk1 3, hx 4, hx 5, hx 6, hx 7, hx 8, hx 9, hx 10, hx 11, hx 12, hx 13, hx 14, hx 15, hx 16, hx 17, hk1 18, hx 19, hx 20, hx 21, hx 22, hx 23, hx 24, hx 25, hx 26, hx 27, hx 28, hx 29, hx 30, hx 31, hx 32, hx 33, hx 34, hx 35, hx 36, hx 37, hx 38, hx 39, hx 40, hx 41, trivial⟩
        subst ha
        refine hK1 _ _ ?_
        clear hx hs1 hd1 hk1 hb3
        refine wp_cond_true rfl ?_
        go_wp2_with fail
        go_ret2
        exact ⟨by rw [HM.out.1, HM.out.2]; rfl, B3.out⟩
    · rcases Int.lt_or_le 9223372036854775807 Z with h2 | h2
      · have HM := Lib.hid (back_far ho (.inr (by rw [hzz]; exact h2)))
        have HC1 : Hid (decide (cmpI Z (-9223372036854775808) < 0) = false) := by rw [cmpI_gt (by omega)]; rfl
        have HC2 : Hid (decide (0 < cmpI Z 9223372036854775807) = true) := by rw [cmpI_gt h2]; rfl
        clear h1 h2 hzz ho hZ
        go_upto_region 3 with fail
        clear e0 c0 c1
        rename_i hK0 K1 hK1
        refine wp_region_knownC [(12, false), (13, false), (17, true), (18, true)] []
          [(1, IsV (.pointer (some ⟨w.heap.size, 0, none⟩))), (2, IsV (.int .i64 0)), (3, IsV (.int .i64 0))]
          [(9, IsN (l.length) Z), (10, IsO 3 (-9223372036854775808)), (11, IsV (.int .i64 (cmpI Z (-9223372036854775808)))), (14, IsN (l.length) Z), (15, IsO 3 9223372036854775807), (16, IsV (.int .i64 (cmpI Z 9223372036854775807)))]
          42 (by kernel_rfl) rfl (by kernel_rfl) (by kernel_rfl) ⟨rfl, rfl, rfl, trivial⟩ ⟨IsV.grows _, IsV.grows _, IsV.grows _, IsN.grows _ _, IsO.grows _ _, IsV.grows _, IsN.grows _ _, IsO.grows _ _, IsV.grows _, trivial⟩ (fun t ht => by cases ht) ?_ ?_
        · refine AllStepC.step (by kernel_rfl) (step_load (fun _ _ h => h) (fun _ hb => (N1.out _ hb).c2) (fun w hb => HA.out w hb)) ?_
          refine AllStepC.step (by kernel_rfl) (step_callk (Plain.of Tryz.func34 rfl rfl) (fun w _ => rOf_num _ _ (by decide) (by decide))) ?_
          refine AllStepC.step (by kernel_rfl) (step_call2 (Plain.of Tryz.func124 rfl rfl) (fun _ _ _ _ hu hv => (rCmp_num hu (OkAt.num hv) _ rfl).mono (fun _ _ h => ansV h))) ?_
          refine AllStepC.step (by kernel_rfl) (step_lss (fun _ _ h => h) HC1.out (fun _ => rfl)) ?_
          refine AllStepC.step (by kernel_rfl) (step_move (fun _ _ h => h)) ?_
          refine AllStepC.step (by kernel_rfl) (step_load (fun _ _ h => h) (fun _ hb => (N1.out _ hb).c2) (fun w hb => HA.out w hb)) ?_
          refine AllStepC.step (by kernel_rfl) (step_callk (Plain.of Tryz.func34 rfl rfl) (fun w _ => rOf_num _ _ (by decide) (by decide))) ?_
          refine AllStepC.step (by kernel_rfl) (step_call2 (Plain.of Tryz.func124 rfl rfl) (fun _ _ _ _ hu hv => (rCmp_num hu (OkAt.num hv) _ rfl).mono (fun _ _ h => ansV h))) ?_
          refine AllStepC.step (by kernel_rfl) (step_gtr (fun _ _ h => h) HC2.out (fun _ => rfl)) ?_
          refine AllStepC.step (by kernel_rfl) (step_pickF (fun _ _ h => h) (fun _ _ h => h)) ?_
          exact AllStepC.nil
        · intro a3 w3 hb3 hs1 hd1 hk1
          have B3 := Lib.hid (Below.step B1.out hb3)
          have N1 := (N1.out _ hb3).keep
          have HL := keepLim (HL.out _ B3.out)
          obtain ⟨u, hx⟩ : ∃ u : Nat → Value, ∀ t, a3.eval (.tmp t) = u t := ⟨_, fun _ => rfl⟩
          have ha : a3 = ⟨#[u 0, .pointer (some ⟨w.heap.size, 0, none⟩), .int .i64 0, .int .i64 0, u 4, u 5, u 6, u 7, u 8, u 9, u 10, u 11, u 12, u 13, u 14, u 15, u 16, u 17, .bool true, u 19, u 20, u 21, u 22, u 23, u 24, u 25, u 26, u 27, u 28, u 29, u 30, u 31, u 32, u 33, u 34, u 35, u 36, u 37, u 38, u 39, u 40, u 41], []⟩ := act_eq hs1 hd1 ⟨hx 0, hk1 1, hk1 2, hk1 3, hx 4, hx 5, hx 6, hx 7, hx 8, hx 9, hx 10, hx 11, hx 12, hx 13, hx 14, hx 15, hx 16, hx 17, hk1 18, hx 19, hx 20, hx 21, hx 22, hx 23, hx 24, hx 25, hx 26, hx 27, hx 28, hx 29, hx 30, hx 31, hx 32, hx 33, hx 34, hx 35, hx 36, hx 37, hx 38, hx 39, hx 40, hx 41, trivial⟩
          subst ha
          refine hK1 _ _ ?_
          clear hx hs1 hd1 hk1 hb3
          refine wp_cond_true rfl ?_
          go_wp2_with fail
          go_ret2
          exact ⟨by rw [HM.out.1, HM.out.2]; rfl, B3.out⟩
      · have HM := Lib.hid (back_with ho (by rw [hzz]; exact ⟨h1, h2⟩))
        have HZ : Hid (-9223372036854775808 ≤ valS s l ∧ valS s l ≤ 9223372036854775807) := by rw [hzz]; exact ⟨h1, h2⟩
        have HC1 : Hid (decide (cmpI Z (-9223372036854775808) < 0) = false) := by
          rcases Int.lt_or_eq_of_le h1 with h | h
          · rw [cmpI_gt h]; rfl
          · rw [cmpI_eq h.symm]; rfl
        have HC2 : Hid (decide (0 < cmpI Z 9223372036854775807) = false) := by
          rcases Int.lt_or_eq_of_le h2 with h | h
          · rw [cmpI_lt h]; rfl
          · rw [cmpI_eq h]; rfl
        clear h1 h2 hzz ho hZ
        go_upto_region 3 with fail
        clear e0 c0 c1
        rename_i hK0 K1 hK1
        refine wp_region_knownC [(12, false), (13, false), (17, false), (18, false)] []
          [(1, IsV (.pointer (some ⟨w.heap.size, 0, none⟩))), (2, IsV (.int .i64 0)), (3, IsV (.int .i64 0))]
          [(9, IsN (l.length) Z), (10, IsO 3 (-9223372036854775808)), (11, IsV (.int .i64 (cmpI Z (-9223372036854775808)))), (14, IsN (l.length) Z), (15, IsO 3 9223372036854775807), (16, IsV (.int .i64 (cmpI Z 9223372036854775807)))]
          42 (by kernel_rfl) rfl (by kernel_rfl) (by kernel_rfl) ⟨rfl, rfl, rfl, trivial⟩ ⟨IsV.grows _, IsV.grows _, IsV.grows _, IsN.grows _ _, IsO.grows _ _, IsV.grows _, IsN.grows _ _, IsO.grows _ _, IsV.grows _, trivial⟩ (fun t ht => by cases ht) ?_ ?_
        · refine AllStepC.step (by kernel_rfl) (step_load (fun _ _ h => h) (fun _ hb => (N1.out _ hb).c2) (fun w hb => HA.out w hb)) ?_
          refine AllStepC.step (by kernel_rfl) (step_callk (Plain.of Tryz.func34 rfl rfl) (fun w _ => rOf_num _ _ (by decide) (by decide))) ?_
          refine AllStepC.step (by kernel_rfl) (step_call2 (Plain.of Tryz.func124 rfl rfl) (fun _ _ _ _ hu hv => (rCmp_num hu (OkAt.num hv) _ rfl).mono (fun _ _ h => ansV h))) ?_
          refine AllStepC.step (by kernel_rfl) (step_lss (fun _ _ h => h) HC1.out (fun _ => rfl)) ?_
          refine AllStepC.step (by kernel_rfl) (step_move (fun _ _ h => h)) ?_
          refine AllStepC.step (by kernel_rfl) (step_load (fun _ _ h => h) (fun _ hb => (N1.out _ hb).c2) (fun w hb => HA.out w hb)) ?_
          refine AllStepC.step (by kernel_rfl) (step_callk (Plain.of Tryz.func34 rfl rfl) (fun w _ => rOf_num _ _ (by decide) (by decide))) ?_
          refine AllStepC.step (by kernel_rfl) (step_call2 (Plain.of Tryz.func124 rfl rfl) (fun _ _ _ _ hu hv => (rCmp_num hu (OkAt.num hv) _ rfl).mono (fun _ _ h => ansV h))) ?_
          refine AllStepC.step (by kernel_rfl) (step_gtr (fun _ _ h => h) HC2.out (fun _ => rfl)) ?_
          refine AllStepC.step (by kernel_rfl) (step_pickF (fun _ _ h => h) (fun _ _ h => h)) ?_
          exact AllStepC.nil
        · intro a3 w3 hb3 hs1 hd1 hk1
          have B3 := Lib.hid (Below.step B1.out hb3)
          have N1 := (N1.out _ hb3).keep
          have HL := keepLim (HL.out _ B3.out)
          obtain ⟨u, hx⟩ : ∃ u : Nat → Value, ∀ t, a3.eval (.tmp t) = u t := ⟨_, fun _ => rfl⟩
          have ha : a3 = ⟨#[u 0, .pointer (some ⟨w.heap.size, 0, none⟩), .int .i64 0, .int .i64 0, u 4, u 5, u 6, u 7, u 8, u 9, u 10, u 11, u 12, u 13, u 14, u 15, u 16, u 17, .bool false, u 19, u 20, u 21, u 22, u 23, u 24, u 25, u 26, u 27, u 28, u 29, u 30, u 31, u 32, u 33, u 34, u 35, u 36, u 37, u 38, u 39, u 40, u 41], []⟩ := act_eq hs1 hd1 ⟨hx 0, hk1 1, hk1 2, hk1 3, hx 4, hx 5, hx 6, hx 7, hx 8, hx 9, hx 10, hx 11, hx 12, hx 13, hx 14, hx 15, hx 16, hx 17, hk1 18, hx 19, hx 20, hx 21, hx 22, hx 23, hx 24, hx 25, hx 26, hx 27, hx 28, hx 29, hx 30, hx 31, hx 32, hx 33, hx 34, hx 35, hx 36, hx 37, hx 38, hx 39, hx 40, hx 41, trivial⟩
          subst ha
          refine hK1 _ _ ?_
          clear hx hs1 hd1 hk1 hb3
          refine wp_cond_false rfl ?_
          refine wp_skip ?_
          refine hK0 _ _ ?_
          clear hK1 hK0
          obtain ⟨c0, c1, -, -⟩ := (N1.out _ (Below.refl _ _)).c2
          go_wp2_with fail
          go_loop [4, 5] (fun m i => ∃ (j : Nat) (ii : Int), j ≤ l.length ∧ ii = (j : Int) - 1 ∧ i = .int .i64 ii ∧ m = .int .u64 (val (l.drop j) : Nat)) (fun _ i => (intOf i + 1).toNat)
          case atStart => exact ⟨l.length, (l.length : Int) - 1, Nat.le_refl _, rfl, by go_num, by rw [List.drop_eq_nil_of_le (Nat.le_refl _)]; rfl⟩
          case round =>
            obtain ⟨j, ii, hj, hii, rfl, rfl⟩ := hrel
            cases j with
            | zero =>
              have hii2 : ii = -1 := by omega
              subst hii2
              clear hii
              rw [List.drop_zero]
              obtain ⟨M, hM⟩ : ∃ M, val l = M := ⟨_, rfl⟩
              rw [hM]
              cases s with
              | true =>
                have hz : valS true l = -(M : Int) := by unfold valS; rw [if_pos rfl, hM]
                have HZZ := Lib.hid hz
                have hw : IntKind.i64.wrap (IntKind.u64.wrap (-(M : Int))) = -(M : Int) := by
                  have := HZ.out
                  rw [hz] at this
                  rw [IntKind.wrap_u64, IntKind.wrap_i64]; omega
                have HW := Lib.hid hw
                clear hM hz hw
                go_wp2_with fail
                go_ret2
                refine ⟨?_, B3.out⟩
                rw [HM.out.1, HM.out.2, HZZ.out]
                have hww : wrap64 (IntKind.u64.wrap (-(M : Int))) = -(M : Int) := by rw [← IntWalk.i64_left]; exact HW.out
                show Ending.returned (.tuple #[.int .i64 (wrap64 (IntKind.u64.wrap (-(M : Int)))), .int .i64 0]) = _
                rw [hww]
              | false =>
                have hz : valS false l = (M : Int) := by unfold valS; rw [if_neg (by simp), hM]
                have HZZ := Lib.hid hz
                have hM9 : (M : Int) ≤ 9223372036854775807 := by
                  have := HZ.out
                  rw [hz] at this
                  omega
                have hw : IntKind.i64.wrap (M : Int) = (M : Int) := by rw [IntKind.wrap_i64]; omega
                clear hM hz
                go_wp2_with fail
                go_ret2
                exact ⟨by rw [HM.out.1, HM.out.2, HZZ.out]; rfl, B3.out⟩
            | succ j =>
              obtain rfl : ii = (j : Int) := by omega
              clear hii
              have hcell := (HL.out _ (Below.refl _ _)).cell (show j < l.length by omega)
              obtain ⟨b, o, rfl, hc⟩ := hcell
              have hd : l.drop j = pt l j :: l.drop (j + 1) := by rw [List.drop_eq_getElem_cons (by omega), ← pt_getElem]
              have hle : val (l.drop j) ≤ val l := by
                have := val_split l j (by omega)
                have h2 : 1 * val (l.drop j) ≤ 1000000000 ^ j * val (l.drop j) := Nat.mul_le_mul_right _ (Nat.pow_pos (by decide))
                omega
              have hab : (val l : Int) ≤ 9223372036854775808 := by
                have := HZ.out
                unfold valS at this
                split at this <;> omega
              obtain ⟨M, hM⟩ : ∃ M, val (l.drop (j + 1)) = M := ⟨_, rfl⟩
              obtain ⟨M', hM'⟩ : ∃ M', val (l.drop j) = M' := ⟨_, rfl⟩
              obtain ⟨p, hp⟩ : ∃ p, pt l j = p := ⟨_, rfl⟩
              have hv : M' = p + 1000000000 * M := by rw [← hM', hd, ← hp, ← hM]; simp only [val]
              have HMM := Lib.hid hM'
              rw [hM] at *
              rw [hp] at hc
              have hmul : 1000000000 * (M : Int) ≤ 9223372036854775808 := by omega
              have hsum : 1000000000 * (M : Int) + (p : Int) = (M' : Int) := by omega
              have hM9 : (M' : Int) ≤ 9223372036854775808 := by omega
              have hjw : IntKind.i64.wrap ((j : Int) - 1) = (j : Int) - 1 := by rw [IntKind.wrap_i64]; omega
              clear hd hle hab hM' hp hv hM
              go_wp2_with fail
              go_round
              case rel => exact ⟨j, (j : Int) - 1, by omega, rfl, by go_num, by rw [HMM.out]⟩
              case measure => first | (simp [intOf]; done) | (simp [intOf]; omega)

end Go.Proofs.YtgpoljbccimkjaaGreatDoor

namespace Go.Proofs.YtgpoljbccimkjaaGreatDoor
set_option linter.unusedSimpArgs false
set_option linter.unusedVariables false
open Go.RowKit Go.Shelf

theorem ret_ne {fn : Func} {R : Ending → World → Prop} {a : Act} {w : World} {t s0 b : Nat} {m : Int} {s : Bool} {p : Option Addr} {n c : Nat} (hr : fn.results = #[.cell t 24, .tmp s0]) (hd : a.defers = []) (h : a.eval (.tmp t) = .pointer (some ⟨b, 0, none⟩)) (h2 : a.eval (.tmp s0) = .int .i64 m) (hb : BoxV w b [.bool s, .slice p n c])
    (hR : R (.returned (.tuple #[.agg #[.bool s, .slice p n c], .int .i64 m])) w) : bodyPost Tryz.prog fn R .ret a w := by
  have h1 : a.tmps[t]?.getD undef = .pointer (some ⟨b, 0, none⟩) := by rw [← Array.getD_eq_getD_getElem?]; exact h
  have h3 : a.tmps[s0]?.getD undef = .int .i64 m := by rw [← Array.getD_eq_getD_getElem?]; exact h2
  obtain ⟨c0, c1, -, -⟩ := hb.c2
  refine bodyPost_ret (v := .tuple #[.agg #[.bool s, .slice p n c], .int .i64 m]) ?_ hd hR
  simp [results, hr, go_sem, h1, h3, c0, c1]
theorem parseZ_no {l : List UInt8} {k : Int} (h : parseE l = k) (hk : k ≠ 0) : parseZ l = 0 := by unfold parseZ; rw [if_neg (by rw [h]; exact hk)]
theorem OkAt.wide0 {w : World} {u : Value} {k k' : Nat} {Z : Int} (h : OkAt w u k Z) (hk : k ≤ k') : OkAt w u k' Z := by
  obtain ⟨s, v, l, h1, h2, h3, h4, h5⟩ := h
  exact ⟨s, v, l, h1, h2, h3, h4, by omega⟩
theorem digits_plain {D : List UInt8} (h : plainB D = true) : digitsB D = true := by
  unfold plainB at h
  rw [Bool.and_eq_true] at h
  exact h.1
theorem dec_more {D : List UInt8} {q c : Nat} (hq : q < D.length) (hc : c ≤ q) : dec ((D.take (q + 1)).drop c) = dec ((D.take q).drop c) * 10 + (pb D q - 48) := by
  unfold pb
  rw [List.take_add_one, List.getElem?_eq_getElem hq, Option.toList_some, List.drop_append_of_le_length (by rw [List.length_take]; omega), dec_snoc, List.getD_eq_getElem?_getD, List.getElem?_eq_getElem hq]
  rfl
theorem below_nil : belowB [] = false ∧ digitsOf [] = [] := ⟨rfl, rfl⟩
theorem below_yes {l : List UInt8} (h0 : l ≠ []) (h : pb l 0 = 45) : belowB l = true ∧ digitsOf l = l.drop 1 := by
  cases l with
  | nil => exact absurd rfl h0
  | cons x t =>
    have hx : x = 45 := UInt8.toNat_inj.1 (by simpa [pb] using h)
    subst hx
    constructor
    · simp [belowB, Lib.hasPrefix]
    · simp [digitsOf, Lib.trimPrefix, Lib.hasPrefix]
theorem below_no {l : List UInt8} (h0 : l ≠ []) (h : pb l 0 ≠ 45) : belowB l = false ∧ digitsOf l = l := by
  cases l with
  | nil => exact absurd rfl h0
  | cons x t =>
    have hx : x ≠ 45 := fun e => h (by rw [e]; rfl)
    have hx2 : ¬ (45 : UInt8) = x := fun e => hx e.symm
    have hpre : ([45] : List UInt8).isPrefixOf (x :: t) = false := by
      simp only [List.isPrefixOf]
      have : ((45 : UInt8) == x) = false := by rw [beq_eq_false_iff_ne]; exact hx2
      rw [this]; rfl
    constructor
    · exact hpre
    · unfold digitsOf Lib.trimPrefix Lib.hasPrefix
      rw [if_neg (by rw [hpre]; simp)]
set_option maxRecDepth 100000 in
theorem run_tail1 (l : List UInt8) (h : 0 < l.length) (W : World) : (Instr.slice 9 (.string ⟨l.toArray⟩) (some (.int .i64 1)) none none).run Tryz.prog W = .ok (.string ⟨(l.drop 1).toArray⟩) W := by
  have hs : (⟨l.toArray⟩ : ByteArray).size = l.length := by simp [ByteArray.size]
  rw [run_slice_string_l _ _ _ rfl _ _ (by decide) (by rw [hs]; omega), hs]
  congr 2
  rw [ByteArray.ext_iff]
  simp
  rw [List.take_of_length_le (by simp)]

set_option maxRecDepth 100000 in
set_option maxHeartbeats 2000000 in
theorem rParse_any (l : List UInt8) (w : World) (hl : l.length ≤ 2000000) :
    Calls Tryz.prog 28 #[.string ⟨l.toArray⟩] w fun e w' => (∃ u, e = .returned (.tuple #[u, .int .i64 (parseE l)]) ∧ OkAt w' u 23 (parseZ l)) ∧ Below w.heap.size w w' := by
  obtain ⟨W0, e0, n1, hb0, hz0⟩ := box1 w (.bool false) (.slice none 0 0)
  have N1 := n1.v.keep
  have B0 := Lib.hid hb0
  obtain ⟨i0, hi, hiz0, hiz1, hiz2⟩ := info_parts infoU32
  clear n1 hb0 hz0
  by_cases h0 : l = []
  · subst h0
    obtain ⟨l, hL⟩ : ∃ l : List UInt8, l = [] := ⟨_, rfl⟩
    go_enter Tryz.func28, Tryz.ntmps28
    go_wp2_with fail
    clear e0
    refine (rDigits_any [] _ (by simp)).mono ?_
    rintro e w1 ⟨rfl, hb1⟩
    have B1 := Lib.hid (Below.step B0.out hb1)
    have N1 := (N1.out _ hb1).keep
    have HE : Hid (parseE [] = 4) := rfl
    have hpl : plainB [] = false := rfl
    rw [hpl]
    clear hb1
    have n1 := N1.out _ (Below.refl _ _)
    obtain ⟨r1, r2, r3, r4⟩ := n1.c2
    obtain ⟨W', e, hst, hbx⟩ := n1.store (ys := [.bool false, .slice none 0 0]) rfl rfl
    simp only [setAll] at e
    have FB := Lib.hid (hst.below w (by omega) B1.out)
    have FX := Lib.hid hbx
    clear n1 hst hbx
    go_wp2_with fail
    exact ret_ne (t := 2) (s0 := 3) rfl rfl rfl rfl FX.out ⟨⟨_, by rw [HE.out], by rw [parseZ_no HE.out (by decide)]; exact (OkAt.noughts _).wide0 (by decide)⟩, FB.out⟩
  · have q0 : (l == []) = false := by rw [beq_eq_false_iff_ne]; exact h0
    have q3 : 0 < l.length := List.length_pos_iff.2 h0
    have hix : ∀ W, (Instr.index 9 (.string ⟨l.toArray⟩) (.int .i64 0)).run Tryz.prog W = .ok (.int .u8 (pb l 0 : Nat)) W := fun W => run_pb l 0 W q3
    by_cases h45 : pb l 0 = 45
    · obtain ⟨D, hD⟩ : ∃ D, l.drop 1 = D := ⟨_, rfl⟩
      have HLD : Hid (belowB l = true ∧ digitsOf l = D) := by rw [← hD]; exact below_yes h0 h45
      have HD : Hid (D.length ≤ 2000000) := by show _ ≤ _; rw [← hD, List.length_drop]; omega
      have htl := run_tail1 l q3
      rw [hD] at htl
      rw [h45] at hix
      clear h0 h45 hD hl
      go_enter Tryz.func28, Tryz.ntmps28
      go_wp2_with fail
      clear e0 hix htl q0 q3
      refine (rDigits_any D _ HD.out).mono ?_
      rintro e w1 ⟨rfl, hb1⟩
      have B1 := Lib.hid (Below.step B0.out hb1)
      have N1 := (N1.out _ hb1).keep
      clear hb1
      cases hp : plainB D with
      | false =>
        have HE : Hid (parseE l = 4) := parseE_form (by unfold formB; rw [HLD.out.2, hp]; rfl)
        clear hp
        have n1 := N1.out _ (Below.refl _ _)
        obtain ⟨r1, r2, r3, r4⟩ := n1.c2
        obtain ⟨W', e, hst, hbx⟩ := n1.store (ys := [.bool false, .slice none 0 0]) rfl rfl
        simp only [setAll] at e
        have FB := Lib.hid (hst.below w (by omega) B1.out)
        have FX := Lib.hid hbx
        clear n1 hst hbx
        go_wp2_with fail
        exact ret_ne (t := 2) (s0 := 3) rfl rfl rfl rfl FX.out ⟨⟨_, by rw [HE.out], by rw [parseZ_no HE.out (by decide)]; exact (OkAt.noughts _).wide0 (by decide)⟩, FB.out⟩
      | true =>
        by_cases hz : D = [48]
        · have HE : Hid (parseE l = 4) := parseE_form (by unfold formB; rw [HLD.out.1, HLD.out.2, hp, hz]; rfl)
          have hq : (D == [48]) = true := by rw [hz]; rfl
          clear hp hz
          have n1 := N1.out _ (Below.refl _ _)
          obtain ⟨r1, r2, r3, r4⟩ := n1.c2
          obtain ⟨W', e, hst, hbx⟩ := n1.store (ys := [.bool false, .slice none 0 0]) rfl rfl
          simp only [setAll] at e
          have FB := Lib.hid (hst.below w (by omega) B1.out)
          have FX := Lib.hid hbx
          clear n1 hst hbx
          go_wp2_with fail
          exact ret_ne (t := 2) (s0 := 3) rfl rfl rfl rfl FX.out ⟨⟨_, by rw [HE.out], by rw [parseZ_no HE.out (by decide)]; exact (OkAt.noughts _).wide0 (by decide)⟩, FB.out⟩
        · have hq : (D == [48]) = false := by rw [beq_eq_false_iff_ne]; exact hz
          have HF : Hid (formB l = false) := by show _ = _; unfold formB; rw [HLD.out.1, HLD.out.2, hp, hq]; rfl
          have HP := Lib.hid hp
          clear hp hz
          by_cases hlen : 200 < D.length
          · have HE := Lib.hid (parseE_long HF.out (by rw [HLD.out.2]; exact hlen))
            have hlenI : (200 : Int) < (D.length : Int) := by omega
            clear hlen
            have n1 := N1.out _ (Below.refl _ _)
            obtain ⟨r1, r2, r3, r4⟩ := n1.c2
            obtain ⟨W', e, hst, hbx⟩ := n1.store (ys := [.bool false, .slice none 0 0]) rfl rfl
            simp only [setAll] at e
            have FB := Lib.hid (hst.below w (by omega) B1.out)
            have FX := Lib.hid hbx
            clear n1 hst hbx
            go_wp2_with fail
            exact ret_ne (t := 2) (s0 := 3) rfl rfl rfl rfl FX.out ⟨⟨_, by rw [HE.out], by rw [parseZ_no HE.out (by decide)]; exact (OkAt.noughts _).wide0 (by decide)⟩, FB.out⟩
          · have HE := Lib.hid (parseE_ok HF.out (by rw [HLD.out.2]; omega))
            have HDIG : Hid (digitsB D = true) := digits_plain HP.out
            have hlenI : ¬ (200 : Int) < (D.length : Int) := by omega
            have HLN : Hid (D.length ≤ 200) := by show _ ≤ _; omega
            have HVZ : Hid (parseZ l = -(dec D : Int)) := by show _ = _; unfold parseZ; rw [HE.out, HLD.out.1, HLD.out.2]; rfl
            clear hlen
            go_wp2_with fail
            go_loopw [5, 6] (fun v t wr => ∃ (m : Nat) (ti : Int) (P : List Nat), t = .int .i64 ti ∧ (0 < ti → ti = m) ∧ (ti ≤ 0 → m = 0) ∧ -9 ≤ ti ∧ m ≤ D.length ∧ OwnL w1.heap.size wr v P ∧ ((0 < m → P.length * 9 + m = D.length) ∧ P.length * 9 ≤ D.length + 8) ∧ (∀ x ∈ P, x < 1000000000) ∧ val P + 1000000000 ^ P.length * dec (D.take m) = dec D ∧ Below w1.heap.size w1 wr) (fun _ t _ => (intOf t).toNat)
            case atStart => exact ⟨D.length, (D.length : Int), [], rfl, fun _ => rfl, fun _ => by omega, by omega, Nat.le_refl _, OwnL.nil _ _, ⟨fun _ => by simp, by simp⟩, by simp, by rw [List.take_length]; simp [val], Below.refl _ _⟩
            case round =>
              obtain ⟨m, ti, P, rfl, ht1, ht2, ht3, hm, hown, hP, hs, hv, hB⟩ := hrel
              have HV := Lib.hid hv
              have HS := Lib.hid hs
              have HB := Lib.hid hB
              have HO := Lib.hid hown
              have HPP : Hid ((0 < m → P.length * 9 + m = D.length) ∧ P.length * 9 ≤ D.length + 8) := hP
              have hPl := hP.2
              clear hP
              clear hv hs hB hown
              by_cases hpos : 0 < ti
              · obtain rfl := ht1 hpos
                have hln := HLN.out
                have hmp : 0 < m := by omega
                obtain ⟨c, hc⟩ : ∃ c, m - 9 = c := ⟨_, rfl⟩
                have hmax : max (0 : Int) ((m : Int) - 9) = (c : Int) := by omega
                have hcm : c ≤ m := by omega
                have hm9 : m - c ≤ 9 := by omega
                have HC := Lib.hid hc
                clear ht1 ht2 ht3 hc
                go_wp2_with fail
                go_loop [7, 8] (fun n i => ∃ q : Nat, c ≤ q ∧ q ≤ m ∧ i = .int .i64 q ∧ n = .int .u32 (dec ((D.take q).drop c) : Nat)) (fun _ i => m - (intOf i).toNat)
                case atStart => exact ⟨c, Nat.le_refl _, hcm, rfl, by rw [List.drop_eq_nil_of_le (by rw [List.length_take]; omega)]; rfl⟩
                case round =>
                  obtain ⟨q, hq1, hq2, rfl, rfl⟩ := hrel
                  obtain ⟨X, hX⟩ : ∃ X, dec ((D.take q).drop c) = X := ⟨_, rfl⟩
                  have hXl : X < 10 ^ (q - c) := by
                    rw [← hX]
                    refine Nat.lt_of_lt_of_le (dec_lt (digitsB_sub HDIG.out c q)) (Nat.pow_le_pow_right (by decide) ?_)
                    rw [List.length_drop, List.length_take]; omega
                  rw [hX]
                  by_cases hlt : q < m
                  · have hqI : (q : Int) < (m : Int) := by omega
                    have hqD : q < D.length := by omega
                    have hix := fun W => run_pb D q W hqD
                    obtain ⟨h48, h57⟩ := digit_at HDIG.out hqD
                    have hX8 : X < 100000000 := Nat.lt_of_lt_of_le hXl (Nat.le_trans (Nat.pow_le_pow_right (by decide) (show q - c ≤ 8 by omega)) (by decide))
                    have hX' : dec ((D.take (q + 1)).drop c) = X * 10 + (pb D q - 48) := by rw [dec_more hqD hq1, hX]
                    obtain ⟨p, hp⟩ : ∃ p, pb D q = p := ⟨_, rfl⟩
                    obtain ⟨d, hd⟩ : ∃ d, p - 48 = d := ⟨_, rfl⟩
                    obtain ⟨Y, hY⟩ : ∃ Y, X * 10 + d = Y := ⟨_, rfl⟩
                    rw [hp] at h48 h57 hX'
                    simp only [hp] at hix
                    rw [hd, hY] at hX'
                    have hsub : (p : Int) - 48 = (d : Int) := by omega
                    have hmul : 10 * (X : Int) + (d : Int) = (Y : Int) := by omega
                    have hmx : 10 * (X : Int) ≤ 999999990 := by omega
                    have hYI : (Y : Int) ≤ 999999999 := by omega
                    have hd9 : (d : Int) ≤ 9 := by omega
                    have HXX := Lib.hid hX'
                    clear hX hXl hX' hp hd hY
                    go_wp2_with fail
                    go_round
                    case rel => exact ⟨q + 1, by omega, by omega, by go_num, by rw [HXX.out]⟩
                    case measure => simp [intOf]; omega
                  · obtain rfl : q = m := by omega
                    have hqI : ¬ (q : Int) < (q : Int) := by omega
                    have hX9 : X < 1000000000 := Nat.lt_of_lt_of_le hXl (Nat.le_trans (Nat.pow_le_pow_right (by decide) hm9) (by decide))
                    have HXX := Lib.hid hX
                    have hrow := HO.out.row
                    have HST : Hid (val (P ++ [X]) + 1000000000 ^ (P ++ [X]).length * dec (D.take c) = dec D) := parse_step HV.out (by rw [← hX]; exact dec_cut hm hcm) (by omega)
                    clear hX hXl
                    go_wp2_with (at_builtin; refine wpList_append_own _ rfl _ _ 22 rfl w1.heap.size 99 i0 (.int .u32 0) 1 4 underU32s hi hiz0 hiz1 hiz2 rfl (by decide) _ _ _ rfl (hrow.alloc _) ⟨wr.heap.size, 0, none⟩ 1 1 [.int .u32 (X : Int)] rfl rfl (cell_one_new _ _ _) (by simp [Value.oneCell']) (by unfold maxLen; omega) (by omega) (by have := HB.out.size; simp; omega) ?_; intro v' w9 hown' hgrow _)
                    rw [← u32s_snoc] at hown'
                    have hl' : P.length + 1 = (P ++ [X]).length := by simp
                    rw [hl'] at hown'
                    have hOn : OwnL w1.heap.size w9 v' (P ++ [X]) := ⟨hown', fun x hx => by
                      rcases List.mem_append.1 hx with hx | hx
                      · exact HO.out.2 x hx
                      · simp at hx; omega⟩
                    have hBn : Below w1.heap.size w1 w9 := (HB.out.alloc HB.out.size _).grown hgrow (by have := HB.out.size; simp; omega) (fun k e => (hrow.lt k e).1)
                    have hc := HC.out
                    have hpp : P.length * 9 + q = D.length := HPP.out.1 hmp
                    refine ⟨⟨c, (q : Int) - 9, P ++ [X], rfl, fun _ => by omega, fun _ => by omega, by omega, by omega, hOn, by rw [List.length_append, List.length_singleton]; exact ⟨fun _ => by omega, by omega⟩, fun x hx => ?_, HST.out, hBn⟩, by simp [intOf]; omega⟩
                    rcases List.mem_append.1 hx with hx | hx
                    · exact HS.out x hx
                    · simp at hx; omega
              · obtain rfl := ht2 (by omega)
                have hvP : val P = dec D := by have := HV.out; rw [List.take_zero, dec_nil] at this; omega
                have HZ : Hid (valS true P = parseZ l) := by show _ = _; rw [HVZ.out]; unfold valS; rw [hvP]; rfl
                have HBD : Hid ((valS true P).natAbs < 1000000000 ^ 23) := by
                  show _ < _
                  rw [valS_abs, hvP]
                  exact Nat.lt_of_lt_of_le (dec_lt HDIG.out) (Nat.le_trans (Nat.pow_le_pow_right (by decide) HLN.out) (by decide))
                obtain ⟨aL, cL, rfl, -⟩ := HO.out.lim
                have N2 := (N1.out _ HB.out).keep
                clear hvP ht1 ht2 ht3
                go_wp2_with fail
                refine (rnum_at true _ P _ HO.out.lim HS.out 23 HBD.out).mono ?_
                rintro e w4 ⟨⟨u4, rfl, h4⟩, hb4⟩
                rw [HZ.out] at h4
                have H4 := Lib.hid h4
                obtain ⟨s4, a4, n4, c4, rfl, -⟩ := h4.shape
                have hN := N2.out _ hb4
                have N := Lib.hid hN
                obtain ⟨g0, g1, f0, f1⟩ := hN.c2
                have B4 := Lib.hid (Below.step (Below.step B1.out HB.out) hb4)
                clear h4 hb4 hN
                go_wp2_with fail
                obtain ⟨W', e, hst, hbx⟩ := N.out.store (ys := [.bool s4, .slice a4 n4 c4]) rfl rfl
                simp only [setAll] at e
                rw [e]
                exact ret_ne (t := 2) (s0 := 3) rfl rfl rfl rfl hbx ⟨⟨_, by rw [HE.out], H4.out.stored hst⟩, hst.below w (by omega) B4.out⟩
    · have HLD : Hid (belowB l = false ∧ digitsOf l = l) := below_no h0 h45
      have HD : Hid (l.length ≤ 2000000) := hl
      have hb45 : ((pb l 0 : Int) == 45) = false := by rw [beq_eq_false_iff_ne]; omega
      clear h0 h45 hl
      go_enter Tryz.func28, Tryz.ntmps28
      go_wp2_with fail
      clear e0 hix hb45 q0 q3
      refine (rDigits_any l _ HD.out).mono ?_
      rintro e w1 ⟨rfl, hb1⟩
      have B1 := Lib.hid (Below.step B0.out hb1)
      have N1 := (N1.out _ hb1).keep
      clear hb1
      cases hp : plainB l with
      | false =>
        have HE : Hid (parseE l = 4) := parseE_form (by unfold formB; rw [HLD.out.2, hp]; rfl)
        clear hp
        have n1 := N1.out _ (Below.refl _ _)
        obtain ⟨r1, r2, r3, r4⟩ := n1.c2
        obtain ⟨W', e, hst, hbx⟩ := n1.store (ys := [.bool false, .slice none 0 0]) rfl rfl
        simp only [setAll] at e
        have FB := Lib.hid (hst.below w (by omega) B1.out)
        have FX := Lib.hid hbx
        clear n1 hst hbx
        go_wp2_with fail
        exact ret_ne (t := 2) (s0 := 3) rfl rfl rfl rfl FX.out ⟨⟨_, by rw [HE.out], by rw [parseZ_no HE.out (by decide)]; exact (OkAt.noughts _).wide0 (by decide)⟩, FB.out⟩
      | true =>
        have HF : Hid (formB l = false) := by show _ = _; unfold formB; rw [HLD.out.1, HLD.out.2, hp]; rfl
        have HP := Lib.hid hp
        clear hp
        by_cases hlen : 200 < l.length
        · have HE := Lib.hid (parseE_long HF.out (by rw [HLD.out.2]; exact hlen))
          have hlenI : (200 : Int) < (l.length : Int) := by omega
          clear hlen
          have n1 := N1.out _ (Below.refl _ _)
          obtain ⟨r1, r2, r3, r4⟩ := n1.c2
          obtain ⟨W', e, hst, hbx⟩ := n1.store (ys := [.bool false, .slice none 0 0]) rfl rfl
          simp only [setAll] at e
          have FB := Lib.hid (hst.below w (by omega) B1.out)
          have FX := Lib.hid hbx
          clear n1 hst hbx
          go_wp2_with fail
          exact ret_ne (t := 2) (s0 := 3) rfl rfl rfl rfl FX.out ⟨⟨_, by rw [HE.out], by rw [parseZ_no HE.out (by decide)]; exact (OkAt.noughts _).wide0 (by decide)⟩, FB.out⟩
        · have HE := Lib.hid (parseE_ok HF.out (by rw [HLD.out.2]; omega))
          have HDIG : Hid (digitsB l = true) := digits_plain HP.out
          have hlenI : ¬ (200 : Int) < (l.length : Int) := by omega
          have HLN : Hid (l.length ≤ 200) := by show _ ≤ _; omega
          have HVZ : Hid (parseZ l = (dec l : Int)) := by show _ = _; unfold parseZ; rw [HE.out, HLD.out.1, HLD.out.2]; rfl
          clear hlen
          go_wp2_with fail
          go_loopw [5, 6] (fun v t wr => ∃ (m : Nat) (ti : Int) (P : List Nat), t = .int .i64 ti ∧ (0 < ti → ti = m) ∧ (ti ≤ 0 → m = 0) ∧ -9 ≤ ti ∧ m ≤ l.length ∧ OwnL w1.heap.size wr v P ∧ ((0 < m → P.length * 9 + m = l.length) ∧ P.length * 9 ≤ l.length + 8) ∧ (∀ x ∈ P, x < 1000000000) ∧ val P + 1000000000 ^ P.length * dec (l.take m) = dec l ∧ Below w1.heap.size w1 wr) (fun _ t _ => (intOf t).toNat)
          case atStart => exact ⟨l.length, (l.length : Int), [], rfl, fun _ => rfl, fun _ => by omega, by omega, Nat.le_refl _, OwnL.nil _ _, ⟨fun _ => by simp, by simp⟩, by simp, by rw [List.take_length]; simp [val], Below.refl _ _⟩
          case round =>
            obtain ⟨m, ti, P, rfl, ht1, ht2, ht3, hm, hown, hP, hs, hv, hB⟩ := hrel
            have HV := Lib.hid hv
            have HS := Lib.hid hs
            have HB := Lib.hid hB
            have HO := Lib.hid hown
            have HPP : Hid ((0 < m → P.length * 9 + m = l.length) ∧ P.length * 9 ≤ l.length + 8) := hP
            have hPl := hP.2
            clear hP
            clear hv hs hB hown
            by_cases hpos : 0 < ti
            · obtain rfl := ht1 hpos
              have hln := HLN.out
              have hmp : 0 < m := by omega
              obtain ⟨c, hc⟩ : ∃ c, m - 9 = c := ⟨_, rfl⟩
              have hmax : max (0 : Int) ((m : Int) - 9) = (c : Int) := by omega
              have hcm : c ≤ m := by omega
              have hm9 : m - c ≤ 9 := by omega
              have HC := Lib.hid hc
              clear ht1 ht2 ht3 hc
              go_wp2_with fail
              go_loop [7, 8] (fun n i => ∃ q : Nat, c ≤ q ∧ q ≤ m ∧ i = .int .i64 q ∧ n = .int .u32 (dec ((l.take q).drop c) : Nat)) (fun _ i => m - (intOf i).toNat)
              case atStart => exact ⟨c, Nat.le_refl _, hcm, rfl, by rw [List.drop_eq_nil_of_le (by rw [List.length_take]; omega)]; rfl⟩
              case round =>
                obtain ⟨q, hq1, hq2, rfl, rfl⟩ := hrel
                obtain ⟨X, hX⟩ : ∃ X, dec ((l.take q).drop c) = X := ⟨_, rfl⟩
                have hXl : X < 10 ^ (q - c) := by
                  rw [← hX]
                  refine Nat.lt_of_lt_of_le (dec_lt (digitsB_sub HDIG.out c q)) (Nat.pow_le_pow_right (by decide) ?_)
                  rw [List.length_drop, List.length_take]; omega
                rw [hX]
                by_cases hlt : q < m
                · have hqI : (q : Int) < (m : Int) := by omega
                  have hqD : q < l.length := by omega
                  have hix := fun W => run_pb l q W hqD
                  obtain ⟨h48, h57⟩ := digit_at HDIG.out hqD
                  have hX8 : X < 100000000 := Nat.lt_of_lt_of_le hXl (Nat.le_trans (Nat.pow_le_pow_right (by decide) (show q - c ≤ 8 by omega)) (by decide))
                  have hX' : dec ((l.take (q + 1)).drop c) = X * 10 + (pb l q - 48) := by rw [dec_more hqD hq1, hX]
                  obtain ⟨p, hp⟩ : ∃ p, pb l q = p := ⟨_, rfl⟩
                  obtain ⟨d, hd⟩ : ∃ d, p - 48 = d := ⟨_, rfl⟩
                  obtain ⟨Y, hY⟩ : ∃ Y, X * 10 + d = Y := ⟨_, rfl⟩
                  rw [hp] at h48 h57 hX'
                  simp only [hp] at hix
                  rw [hd, hY] at hX'
                  have hsub : (p : Int) - 48 = (d : Int) := by omega
                  have hmul : 10 * (X : Int) + (d : Int) = (Y : Int) := by omega
                  have hmx : 10 * (X : Int) ≤ 999999990 := by omega
                  have hYI : (Y : Int) ≤ 999999999 := by omega
                  have hd9 : (d : Int) ≤ 9 := by omega
                  have HXX := Lib.hid hX'
                  clear hX hXl hX' hp hd hY
                  go_wp2_with fail
                  go_round
                  case rel => exact ⟨q + 1, by omega, by omega, by go_num, by rw [HXX.out]⟩
                  case measure => simp [intOf]; omega
                · obtain rfl : q = m := by omega
                  have hqI : ¬ (q : Int) < (q : Int) := by omega
                  have hX9 : X < 1000000000 := Nat.lt_of_lt_of_le hXl (Nat.le_trans (Nat.pow_le_pow_right (by decide) hm9) (by decide))
                  have HXX := Lib.hid hX
                  have hrow := HO.out.row
                  have HST : Hid (val (P ++ [X]) + 1000000000 ^ (P ++ [X]).length * dec (l.take c) = dec l) := parse_step HV.out (by rw [← hX]; exact dec_cut hm hcm) (by omega)
                  clear hX hXl
                  go_wp2_with (at_builtin; refine wpList_append_own _ rfl _ _ 22 rfl w1.heap.size 99 i0 (.int .u32 0) 1 4 underU32s hi hiz0 hiz1 hiz2 rfl (by decide) _ _ _ rfl (hrow.alloc _) ⟨wr.heap.size, 0, none⟩ 1 1 [.int .u32 (X : Int)] rfl rfl (cell_one_new _ _ _) (by simp [Value.oneCell']) (by unfold maxLen; omega) (by omega) (by have := HB.out.size; simp; omega) ?_; intro v' w9 hown' hgrow _)
                  rw [← u32s_snoc] at hown'
                  have hl' : P.length + 1 = (P ++ [X]).length := by simp
                  rw [hl'] at hown'
                  have hOn : OwnL w1.heap.size w9 v' (P ++ [X]) := ⟨hown', fun x hx => by
                    rcases List.mem_append.1 hx with hx | hx
                    · exact HO.out.2 x hx
                    · simp at hx; omega⟩
                  have hBn : Below w1.heap.size w1 w9 := (HB.out.alloc HB.out.size _).grown hgrow (by have := HB.out.size; simp; omega) (fun k e => (hrow.lt k e).1)
                  have hc := HC.out
                  have hpp : P.length * 9 + q = l.length := HPP.out.1 hmp
                  refine ⟨⟨c, (q : Int) - 9, P ++ [X], rfl, fun _ => by omega, fun _ => by omega, by omega, by omega, hOn, by rw [List.length_append, List.length_singleton]; exact ⟨fun _ => by omega, by omega⟩, fun x hx => ?_, HST.out, hBn⟩, by simp [intOf]; omega⟩
                  rcases List.mem_append.1 hx with hx | hx
                  · exact HS.out x hx
                  · simp at hx; omega
            · obtain rfl := ht2 (by omega)
              have hvP : val P = dec l := by have := HV.out; rw [List.take_zero, dec_nil] at this; omega
              have HZ : Hid (valS false P = parseZ l) := by show _ = _; rw [HVZ.out]; unfold valS; rw [hvP]; rfl
              have HBD : Hid ((valS false P).natAbs < 1000000000 ^ 23) := by
                show _ < _
                rw [valS_abs, hvP]
                exact Nat.lt_of_lt_of_le (dec_lt HDIG.out) (Nat.le_trans (Nat.pow_le_pow_right (by decide) HLN.out) (by decide))
              obtain ⟨aL, cL, rfl, -⟩ := HO.out.lim
              have N2 := (N1.out _ HB.out).keep
              clear hvP ht1 ht2 ht3
              go_wp2_with fail
              refine (rnum_at false _ P _ HO.out.lim HS.out 23 HBD.out).mono ?_
              rintro e w4 ⟨⟨u4, rfl, h4⟩, hb4⟩
              rw [HZ.out] at h4
              have H4 := Lib.hid h4
              obtain ⟨s4, a4, n4, c4, rfl, -⟩ := h4.shape
              have hN := N2.out _ hb4
              have N := Lib.hid hN
              obtain ⟨g0, g1, f0, f1⟩ := hN.c2
              have B4 := Lib.hid (Below.step (Below.step B1.out HB.out) hb4)
              clear h4 hb4 hN
              go_wp2_with fail
              obtain ⟨W', e, hst, hbx⟩ := N.out.store (ys := [.bool s4, .slice a4 n4 c4]) rfl rfl
              simp only [setAll] at e
              rw [e]
              exact ret_ne (t := 2) (s0 := 3) rfl rfl rfl rfl hbx ⟨⟨_, by rw [HE.out], H4.out.stored hst⟩, hst.below w (by omega) B4.out⟩

end Go.Proofs.YtgpoljbccimkjaaGreatDoor
