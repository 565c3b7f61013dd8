/- Walk: the law LimbsDivs. -/
import Derived.Test.YtgpoljbccimkjaaGreatDoorOwn2
import Derived.Test.YtgpoljbccimkjaaGreatDoorTab
namespace Go.Proofs.YtgpoljbccimkjaaGreatDoor
open Go.RowKit Go.Shelf

set_option maxRecDepth 100000 in
set_option maxHeartbeats 4000000 in
theorem LimbsDivs_true (w : World) (s1 : Bool) (v1 : Value) (l1 : List Nat) (h1 : Lim w v1 l1) (s2 : Bool) (v2 : Value) (l2 : List Nat) (h2 : Lim w v2 l2) (_ : Tab w) :
    Calls Tryz.prog 3 #[.agg #[.bool s1, v1], .agg #[.bool s2, v2]] w fun e w' => e = .returned (.bool true) ∧ Below w.heap.size w w' := by
  have h1' := h1
  have h2' := h2
  obtain ⟨a1, c1, rfl, -⟩ := h1
  obtain ⟨a2, c2, rfl, -⟩ := h2
  have m1 := h1'.max
  have m2 := h2'.max
  obtain ⟨W0, e0, n1, n2, hb0, hz0, hz1⟩ := box2 w (.bool s1) (.slice a1 l1.length c1) (.bool s2) (.slice a2 l2.length c2)
  have U1 := keepLim (h1'.below hb0)
  have U2 := keepLim (h2'.below hb0)
  have N1 := n1.v.keep
  have N2 := n2.v.keep
  have B0 := Lib.hid hb0
  obtain ⟨p1, p2, -, -⟩ := n1
  obtain ⟨p3, p4, -, -⟩ := n2
  clear h1' h2' hb0 hz0 hz1
  go_enter Tryz.func3, Tryz.ntmps3
  obtain ⟨W1, e1, b1, g1, g2⟩ : ∃ W1, W0.alloc (.cells #[.bool s1, .slice a1 l1.length c1, .bool s2, .slice a2 l2.length c2] 24) = W1 ∧ Below W0.heap.size W0 W1 ∧ W1.cell? ⟨W0.heap.size, 1, none⟩ = some (.slice a1 l1.length c1) ∧ W1.cell? ⟨W0.heap.size, 3, none⟩ = some (.slice a2 l2.length c2) := ⟨_, rfl, (by repeat (first | exact Below.refl _ _ | with_reducible refine Below.drew ?_ | with_reducible refine below_drewN ?_ _ | with_reducible refine Below.setCell ?_ (by first | (simp; done) | (simp; omega) | omega) _ | with_reducible refine Below.alloc ?_ (by first | (simp; done) | (simp; omega) | omega) _)), by go_simp, by go_simp⟩
  have R1 := Lib.hid (Below.step B0.out b1)
  have I1 := Lib.hid R1.out.size
  have N1 := (N1.out _ b1).keep
  have N2 := (N2.out _ b1).keep
  have U1 := keepLim (U1.out _ b1)
  have U2 := keepLim (U2.out _ b1)
  clear b1
  go_wp2_with fail
  by_cases hbig : 60 < l1.length ∨ 60 < l2.length
  · refine (great2 (most := 60) (r := true) rfl (by decide) m1 m2 g1 g2 (by simpa using hbig)).mono ?_
    rintro e w2 ⟨rfl, rfl⟩
    go_wp2_with fail
    go_ret
    exact ⟨rfl, R1.out⟩
  · refine (great2 (most := 60) (r := false) rfl (by decide) m1 m2 g1 g2 (by simpa using hbig)).mono ?_
    rintro e w2 ⟨rfl, rfl⟩
    have K : Hid (l1.length ≤ 60 ∧ l2.length ≤ 60) := by show _ ∧ _; omega
    have HA := (NumAt.of (s := s1) (k := 60) (U1.out _ (Below.refl _ _)) (by have := K.out; omega)).keep
    have HB := (NumAt.of (s := s2) (k := 60) (U2.out _ (Below.refl _ _)) (by have := K.out; omega)).keep
    have RW := R1
    clear hbig g1 g2 m1 m2 p1 p2 p3 p4 e0 e1 R1
    obtain ⟨p1, p2, -, -⟩ := (N1.out _ (Below.refl _ _)).c2
    obtain ⟨p3, p4, -, -⟩ := (N2.out _ (Below.refl _ _)).c2
    go_wp2_with fail
    refine (TwinNum_room s1 _ l1 _ (U1.out _ (Below.refl _ _)) (by have := K.out; omega)).mono ?_
    rintro e w5 ⟨⟨aX, cX, rfl, o5⟩, hb5⟩
    obtain ⟨W5, e5, n5, b5, -⟩ := box1 w5 (.bool s1) (.slice aX l1.length cX)
    have R5 := Below.step hb5 b5
    have I5 : Hid (W1.heap.size ≤ w5.heap.size ∧ w5.heap.size ≤ W5.heap.size) := ⟨hb5.size, b5.size⟩
    have N1 := (N1.out _ R5).keep
    have N2 := (N2.out _ R5).keep
    have U1 := keepLim (U1.out _ R5)
    have U2 := keepLim (U2.out _ R5)
    have HA := (HA.out _ R5).keep
    have HB := (HB.out _ R5).keep
    have TX := keepLim (o5.lim.below b5)
    have OX := (o5.front1.below b5).keep
    have SX := Lib.hid o5.front1.within
    have HX := (NumAt.of (s := s1) (k := 60) (o5.front1.lim.below b5) (by have := K.out; omega)).keep
    have N5 := n5.v.keep
    have RW := Lib.hid (Below.step RW.out R5)
    clear hb5 n5 b5 R5 o5 p1 p2 p3 p4
    obtain ⟨p1, p2, -, -⟩ := (N1.out _ (Below.refl _ _)).c2
    obtain ⟨p3, p4, -, -⟩ := (N2.out _ (Below.refl _ _)).c2
    go_wp2_with fail
    refine (TwinNum_room s2 _ l2 _ (U2.out _ (Below.refl _ _)) (by have := K.out; omega)).mono ?_
    rintro e w6 ⟨⟨aY, cY, rfl, o6⟩, hb6⟩
    obtain ⟨W6, e6, n6, b6, -⟩ := box1 w6 (.bool s2) (.slice aY l2.length cY)
    have R6 := Below.step hb6 b6
    have I6 : Hid (W5.heap.size ≤ w6.heap.size ∧ w6.heap.size ≤ W6.heap.size) := ⟨hb6.size, b6.size⟩
    have N1 := (N1.out _ R6).keep
    have N2 := (N2.out _ R6).keep
    have U1 := keepLim (U1.out _ R6)
    have U2 := keepLim (U2.out _ R6)
    have HA := (HA.out _ R6).keep
    have HB := (HB.out _ R6).keep
    have TX := keepLim (TX.out _ R6)
    have OX := (OX.out _ R6).keep
    have HX := (HX.out _ R6).keep
    have N5 := (N5.out _ R6).keep
    have TY := keepLim (o6.lim.below b6)
    have OY := (o6.front1.below b6).keep
    have SY := Lib.hid o6.front1.within
    have HY := (NumAt.of (s := s2) (k := 60) (o6.front1.lim.below b6) (by have := K.out; omega)).keep
    have N6 := n6.v.keep
    have RW := Lib.hid (Below.step RW.out R6)
    clear hb6 n6 b6 R6 o6 p1 p2 p3 p4
    obtain ⟨p1, p2, -, -⟩ := (N5.out _ (Below.refl _ _)).c2
    obtain ⟨p3, p4, -, -⟩ := (N6.out _ (Below.refl _ _)).c2
    go_wp2_with fail
    refine (Div_own (s := s1) (s' := s2) (k := 60) (OX.out _ (Below.refl _ _)).lim (OY.out _ (Below.refl _ _)).lim (by have := K.out; omega) (by have := K.out; omega) (by decide)).mono ?_
    rintro e w7 ⟨⟨s7, a7, l7, c7, s8, a8, l8, c8, rfl, o7, o8, oA, q7, q8, z7, z8⟩, hb7⟩
    obtain ⟨W7, e7, m7, m8, b7, -⟩ := box2 w7 (.bool s7) (.slice a7 l7.length c7) (.bool s8) (.slice a8 l8.length c8)
    have R7 := Below.step hb7 b7
    have I7 : Hid (W6.heap.size ≤ w7.heap.size ∧ w7.heap.size ≤ W7.heap.size) := ⟨hb7.size, b7.size⟩
    have N1 := (N1.out _ R7).keep
    have N2 := (N2.out _ R7).keep
    have U1 := keepLim (U1.out _ R7)
    have U2 := keepLim (U2.out _ R7)
    have HA := (HA.out _ R7).keep
    have HB := (HB.out _ R7).keep
    have TX := keepLim (TX.out _ R7)
    have OX := (OX.out _ R7).keep
    have HX := (HX.out _ R7).keep
    have N5 := (N5.out _ R7).keep
    have TY := keepLim (TY.out _ R7)
    have OY := (OY.out _ R7).keep
    have HY := (HY.out _ R7).keep
    have N6 := (N6.out _ R7).keep
    have O7 := (o7.below b7).keep
    have S7 := Lib.hid o7.within
    have O8 := (o8.below b7).keep
    have S8 := Lib.hid o8.within
    have SA := Lib.hid oA
    have H7 := (q7.below b7).keep
    have H8 := (q8.below b7).keep
    have SZ7 := Lib.hid z7
    have SZ8 := Lib.hid z8
    have N7 := m7.v.keep
    have N8 := m8.v.keep
    have RW := Lib.hid (Below.step RW.out R7)
    clear hb7 m7 m8 b7 R7 p1 p2 p3 p4
    obtain ⟨p1, p2, -, -⟩ := (N5.out _ (Below.refl _ _)).c2
    obtain ⟨p3, p4, -, -⟩ := (N6.out _ (Below.refl _ _)).c2
    clear o7 o8 oA q7 q8 z7 z8
    go_wp2_with fail
    refine (Gcd_own (HX.out _ (Below.refl _ _)) (HY.out _ (Below.refl _ _)) (by decide) (by decide)).mono ?_
    rintro e w9 ⟨⟨s9, a9, l9, c9, rfl, o9, q9, z9⟩, hb9⟩
    obtain ⟨W9, e9, n9, b9, -⟩ := box1 w9 (.bool s9) (.slice a9 l9.length c9)
    have R9 := Below.step hb9 b9
    have I9 : Hid (W7.heap.size ≤ w9.heap.size ∧ w9.heap.size ≤ W9.heap.size) := ⟨hb9.size, b9.size⟩
    have N1 := (N1.out _ R9).keep
    have N2 := (N2.out _ R9).keep
    have U1 := keepLim (U1.out _ R9)
    have U2 := keepLim (U2.out _ R9)
    have HA := (HA.out _ R9).keep
    have HB := (HB.out _ R9).keep
    have TX := keepLim (TX.out _ R9)
    have OX := (OX.out _ R9).keep
    have HX := (HX.out _ R9).keep
    have N5 := (N5.out _ R9).keep
    have TY := keepLim (TY.out _ R9)
    have OY := (OY.out _ R9).keep
    have HY := (HY.out _ R9).keep
    have N6 := (N6.out _ R9).keep
    have O7 := (O7.out _ R9).keep
    have O8 := (O8.out _ R9).keep
    have H7 := (H7.out _ R9).keep
    have H8 := (H8.out _ R9).keep
    have N7 := (N7.out _ R9).keep
    have N8 := (N8.out _ R9).keep
    have O9 := (o9.below b9).keep
    have S9 := Lib.hid o9.within
    have H9 := (q9.below b9).keep
    have SZ9 := Lib.hid z9
    have N9 := n9.v.keep
    have RW := Lib.hid (Below.step RW.out R9)
    clear hb9 n9 b9 R9 o9 q9 z9 p1 p2 p3 p4
    obtain ⟨p1, p2, -, -⟩ := (N1.out _ (Below.refl _ _)).c2
    obtain ⟨p3, p4, -, -⟩ := (N2.out _ (Below.refl _ _)).c2
    go_wp2_with fail
    refine (rDiv_same (s := s1) (s' := s2) (k := 60) (U1.out _ (Below.refl _ _)) (U2.out _ (Below.refl _ _)) (by have := K.out; omega) (by have := K.out; omega) (by decide)).mono ?_
    rintro e w10 ⟨⟨u10, u11, rfl, q10, q11⟩, hb10⟩
    obtain ⟨s10, a10, n10, c10, rfl, -⟩ := q10.shape
    obtain ⟨s11, a11, n11, c11, rfl, -⟩ := q11.shape
    obtain ⟨W10, e10, m10, m11, b10, -⟩ := box2 w10 (.bool s10) (.slice a10 n10 c10) (.bool s11) (.slice a11 n11 c11)
    have R10 := Below.step hb10 b10
    have I10 : Hid (W9.heap.size ≤ w10.heap.size ∧ w10.heap.size ≤ W10.heap.size) := ⟨hb10.size, b10.size⟩
    have N1 := (N1.out _ R10).keep
    have N2 := (N2.out _ R10).keep
    have U1 := keepLim (U1.out _ R10)
    have U2 := keepLim (U2.out _ R10)
    have HA := (HA.out _ R10).keep
    have HB := (HB.out _ R10).keep
    have TX := keepLim (TX.out _ R10)
    have OX := (OX.out _ R10).keep
    have HX := (HX.out _ R10).keep
    have N5 := (N5.out _ R10).keep
    have TY := keepLim (TY.out _ R10)
    have OY := (OY.out _ R10).keep
    have HY := (HY.out _ R10).keep
    have N6 := (N6.out _ R10).keep
    have O7 := (O7.out _ R10).keep
    have O8 := (O8.out _ R10).keep
    have H7 := (H7.out _ R10).keep
    have H8 := (H8.out _ R10).keep
    have N7 := (N7.out _ R10).keep
    have N8 := (N8.out _ R10).keep
    have O9 := (O9.out _ R10).keep
    have H9 := (H9.out _ R10).keep
    have N9 := (N9.out _ R10).keep
    have H10 := (q10.below b10).keep
    have H11 := (q11.below b10).keep
    have N10 := m10.v.keep
    have N11 := m11.v.keep
    have RW := Lib.hid (Below.step RW.out R10)
    clear hb10 m10 m11 b10 R10 p1 p2 p3 p4
    clear q10 q11
    go_upto_region 8 with fail
    clear e5 e6 e7 e9 e10
    rename_i hK0 K1 hK1
    refine wp_region_known [(42, true), (43, false), (44, false), (47, true), (48, false), (49, false), (50, false), (53, false), (54, false), (55, false), (60, true), (61, false), (62, false), (63, false), (66, true), (67, false), (68, false), (69, false), (72, true), (73, false), (74, false)]
      [(9, IsV (.int .i64 (divC s1 l1 s2 l2))), (13, IsV (.int .i64 (divC s1 l1 s2 l2))), (2, IsV (.pointer (some ⟨w.heap.size, 0, none⟩))), (3, IsV (.pointer (some ⟨(w.heap.size + 1), 0, none⟩))), (5, IsV (.pointer (some ⟨w5.heap.size, 0, none⟩))), (6, IsV (.pointer (some ⟨w6.heap.size, 0, none⟩))), (7, IsV (.pointer (some ⟨w7.heap.size, 0, none⟩))), (8, IsV (.pointer (some ⟨(w7.heap.size + 1), 0, none⟩))), (10, IsV (.pointer (some ⟨w9.heap.size, 0, none⟩))), (11, IsV (.pointer (some ⟨w10.heap.size, 0, none⟩))), (12, IsV (.pointer (some ⟨(w10.heap.size + 1), 0, none⟩)))]
      [(40, IsO (60) (divQ s1 l1 s2 l2)), (41, IsO (60) (divQ s1 l1 s2 l2)), (45, IsO (60) (divR s1 l1 s2 l2)), (46, IsO (60) (divR s1 l1 s2 l2)), (51, IsV (.int .i64 (divC s1 l1 s2 l2))), (52, IsV (.int .i64 (divC s1 l1 s2 l2))), (56, IsO (max 60 60) (((Int.gcd (numZ s1 l1) (numZ s2 l2) : Nat) : Int))), (57, IsN 60 (numZ s1 l1)), (58, IsN 60 (numZ s2 l2)), (59, IsO (max 60 60) (((Int.gcd (numZ s1 l1) (numZ s2 l2) : Nat) : Int))), (64, IsT s1 aX cX l1), (65, IsU s1 a1 c1 l1), (70, IsT s2 aY cY l2), (71, IsU s2 a2 c2 l2)]
      87 (by kernel_rfl) rfl (by kernel_rfl) (by kernel_rfl) ⟨rfl, rfl, rfl, rfl, rfl, rfl, rfl, rfl, rfl, rfl, rfl, trivial⟩ ⟨IsV.grows _ , IsV.grows _ , IsV.grows _ , IsV.grows _ , IsV.grows _ , IsV.grows _ , IsV.grows _ , IsV.grows _ , IsV.grows _ , IsV.grows _ , IsV.grows _ , IsO.grows _ _ , IsO.grows _ _ , IsO.grows _ _ , IsO.grows _ _ , IsV.grows _ , IsV.grows _ , IsO.grows _ _ , IsN.grows _ _ , IsN.grows _ _ , IsO.grows _ _ , IsT.grows _ _ _ _ , IsU.grows _ _ _ _ , IsT.grows _ _ _ _ , IsU.grows _ _ _ _ , trivial⟩ ?_ ?_
    · refine AllStep.cons (step_load (fun _ _ h => h) (fun _ hb => (N7.out _ hb).c2) (fun w hb => H7.out w hb)) ?_
      refine AllStep.cons (step_load (fun _ _ h => h) (fun _ hb => (N10.out _ hb).c2) (fun w hb => H10.out w hb)) ?_
      refine AllStep.cons (step_call2 (Plain.of Tryz.func19 rfl rfl) (fun _ _ _ _ hu hv => (Same_num hu hv true (decide_eq_true rfl)).mono (fun _ _ h => ansV h))) ?_
      refine AllStep.cons (step_not true (fun _ _ h => h) (fun _ => rfl)) ?_
      refine AllStep.cons (step_move (fun _ _ h => h)) ?_
      refine AllStep.cons (step_load (fun _ _ h => h) (fun _ hb => (N8.out _ hb).c2) (fun w hb => H8.out w hb)) ?_
      refine AllStep.cons (step_load (fun _ _ h => h) (fun _ hb => (N11.out _ hb).c2) (fun w hb => H11.out w hb)) ?_
      refine AllStep.cons (step_call2 (Plain.of Tryz.func19 rfl rfl) (fun _ _ _ _ hu hv => (Same_num hu hv true (decide_eq_true rfl)).mono (fun _ _ h => ansV h))) ?_
      refine AllStep.cons (step_not true (fun _ _ h => h) (fun _ => rfl)) ?_
      refine AllStep.cons (step_pickF (fun _ _ h => h) (fun _ _ h => h)) ?_
      refine AllStep.cons (step_move (fun _ _ h => h)) ?_
      refine AllStep.cons (step_move (fun _ _ h => h)) ?_
      refine AllStep.cons (step_move (fun _ _ h => h)) ?_
      refine AllStep.cons (step_neEE (fun _ _ h => h) (fun _ _ h => h) (by simp) (fun _ => rfl)) ?_
      refine AllStep.cons (step_pickF (fun _ _ h => h) (fun _ _ h => h)) ?_
      refine AllStep.cons (step_move (fun _ _ h => h)) ?_
      refine AllStep.cons (step_load (fun _ _ h => h) (fun _ hb => (N9.out _ hb).c2) (fun w hb => H9.out w hb)) ?_
      refine AllStep.cons (step_load (fun _ _ h => h) (fun _ hb => (N1.out _ hb).c2) (fun w hb => HA.out w hb)) ?_
      refine AllStep.cons (step_load (fun _ _ h => h) (fun _ hb => (N2.out _ hb).c2) (fun w hb => HB.out w hb)) ?_
      refine AllStep.cons (step_call2 (Plain.of Tryz.func20 rfl rfl) (fun _ _ _ _ hu hv => rGcd_num hu hv (by decide) (by decide))) ?_
      refine AllStep.cons (step_call2 (Plain.of Tryz.func19 rfl rfl) (fun _ _ _ _ hu hv => (Same_num hu hv true (decide_eq_true rfl)).mono (fun _ _ h => ansV h))) ?_
      refine AllStep.cons (step_not true (fun _ _ h => h) (fun _ => rfl)) ?_
      refine AllStep.cons (step_pickF (fun _ _ h => h) (fun _ _ h => h)) ?_
      refine AllStep.cons (step_move (fun _ _ h => h)) ?_
      refine AllStep.cons (step_load (fun _ _ h => h) (fun _ hb => (N5.out _ hb).c2) (fun w hb => ⟨rfl, TX.out w hb⟩)) ?_
      refine AllStep.cons (step_load (fun _ _ h => h) (fun _ hb => (N1.out _ hb).c2) (fun w hb => ⟨rfl, U1.out w hb⟩)) ?_
      refine AllStep.cons (step_call2 (Plain.of Tryz.func21 rfl rfl) (fun _ _ _ _ hu hv => (LeftNum_at hu hv (by have := K.out; omega)).mono (fun _ _ h => ansV h))) ?_
      refine AllStep.cons (step_not true (fun _ _ h => h) (fun _ => rfl)) ?_
      refine AllStep.cons (step_pickF (fun _ _ h => h) (fun _ _ h => h)) ?_
      refine AllStep.cons (step_move (fun _ _ h => h)) ?_
      refine AllStep.cons (step_load (fun _ _ h => h) (fun _ hb => (N6.out _ hb).c2) (fun w hb => ⟨rfl, TY.out w hb⟩)) ?_
      refine AllStep.cons (step_load (fun _ _ h => h) (fun _ hb => (N2.out _ hb).c2) (fun w hb => ⟨rfl, U2.out w hb⟩)) ?_
      refine AllStep.cons (step_call2 (Plain.of Tryz.func21 rfl rfl) (fun _ _ _ _ hu hv => (LeftNum_at hu hv (by have := K.out; omega)).mono (fun _ _ h => ansV h))) ?_
      refine AllStep.cons (step_not true (fun _ _ h => h) (fun _ => rfl)) ?_
      refine AllStep.cons (step_pickF (fun _ _ h => h) (fun _ _ h => h)) ?_
      exact AllStep.nil
    intro a1 wa hb1 hs1 hd1 hk1
    have N1 := (N1.out _ hb1).keep
    have N2 := (N2.out _ hb1).keep
    have U1 := keepLim (U1.out _ hb1)
    have U2 := keepLim (U2.out _ hb1)
    have HA := (HA.out _ hb1).keep
    have HB := (HB.out _ hb1).keep
    have TX := keepLim (TX.out _ hb1)
    have OX := (OX.out _ hb1).keep
    have HX := (HX.out _ hb1).keep
    have N5 := (N5.out _ hb1).keep
    have TY := keepLim (TY.out _ hb1)
    have OY := (OY.out _ hb1).keep
    have HY := (HY.out _ hb1).keep
    have N6 := (N6.out _ hb1).keep
    have O7 := (O7.out _ hb1).keep
    have O8 := (O8.out _ hb1).keep
    have H7 := (H7.out _ hb1).keep
    have H8 := (H8.out _ hb1).keep
    have N7 := (N7.out _ hb1).keep
    have N8 := (N8.out _ hb1).keep
    have O9 := (O9.out _ hb1).keep
    have H9 := (H9.out _ hb1).keep
    have N9 := (N9.out _ hb1).keep
    have H10 := (H10.out _ hb1).keep
    have H11 := (H11.out _ hb1).keep
    have N10 := (N10.out _ hb1).keep
    have N11 := (N11.out _ hb1).keep
    have RW := Lib.hid (Below.step RW.out hb1)
    have IA := Lib.hid hb1.size
    obtain ⟨u, hx⟩ : ∃ u : Nat → Value, ∀ t, a1.eval (.tmp t) = u t := ⟨_, fun _ => rfl⟩
    have ha : a1 = ⟨#[u 0, u 1, .pointer (some ⟨w.heap.size, 0, none⟩), .pointer (some ⟨(w.heap.size + 1), 0, none⟩), u 4, .pointer (some ⟨w5.heap.size, 0, none⟩), .pointer (some ⟨w6.heap.size, 0, none⟩), .pointer (some ⟨w7.heap.size, 0, none⟩), .pointer (some ⟨(w7.heap.size + 1), 0, none⟩), .int .i64 (divC s1 l1 s2 l2), .pointer (some ⟨w9.heap.size, 0, none⟩), .pointer (some ⟨w10.heap.size, 0, none⟩), .pointer (some ⟨(w10.heap.size + 1), 0, none⟩), .int .i64 (divC s1 l1 s2 l2), u 14, u 15, u 16, u 17, u 18, u 19, u 20, u 21, u 22, u 23, u 24, u 25, u 26, u 27, u 28, u 29, u 30, u 31, u 32, u 33, u 34, u 35, u 36, u 37, u 38, u 39, u 40, u 41, u 42, u 43, u 44, u 45, u 46, u 47, u 48, u 49, u 50, u 51, u 52, u 53, u 54, u 55, u 56, u 57, u 58, u 59, u 60, u 61, u 62, u 63, u 64, u 65, u 66, u 67, u 68, u 69, u 70, u 71, u 72, u 73, .bool false, u 75, u 76, u 77, u 78, u 79, u 80, u 81, u 82, u 83, u 84, u 85, u 86], []⟩ := act_eq hs1 hd1 ⟨hx 0, hx 1, hk1 2, hk1 3, hx 4, hk1 5, hk1 6, hk1 7, hk1 8, hk1 9, hk1 10, hk1 11, hk1 12, hk1 13, hx 14, hx 15, hx 16, hx 17, hx 18, hx 19, hx 20, hx 21, hx 22, hx 23, hx 24, hx 25, hx 26, hx 27, hx 28, hx 29, hx 30, hx 31, hx 32, hx 33, hx 34, hx 35, hx 36, hx 37, hx 38, hx 39, hx 40, hx 41, hx 42, hx 43, hx 44, hx 45, hx 46, hx 47, hx 48, hx 49, hx 50, hx 51, hx 52, hx 53, hx 54, hx 55, hx 56, hx 57, hx 58, hx 59, hx 60, hx 61, hx 62, hx 63, hx 64, hx 65, hx 66, hx 67, hx 68, hx 69, hx 70, hx 71, hx 72, hx 73, hk1 74, hx 75, hx 76, hx 77, hx 78, hx 79, hx 80, hx 81, hx 82, hx 83, hx 84, hx 85, hx 86, trivial⟩
    subst ha
    refine hK1 _ _ ?_
    refine wp_cond_false rfl ?_
    refine wp_skip ?_
    refine hK0 _ _ ?_
    clear hx hs1 hd1 hk1 hb1 hK1 hK0
    go_upto_region 11 with fail
    obtain ⟨WB, eB, nB, bB, sB⟩ : ∃ WB, wa.alloc (.cells #[.int .i64 0, .slice none 0 0, .slice none 0 0, .slice none 0 0, .slice none 0 0, .slice none 0 0, .slice none 0 0, .slice none 0 0, .slice none 0 0, .slice none 0 0, .slice none 0 0, .slice none 0 0, .slice none 0 0] 45) = WB ∧ BoxV WB wa.heap.size [.int .i64 0, nil0, nil0, nil0, nil0, nil0, nil0, nil0, nil0, nil0, nil0, nil0, nil0] ∧ Below wa.heap.size wa WB ∧ wa.heap.size < WB.heap.size := ⟨_, rfl, BoxV.new _ _ _, (Below.refl _ _).alloc (Nat.le_refl _) _, by simp⟩
    rw [eB]
    clear eB
    have Q := Lib.hid (book_new wa WB nB)
    have BW := Lib.hid bB
    clear nB bB sB
    obtain ⟨p1, p2, -, -⟩ := (N5.out _ BW.out).c2
    go_wp2_with fail
    refine (Num_any wa.heap.size wa.heap.size l1.length cX aX s1 _ [] _ Q.out BW.out.size (by simp)).mono ?_
    rintro e v12 ⟨rfl, ⟨vr12, hq⟩, hb⟩
    have Q : Hid (BookAt v12 wa.heap.size wa.heap.size vr12 [⟨.slice aX l1.length cX, nil0, 1⟩]) := hq
    have BW := Lib.hid (BW.out.trans hb)
    clear hq hb p1 p2
    obtain ⟨p1, p2, -, -⟩ := (N6.out _ BW.out).c2
    go_wp2_with fail
    refine (Num_any wa.heap.size wa.heap.size l2.length cY aY s2 _ [⟨.slice aX l1.length cX, nil0, 1⟩] _ Q.out BW.out.size (by simp)).mono ?_
    rintro e v13 ⟨rfl, ⟨vr13, hq⟩, hb⟩
    have Q : Hid (BookAt v13 wa.heap.size wa.heap.size vr13 [⟨.slice aX l1.length cX, nil0, 1⟩, ⟨.slice aY l2.length cY, nil0, 2⟩]) := hq
    have BW := Lib.hid (BW.out.trans hb)
    clear hq hb p1 p2
    obtain ⟨p1, p2, -, -⟩ := (N7.out _ BW.out).c2
    go_wp2_with fail
    refine (Num_any wa.heap.size wa.heap.size l7.length c7 a7 s7 _ [⟨.slice aX l1.length cX, nil0, 1⟩, ⟨.slice aY l2.length cY, nil0, 2⟩] _ Q.out BW.out.size (by simp)).mono ?_
    rintro e v14 ⟨rfl, ⟨vr14, hq⟩, hb⟩
    have Q : Hid (BookAt v14 wa.heap.size wa.heap.size vr14 [⟨.slice aX l1.length cX, nil0, 1⟩, ⟨.slice aY l2.length cY, nil0, 2⟩, ⟨.slice a7 l7.length c7, nil0, 3⟩]) := hq
    have BW := Lib.hid (BW.out.trans hb)
    clear hq hb p1 p2
    obtain ⟨p1, p2, -, -⟩ := (N8.out _ BW.out).c2
    go_wp2_with fail
    refine (Num_any wa.heap.size wa.heap.size l8.length c8 a8 s8 _ [⟨.slice aX l1.length cX, nil0, 1⟩, ⟨.slice aY l2.length cY, nil0, 2⟩, ⟨.slice a7 l7.length c7, nil0, 3⟩] _ Q.out BW.out.size (by simp)).mono ?_
    rintro e v15 ⟨rfl, ⟨vr15, hq⟩, hb⟩
    have Q : Hid (BookAt v15 wa.heap.size wa.heap.size vr15 [⟨.slice aX l1.length cX, nil0, 1⟩, ⟨.slice aY l2.length cY, nil0, 2⟩, ⟨.slice a7 l7.length c7, nil0, 3⟩, ⟨.slice a8 l8.length c8, nil0, 4⟩]) := hq
    have BW := Lib.hid (BW.out.trans hb)
    clear hq hb p1 p2
    obtain ⟨p1, p2, -, -⟩ := (N9.out _ BW.out).c2
    go_wp2_with fail
    refine (Num_any wa.heap.size wa.heap.size l9.length c9 a9 s9 _ [⟨.slice aX l1.length cX, nil0, 1⟩, ⟨.slice aY l2.length cY, nil0, 2⟩, ⟨.slice a7 l7.length c7, nil0, 3⟩, ⟨.slice a8 l8.length c8, nil0, 4⟩] _ Q.out BW.out.size (by simp)).mono ?_
    rintro e v16 ⟨rfl, ⟨vr16, hq⟩, hb⟩
    have Q : Hid (BookAt v16 wa.heap.size wa.heap.size vr16 [⟨.slice aX l1.length cX, nil0, 1⟩, ⟨.slice aY l2.length cY, nil0, 2⟩, ⟨.slice a7 l7.length c7, nil0, 3⟩, ⟨.slice a8 l8.length c8, nil0, 4⟩, ⟨.slice a9 l9.length c9, nil0, 5⟩]) := hq
    have BW := Lib.hid (BW.out.trans hb)
    clear hq hb p1 p2
    go_wp2_with fail
    have i1 := I1.out
    have i5 := I5.out
    have i6 := I6.out
    have i7 := I7.out
    have i9 := I9.out
    have i10 := I10.out
    have iA := IA.out
    have kk := K.out
    have z7 := SZ7.out
    have z8 := SZ8.out
    have z9 := SZ9.out
    refine (Apart_any w.heap.size wa.heap.size wa.heap.size _ [⟨.slice aX l1.length cX, nil0, 1⟩, ⟨.slice aY l2.length cY, nil0, 2⟩, ⟨.slice a7 l7.length c7, nil0, 3⟩, ⟨.slice a8 l8.length c8, nil0, 4⟩, ⟨.slice a9 l9.length c9, nil0, 5⟩] (five l1 l2 l7 l8 l9) _ Q.out (by simp)
      (five_get (P := fun i (e : Ent) => OwnL w.heap.size v16 e.v (five l1 l2 l7 l8 l9 i) ∧ ∀ b, e.v.ownBlock = some b → b < wa.heap.size) ⟨(OX.out _ BW.out).mono (by omega), fun b hb => by have := SX.out b hb; omega⟩ ⟨(OY.out _ BW.out).mono (by omega), fun b hb => by have := SY.out b hb; omega⟩ ⟨(O7.out _ BW.out).mono (by omega), fun b hb => by have := S7.out b hb; omega⟩ ⟨(O8.out _ BW.out).mono (by omega), fun b hb => by have := S8.out b hb; omega⟩ ⟨(O9.out _ BW.out).mono (by omega), fun b hb => by have := S9.out b hb; omega⟩)
      (Sep.groups (four0 W1.heap.size W5.heap.size W6.heap.size W7.heap.size W9.heap.size) grp4 (four0_mono (by omega) (by omega) (by omega) (by omega)) (five_get (P := fun i (e : Ent) => Within e.v (four0 W1.heap.size W5.heap.size W6.heap.size W7.heap.size W9.heap.size (grp4 i)) (four0 W1.heap.size W5.heap.size W6.heap.size W7.heap.size W9.heap.size (grp4 i + 1))) (show Within _ W1.heap.size W5.heap.size from SX.out.mono (by omega) (by omega)) (show Within _ W5.heap.size W6.heap.size from SY.out.mono (by omega) (by omega)) (show Within _ W6.heap.size W7.heap.size from S7.out.mono (by omega) (by omega)) (show Within _ W6.heap.size W7.heap.size from S8.out.mono (by omega) (by omega)) (show Within _ W7.heap.size W9.heap.size from S9.out.mono (by omega) (by omega))) (five_apart SA.out))
      (five_get (P := fun i (e : Ent) => e.n = i + 1 ∧ e.g = nil0) ⟨rfl, rfl⟩ ⟨rfl, rfl⟩ ⟨rfl, rfl⟩ ⟨rfl, rfl⟩ ⟨rfl, rfl⟩) (by simp) (five_all (by omega) (by omega) (by omega) (by omega) (by omega)) (by omega) BW.out.size).mono ?_
    rintro e v19 ⟨rfl, hb⟩
    have RF := Lib.hid ((RW.out.trans (BW.out.mono RW.out.size)).trans hb)
    clear hb
    go_wp2_with fail
    go_ret
    exact ⟨rfl, RF.out⟩

end Go.Proofs.YtgpoljbccimkjaaGreatDoor
