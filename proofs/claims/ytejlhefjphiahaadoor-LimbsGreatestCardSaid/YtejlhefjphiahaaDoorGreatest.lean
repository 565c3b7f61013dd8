/- Walks: the greatest number by which two can be divided. -/
import Derived.Test.YtejlhefjphiahaaDoorLaw
import Derived.Test.YtejlhefjphiahaaDoorSteps2
namespace Go.Proofs.YtejlhefjphiahaaDoor
open Go.RowKit Go.Shelf

theorem sign_gcd (A B : Int) : ¬ (cmpI ((Int.gcd A B : Nat) : Int) 0 < 0) := by
  unfold cmpI
  split
  · omega
  · split <;> omega
theorem gcd_turn (A B : Int) : ((Int.gcd B A : Nat) : Int) = ((Int.gcd A B : Nat) : Int) := by rw [Int.gcd_comm]
theorem gcd_neg (A B : Int) : ((Int.gcd (-A) B : Nat) : Int) = ((Int.gcd A B : Nat) : Int) := by rw [Int.neg_gcd]
theorem gcd_wide (A B C : Int) : ((Int.gcd (A * C) (B * C) : Nat) : Int) = ((Int.gcd A B : Nat) : Int) * (C * cmpI C 0) := by
  rw [Int.gcd_mul_right]
  have h : C * cmpI C 0 = (C.natAbs : Int) := by
    rcases Int.lt_trichotomy C 0 with h | h | h
    · rw [cmpI_lt h]; omega
    · subst h; rfl
    · rw [cmpI_gt h]; omega
  rw [h, Int.natCast_mul]
theorem gcd_left_out {A B : Int} (h : ((Int.gcd A B : Nat) : Int) ≠ 0) : A % ((Int.gcd A B : Nat) : Int) = 0 ∧ B % ((Int.gcd A B : Nat) : Int) = 0 ∧ ((Int.gcd (A / ((Int.gcd A B : Nat) : Int)) (B / ((Int.gcd A B : Nat) : Int)) : Nat) : Int) = 1 := by
  refine ⟨Int.emod_eq_zero_of_dvd (Int.gcd_dvd_left ..), Int.emod_eq_zero_of_dvd (Int.gcd_dvd_right ..), ?_⟩
  rw [Int.gcd_ediv_gcd_ediv_gcd (by omega)]
  rfl
theorem gcd_nought (A B : Int) : ((Int.gcd A B : Nat) : Int) = 0 → A = 0 ∧ B = 0 := fun h => Int.gcd_eq_zero_iff.1 (by omega)

set_option maxRecDepth 100000 in
set_option maxHeartbeats 4000000 in
theorem LimbsGreatest_true (s1 s2 s3 : Bool) (v1 v2 v3 : Value) (l1 l2 l3 : List Nat) (w : World) (h1 : Lim w v1 l1) (h2 : Lim w v2 l2) (h3 : Lim w v3 l3) (htab : Tab w) :
    Calls Tryd.prog 6 #[.agg #[.bool s1, v1], .agg #[.bool s2, v2], .agg #[.bool s3, v3]] w fun e w' => e = .returned (.bool true) ∧ Below w.heap.size w w' := by
  have h1' := h1
  have h2' := h2
  have h3' := h3
  obtain ⟨a1, c1, rfl, -⟩ := h1
  obtain ⟨a2, c2, rfl, -⟩ := h2
  obtain ⟨a3, c3, rfl, -⟩ := h3
  have m1 := h1'.max
  have m2 := h2'.max
  have m3 := h3'.max
  obtain ⟨W0, e0, n1, n2, n3, hb0, hz0, hz1, hz2⟩ := box3 w (.bool s1) (.slice a1 l1.length c1) (.bool s2) (.slice a2 l2.length c2) (.bool s3) (.slice a3 l3.length c3)
  have T0 : Hid (∀ W, Below w.heap.size w W → Tab W) := fun W hb => htab.below hb
  have L1 := keepLim (h1'.below hb0)
  have L2 := keepLim (h2'.below hb0)
  have L3 := keepLim (h3'.below hb0)
  have N1 := Lib.hid n1
  have N2 := Lib.hid n2
  have N3 : Hid (NumBox W0 (w.heap.size + 1 + 1) (.bool s3) (.slice a3 l3.length c3)) := n3
  have B0 := Lib.hid hb0
  clear h1' h2' h3' n1 n2 n3 hb0 htab hz0 hz1 hz2
  go_enter Tryd.func6, Tryd.ntmps6
  go_wp2_with fail
  clear e0
  refine (alive_true _ (T0.out _ B0.out)).mono ?_
  rintro e w1 ⟨rfl, hb1⟩
  obtain ⟨p1, p2, -, -⟩ := N1.out.below hb1
  obtain ⟨p3, p4, -, -⟩ := N2.out.below hb1
  obtain ⟨W1, e1, b1, g1, g2⟩ : ∃ W1, w1.alloc (.cells #[.bool s1, .slice a1 l1.length c1, .bool s2, .slice a2 l2.length c2] 24) = W1 ∧ Below w1.heap.size w1 W1 ∧ W1.cell? ⟨w1.heap.size, 1, none⟩ = some (.slice a1 l1.length c1) ∧ W1.cell? ⟨w1.heap.size, 3, none⟩ = some (.slice a2 l2.length c2) := ⟨_, rfl, (by repeat (first | exact Below.refl _ _ | with_reducible refine Below.drew ?_ | with_reducible refine below_drewN ?_ _ | with_reducible refine Below.setCell ?_ (by first | (simp; done) | (simp; omega) | omega) _ | with_reducible refine Below.alloc ?_ (by first | (simp; done) | (simp; omega) | omega) _)), by go_simp, by go_simp⟩
  have R1 := Lib.hid (Below.step hb1 b1)
  obtain ⟨p5, p6, -, -⟩ := N3.out.below R1.out
  clear hb1 b1
  go_wp2_with fail
  clear e1
  by_cases hbig : 25 < l1.length ∨ 25 < l2.length
  · refine (great2 (most := 25) (r := true) rfl (by decide) m1 m2 g1 g2 (by simpa using hbig)).mono ?_
    rintro e w2 ⟨rfl, rfl⟩
    go_wp2_with fail
    refine (alive_true _ (T0.out _ (Below.step B0.out R1.out))).mono ?_
    rintro e wz ⟨rfl, hbz⟩
    have BZ := Lib.hid (Below.step (Below.step B0.out R1.out) hbz)
    clear hbz
    go_wp2_with fail
    go_ret
    exact ⟨rfl, BZ.out⟩
  · refine (great2 (most := 25) (r := false) rfl (by decide) m1 m2 g1 g2 (by simpa using hbig)).mono ?_
    rintro e w2 ⟨rfl, rfl⟩
    have K1 : Hid (l1.length ≤ 25) := by show _ ≤ _; omega
    have K2 : Hid (l2.length ≤ 25) := by show _ ≤ _; omega
    obtain ⟨W2, e2, b2, g3⟩ : ∃ W2, W1.alloc (.cells #[.bool s3, .slice a3 l3.length c3] 24) = W2 ∧ Below W1.heap.size W1 W2 ∧ W2.cell? ⟨W1.heap.size, 1, none⟩ = some (.slice a3 l3.length c3) := ⟨_, rfl, (by repeat (first | exact Below.refl _ _ | with_reducible refine Below.drew ?_ | with_reducible refine below_drewN ?_ _ | with_reducible refine Below.setCell ?_ (by first | (simp; done) | (simp; omega) | omega) _ | with_reducible refine Below.alloc ?_ (by first | (simp; done) | (simp; omega) | omega) _)), by go_simp⟩
    have R2 := Lib.hid (Below.step R1.out b2)
    clear hbig g1 g2 p1 p2 p3 p4 m1 m2 b2
    go_wp2_with fail
    clear e2
    by_cases hbig : 6 < l3.length
    · refine (great1 (most := 6) (r := true) rfl (by decide) m3 g3 (by simpa using hbig)).mono ?_
      rintro e w2 ⟨rfl, rfl⟩
      go_wp2_with fail
      refine (alive_true _ (T0.out _ (Below.step B0.out R2.out))).mono ?_
      rintro e wz ⟨rfl, hbz⟩
      have BZ := Lib.hid (Below.step (Below.step B0.out R2.out) hbz)
      clear hbz
      go_wp2_with fail
      go_ret
      exact ⟨rfl, BZ.out⟩
    · refine (great1 (most := 6) (r := false) rfl (by decide) m3 g3 (by simpa using hbig)).mono ?_
      rintro e w2 ⟨rfl, rfl⟩
      have K3 : Hid (l3.length ≤ 6) := by show _ ≤ _; omega
      obtain ⟨p1, p2, -, -⟩ := N1.out.below R2.out
      clear hbig g3 p5 p6 m3 R1
      go_wp2_with fail
      refine (check_any s1 _ l1 _ (L1.out _ R2.out)).mono ?_
      rintro e wa ⟨rfl, hba⟩
      have R3 := Lib.hid (Below.step R2.out hba)
      obtain ⟨p3, p4, -, -⟩ := N2.out.below R3.out
      clear hba p1 p2 R2
      cases ho1 : okB s1 l1
      · clear ho1
        go_wp2_with fail
        refine (alive_true _ (T0.out _ (Below.step B0.out R3.out))).mono ?_
        rintro e wz ⟨rfl, hbz⟩
        have BZ := Lib.hid (Below.step (Below.step B0.out R3.out) hbz)
        clear hbz
        go_wp2_with fail
        go_ret
        exact ⟨rfl, BZ.out⟩
      · have O1 := Lib.hid ho1
        clear ho1
        go_wp2_with fail
        refine (check_any s2 _ l2 _ (L2.out _ R3.out)).mono ?_
        rintro e wb ⟨rfl, hbb⟩
        have R4 := Lib.hid (Below.step R3.out hbb)
        obtain ⟨p5, p6, -, -⟩ := N3.out.below R4.out
        clear hbb p3 p4 R3
        cases ho2 : okB s2 l2
        · clear ho2
          go_wp2_with fail
          refine (alive_true _ (T0.out _ (Below.step B0.out R4.out))).mono ?_
          rintro e wz ⟨rfl, hbz⟩
          have BZ := Lib.hid (Below.step (Below.step B0.out R4.out) hbz)
          clear hbz
          go_wp2_with fail
          go_ret
          exact ⟨rfl, BZ.out⟩
        · have O2 := Lib.hid ho2
          clear ho2
          go_wp2_with fail
          refine (check_any s3 _ l3 _ (L3.out _ R4.out)).mono ?_
          rintro e wc ⟨rfl, hbc⟩
          have R5 := Lib.hid (Below.step R4.out hbc)
          clear hbc p5 p6 R4
          cases ho3 : okB s3 l3
          · clear ho3
            go_wp2_with fail
            refine (alive_true _ (T0.out _ (Below.step B0.out R5.out))).mono ?_
            rintro e wz ⟨rfl, hbz⟩
            have BZ := Lib.hid (Below.step (Below.step B0.out R5.out) hbz)
            clear hbz
            go_wp2_with fail
            go_ret
            exact ⟨rfl, BZ.out⟩
          · obtain ⟨A, hA⟩ : ∃ A, valS s1 l1 = A := ⟨_, rfl⟩
            obtain ⟨B, hB⟩ : ∃ B, valS s2 l2 = B := ⟨_, rfl⟩
            obtain ⟨C, hC⟩ : ∃ C, valS s3 l3 = C := ⟨_, rfl⟩
            have HA := (OkAt.of (k := 25) (L1.out _ R5.out) O1.out hA K1.out).keep
            have HB := (OkAt.of (k := 25) (L2.out _ R5.out) O2.out hB K2.out).keep
            have HC := (OkAt.of (k := 6) (L3.out _ R5.out) ho3 hC K3.out).keep
            have M1 := Lib.hid (N1.out.below R5.out)
            have M2 := Lib.hid (N2.out.below R5.out)
            have M3 := Lib.hid (N3.out.below R5.out)
            have RW := Lib.hid (Below.step B0.out R5.out)
            obtain ⟨p1, p2, -, -⟩ := M1.out
            obtain ⟨p3, p4, -, -⟩ := M2.out
            clear ho3 hA hB hC N1 N2 N3 L1 L2 L3 R5 B0 O1 O2 K1 K2 K3
            go_wp2_with fail
            refine (Gcd_num (HA.out _ (Below.refl _ _)).num (HB.out _ (Below.refl _ _)).num (by decide) (by decide)).mono ?_
            rintro e w3 ⟨⟨u3, rfl, h3⟩, hb3⟩
            obtain ⟨s3', a3', n3', c3', rfl, -⟩ := h3.shape
            obtain ⟨W3, e3, n7, b3, -⟩ := box1 w3 (.bool s3') (.slice a3' n3' c3')
            have R3 := Below.step hb3 b3
            have HG := (h3.below b3).keep
            have N7 := Lib.hid n7
            have HA := (HA.out _ R3).keep
            have HB := (HB.out _ R3).keep
            have HC := (HC.out _ R3).keep
            have N1 := Lib.hid (M1.out.below R3)
            have N2 := Lib.hid (M2.out.below R3)
            have N3 := Lib.hid (M3.out.below R3)
            have RW := Lib.hid (Below.step RW.out R3)
            clear h3 b3 n7 hb3 R3 p1 p2 p3 p4 M1 M2 M3
            go_upto_region 4 with fail
            clear e3
            rename_i K4 hK4
            refine wp_region_tail []
              [(3, IsV (.pointer (some ⟨w.heap.size, 0, none⟩))), (4, IsV (.pointer (some ⟨(w.heap.size + 1), 0, none⟩))), (5, IsV (.pointer (some ⟨(w.heap.size + 1 + 1), 0, none⟩))), (7, IsV (.pointer (some ⟨w3.heap.size, 0, none⟩)))]
              [(47, IsO 25 (((Int.gcd A B : Nat) : Int))), (48, IsO 6 (C)), (49, IsO 6 (C)), (50, IsV (.int .i64 (cmpI (C) 0))), (51, IsO 3 (cmpI (C) 0)), (52, IsO 9 ((C * cmpI (C) 0))), (53, IsO 34 ((((Int.gcd A B : Nat) : Int) * (C * cmpI (C) 0)))), (8, IsNewBox W3.heap.size)]
              [8] 134 8 (by kernel_rfl) rfl (by kernel_rfl) (by kernel_rfl) (by kernel_rfl) (by kernel_rfl) ⟨rfl, rfl, rfl, rfl, trivial⟩ ⟨IsV.grows _ , IsV.grows _ , IsV.grows _ , IsV.grows _ , IsO.grows _ _ , IsO.grows _ _ , IsO.grows _ _ , IsV.grows _ , IsO.grows _ _ , IsO.grows _ _ , IsO.grows _ _ , IsNewBox.grows _ , trivial⟩ ?_ (fun d _ _ _ _ h => by cases d <;> exact h) ?_ ?_
            · refine AllStep2.step rfl rfl (step_load (fun _ _ h => h) (fun _ hb => N7.out.below hb) (fun w hb => HG.out w hb)) ?_
              refine AllStep2.step rfl rfl (step_load (fun _ _ h => h) (fun _ hb => N3.out.below hb) (fun w hb => HC.out w hb)) ?_
              refine AllStep2.step rfl rfl (step_load (fun _ _ h => h) (fun _ hb => N3.out.below hb) (fun w hb => HC.out w hb)) ?_
              refine AllStep2.step rfl rfl (step_call1 (Plain.of Tryd.func19 rfl rfl) (fun _ _ _ hu => (Sign_num (OkAt.num hu) _ rfl).mono (fun _ _ h => ansV h))) ?_
              refine AllStep2.step rfl rfl (step_call1 (Plain.of Tryd.func22 rfl rfl) (fun u w _ hu => by have hu' : u = .int .i64 (cmpI (C) 0) := hu; subst hu'; exact Of_num _ w (cmpI_i64 _ _).1 (cmpI_i64 _ _).2)) ?_
              refine AllStep2.step rfl rfl (step_call2 (Plain.of Tryd.func14 rfl rfl) (fun _ _ _ _ hu hv => Mul_num (OkAt.num hu) (OkAt.num hv) (by decide) (by decide))) ?_
              refine AllStep2.step rfl rfl (step_call2 (Plain.of Tryd.func14 rfl rfl) (fun _ _ _ _ hu hv => Mul_num (OkAt.num hu) (OkAt.num hv) (by decide) (by decide))) ?_
              refine AllStep2.fresh rfl rfl (alloc_num (fun _ _ h => h)) ?_
              exact AllStep2.nil
            · intro t ht v w hk
              simp only [List.mem_cons, List.not_mem_nil, or_false] at ht
              subst ht
              exact IsNewBox.lt (show IsNewBox W3.heap.size v w from hk)
            intro a4 w4 hb4 hs4 hd4 hk4 _
            have h53 : IsO 34 (((Int.gcd A B : Nat) : Int) * (C * cmpI C 0)) (a4.eval (.tmp 53)) w4 := hk4 53 (by kernel_rfl)
            obtain ⟨b8, e8, hb8, nb8⟩ : IsNewBox W3.heap.size (a4.eval (.tmp 8)) w4 := hk4 8 (by kernel_rfl)
            obtain ⟨s53, a53, n53, c53, e53, -⟩ := OkAt.shape h53
            have h53' : OkAt w4 (.agg #[.bool s53, .slice a53 n53 c53]) 34 (((Int.gcd A B : Nat) : Int) * (C * cmpI C 0)) := by rw [← e53]; exact h53
            refine wpOps_step (i := 8) (rest := []) rfl rfl ?_
            refine wp_store_num e8 e53 nb8 ?_
            obtain ⟨W4, eW4, n8, b4, ok4, -⟩ := store_box (s := s53) (x := a53) (n := n53) (c := c53) hb4 hb8 nb8
            rw [eW4]
            have HW := (ok4 _ _ _ h53').keep
            have N8 := Lib.hid n8
            have HA := (HA.out _ b4).keep
            have HB := (HB.out _ b4).keep
            have HC := (HC.out _ b4).keep
            have HG := (HG.out _ b4).keep
            have N1 := Lib.hid (N1.out.below b4)
            have N2 := Lib.hid (N2.out.below b4)
            have N3 := Lib.hid (N3.out.below b4)
            have N7 := Lib.hid (N7.out.below b4)
            have RW := Lib.hid (Below.step RW.out b4)
            refine hK4 _ _ ?_
            refine wp_seq_k ?_
            intro K9 hK9
            refine wp_seq_k ?_
            intro K5 hK5
            refine wp_region_known [(56, false), (57, false), (62, true), (63, false), (64, false), (65, false), (71, true), (72, false), (73, false), (74, false), (83, true), (84, false), (85, false)]
              [(3, IsV (.pointer (some ⟨w.heap.size, 0, none⟩))), (4, IsV (.pointer (some ⟨(w.heap.size + 1), 0, none⟩))), (5, IsV (.pointer (some ⟨(w.heap.size + 1 + 1), 0, none⟩))), (7, IsV (.pointer (some ⟨w3.heap.size, 0, none⟩))), (8, IsV (.pointer (some ⟨b8, 0, none⟩)))]
              [(54, IsO 25 (((Int.gcd A B : Nat) : Int))), (55, IsV (.int .i64 (cmpI (((Int.gcd A B : Nat) : Int)) 0))), (58, IsO 25 (B)), (59, IsO 25 (A)), (60, IsO 25 (((Int.gcd B A : Nat) : Int))), (61, IsO 25 (((Int.gcd A B : Nat) : Int))), (66, IsO 25 (A)), (67, IsO 25 ((-A))), (68, IsO 25 (B)), (69, IsO 25 (((Int.gcd (-A) B : Nat) : Int))), (70, IsO 25 (((Int.gcd A B : Nat) : Int))), (75, IsO 25 (A)), (76, IsO 6 (C)), (77, IsO 31 ((A * C))), (78, IsO 25 (B)), (79, IsO 6 (C)), (80, IsO 31 ((B * C))), (81, IsO 31 (((Int.gcd (A * C) (B * C) : Nat) : Int))), (82, IsO 34 ((((Int.gcd A B : Nat) : Int) * (C * cmpI (C) 0))))]
              134 (by kernel_rfl) hs4 (by kernel_rfl) (by kernel_rfl) ⟨hk4 3 (by kernel_rfl), hk4 4 (by kernel_rfl), hk4 5 (by kernel_rfl), hk4 7 (by kernel_rfl), e8, trivial⟩ ⟨IsV.grows _ , IsV.grows _ , IsV.grows _ , IsV.grows _ , IsV.grows _ , IsO.grows _ _ , IsV.grows _ , IsO.grows _ _ , IsO.grows _ _ , IsO.grows _ _ , IsO.grows _ _ , IsO.grows _ _ , IsO.grows _ _ , IsO.grows _ _ , IsO.grows _ _ , IsO.grows _ _ , IsO.grows _ _ , IsO.grows _ _ , IsO.grows _ _ , IsO.grows _ _ , IsO.grows _ _ , IsO.grows _ _ , IsO.grows _ _ , IsO.grows _ _ , trivial⟩ ?_ ?_
            · refine AllStep.cons (step_load (fun _ _ h => h) (fun _ hb => N7.out.below hb) (fun w hb => HG.out w hb)) ?_
              refine AllStep.cons (step_call1 (Plain.of Tryd.func19 rfl rfl) (fun _ _ _ hu => (Sign_num (OkAt.num hu) _ rfl).mono (fun _ _ h => ansV h))) ?_
              refine AllStep.cons (step_lss (fun _ _ h => h) (decide_eq_false (sign_gcd A B)) (fun _ => rfl)) ?_
              refine AllStep.cons (step_move (fun _ _ h => h)) ?_
              refine AllStep.cons (step_load (fun _ _ h => h) (fun _ hb => N2.out.below hb) (fun w hb => HB.out w hb)) ?_
              refine AllStep.cons (step_load (fun _ _ h => h) (fun _ hb => N1.out.below hb) (fun w hb => HA.out w hb)) ?_
              refine AllStep.cons (step_call2 (Plain.of Tryd.func23 rfl rfl) (fun _ _ _ _ hu hv => Gcd_num (OkAt.num hu) (OkAt.num hv) (by decide) (by decide))) ?_
              refine AllStep.cons (step_load (fun _ _ h => h) (fun _ hb => N7.out.below hb) (fun w hb => HG.out w hb)) ?_
              refine AllStep.cons (step_call2 (Plain.of Tryd.func16 rfl rfl) (fun _ _ _ _ hu hv => (Same_num hu hv true (decide_eq_true (gcd_turn A B))).mono (fun _ _ h => ansV h))) ?_
              refine AllStep.cons (step_not true (fun _ _ h => h) (fun _ => rfl)) ?_
              refine AllStep.cons (step_pickF (fun _ _ h => h) (fun _ _ h => h)) ?_
              refine AllStep.cons (step_move (fun _ _ h => h)) ?_
              refine AllStep.cons (step_load (fun _ _ h => h) (fun _ hb => N1.out.below hb) (fun w hb => HA.out w hb)) ?_
              refine AllStep.cons (step_call1 (Plain.of Tryd.func17 rfl rfl) (fun _ _ _ hu => Neg_num (OkAt.num hu) (by decide))) ?_
              refine AllStep.cons (step_load (fun _ _ h => h) (fun _ hb => N2.out.below hb) (fun w hb => HB.out w hb)) ?_
              refine AllStep.cons (step_call2 (Plain.of Tryd.func23 rfl rfl) (fun _ _ _ _ hu hv => Gcd_num (OkAt.num hu) (OkAt.num hv) (by decide) (by decide))) ?_
              refine AllStep.cons (step_load (fun _ _ h => h) (fun _ hb => N7.out.below hb) (fun w hb => HG.out w hb)) ?_
              refine AllStep.cons (step_call2 (Plain.of Tryd.func16 rfl rfl) (fun _ _ _ _ hu hv => (Same_num hu hv true (decide_eq_true (gcd_neg A B))).mono (fun _ _ h => ansV h))) ?_
              refine AllStep.cons (step_not true (fun _ _ h => h) (fun _ => rfl)) ?_
              refine AllStep.cons (step_pickF (fun _ _ h => h) (fun _ _ h => h)) ?_
              refine AllStep.cons (step_move (fun _ _ h => h)) ?_
              refine AllStep.cons (step_load (fun _ _ h => h) (fun _ hb => N1.out.below hb) (fun w hb => HA.out w hb)) ?_
              refine AllStep.cons (step_load (fun _ _ h => h) (fun _ hb => N3.out.below hb) (fun w hb => HC.out w hb)) ?_
              refine AllStep.cons (step_call2 (Plain.of Tryd.func14 rfl rfl) (fun _ _ _ _ hu hv => Mul_num (OkAt.num hu) (OkAt.num hv) (by decide) (by decide))) ?_
              refine AllStep.cons (step_load (fun _ _ h => h) (fun _ hb => N2.out.below hb) (fun w hb => HB.out w hb)) ?_
              refine AllStep.cons (step_load (fun _ _ h => h) (fun _ hb => N3.out.below hb) (fun w hb => HC.out w hb)) ?_
              refine AllStep.cons (step_call2 (Plain.of Tryd.func14 rfl rfl) (fun _ _ _ _ hu hv => Mul_num (OkAt.num hu) (OkAt.num hv) (by decide) (by decide))) ?_
              refine AllStep.cons (step_call2 (Plain.of Tryd.func23 rfl rfl) (fun _ _ _ _ hu hv => Gcd_num (OkAt.num hu) (OkAt.num hv) (by decide) (by decide))) ?_
              refine AllStep.cons (step_load (fun _ _ h => h) (fun _ hb => N8.out.below hb) (fun w hb => HW.out w hb)) ?_
              refine AllStep.cons (step_call2 (Plain.of Tryd.func16 rfl rfl) (fun _ _ _ _ hu hv => (Same_num hu hv true (decide_eq_true (gcd_wide A B C))).mono (fun _ _ h => ansV h))) ?_
              refine AllStep.cons (step_not true (fun _ _ h => h) (fun _ => rfl)) ?_
              refine AllStep.cons (step_pickF (fun _ _ h => h) (fun _ _ h => h)) ?_
              exact AllStep.nil
            intro a5 w5 hb5 hs5 hd5 hk5
            obtain ⟨x, hx⟩ : ∃ x : Nat → Value, ∀ t, a5.eval (.tmp t) = x t := ⟨_, fun _ => rfl⟩
            have ha : a5 = ⟨#[x 0, x 1, x 2, .pointer (some ⟨w.heap.size, 0, none⟩), .pointer (some ⟨w.heap.size + 1, 0, none⟩), .pointer (some ⟨w.heap.size + 1 + 1, 0, none⟩), x 6, .pointer (some ⟨w3.heap.size, 0, none⟩), .pointer (some ⟨b8, 0, none⟩), x 9, x 10, x 11, x 12, x 13, x 14, x 15, x 16, x 17, x 18, x 19, x 20, x 21, x 22, x 23, x 24, x 25, x 26, x 27, x 28, x 29, x 30, x 31, x 32, x 33, x 34, x 35, x 36, x 37, x 38, x 39, x 40, x 41, x 42, x 43, x 44, x 45, x 46, x 47, x 48, x 49, x 50, x 51, x 52, x 53, x 54, x 55, x 56, x 57, x 58, x 59, x 60, x 61, x 62, x 63, x 64, x 65, x 66, x 67, x 68, x 69, x 70, x 71, x 72, x 73, x 74, x 75, x 76, x 77, x 78, x 79, x 80, x 81, x 82, x 83, x 84, .bool false, x 86, x 87, x 88, x 89, x 90, x 91, x 92, x 93, x 94, x 95, x 96, x 97, x 98, x 99, x 100, x 101, x 102, x 103, x 104, x 105, x 106, x 107, x 108, x 109, x 110, x 111, x 112, x 113, x 114, x 115, x 116, x 117, x 118, x 119, x 120, x 121, x 122, x 123, x 124, x 125, x 126, x 127, x 128, x 129, x 130, x 131, x 132, x 133], []⟩ := act_eq hs5 (hd5.trans hd4) ⟨hx 0, hx 1, hx 2, hk5 3, hk5 4, hk5 5, hx 6, hk5 7, hk5 8, hx 9, hx 10, hx 11, hx 12, hx 13, hx 14, hx 15, hx 16, hx 17, hx 18, hx 19, hx 20, hx 21, hx 22, hx 23, hx 24, hx 25, hx 26, hx 27, hx 28, hx 29, hx 30, hx 31, hx 32, hx 33, hx 34, hx 35, hx 36, hx 37, hx 38, hx 39, hx 40, hx 41, hx 42, hx 43, hx 44, hx 45, hx 46, hx 47, hx 48, hx 49, hx 50, hx 51, hx 52, hx 53, hx 54, hx 55, hx 56, hx 57, hx 58, hx 59, hx 60, hx 61, hx 62, hx 63, hx 64, hx 65, hx 66, hx 67, hx 68, hx 69, hx 70, hx 71, hx 72, hx 73, hx 74, hx 75, hx 76, hx 77, hx 78, hx 79, hx 80, hx 81, hx 82, hx 83, hx 84, hk5 85, hx 86, hx 87, hx 88, hx 89, hx 90, hx 91, hx 92, hx 93, hx 94, hx 95, hx 96, hx 97, hx 98, hx 99, hx 100, hx 101, hx 102, hx 103, hx 104, hx 105, hx 106, hx 107, hx 108, hx 109, hx 110, hx 111, hx 112, hx 113, hx 114, hx 115, hx 116, hx 117, hx 118, hx 119, hx 120, hx 121, hx 122, hx 123, hx 124, hx 125, hx 126, hx 127, hx 128, hx 129, hx 130, hx 131, hx 132, hx 133, trivial⟩
            subst ha
            have HA := (HA.out _ hb5).keep
            have HB := (HB.out _ hb5).keep
            have HG := (HG.out _ hb5).keep
            have N1 := Lib.hid (N1.out.below hb5)
            have N2 := Lib.hid (N2.out.below hb5)
            have N7 := Lib.hid (N7.out.below hb5)
            have RW := Lib.hid (Below.step RW.out hb5)
            obtain ⟨g1, g2, -, -⟩ := N7.out
            refine hK5 _ _ ?_
            clear hx hk5 hs5 hd5 hk4 hs4 hd4 HW N8 N3 HC
            obtain ⟨G, hG⟩ : ∃ G, ((Int.gcd A B : Nat) : Int) = G := ⟨_, rfl⟩
            have hlo := gcd_left_out (A := A) (B := B)
            have hno := gcd_nought A B
            rw [hG] at HG hlo hno
            have HLO := Lib.hid hlo
            have HNO := Lib.hid hno
            clear hlo hno hG
            by_cases hg0 : G = 0
            · have C0 := Lib.hid (cmpI_eq hg0)
              have CA := Lib.hid (cmpI_eq (HNO.out hg0).1)
              have CB := Lib.hid (cmpI_eq (HNO.out hg0).2)
              clear hg0
              go_wp2_with fail
              refine (Sign_num (HG.out _ (Below.refl _ _)).num 0 C0.out).mono ?_
              rintro e w6 ⟨rfl, hb6⟩
              have R6 := Lib.hid hb6
              obtain ⟨p1, p2, -, -⟩ := N1.out.below hb6
              clear hb6 g1 g2
              go_wp2_with fail
              refine (Sign_num (HA.out _ R6.out).num 0 CA.out).mono ?_
              rintro e w7 ⟨rfl, hb7⟩
              have R7 := Lib.hid (Below.step R6.out hb7)
              obtain ⟨p3, p4, -, -⟩ := N2.out.below R7.out
              clear hb7 p1 p2
              go_wp2_with fail
              refine (Sign_num (HB.out _ R7.out).num 0 CB.out).mono ?_
              rintro e w8 ⟨rfl, hb8'⟩
              have R8 := Lib.hid (Below.step RW.out (Below.step R7.out hb8'))
              clear hb8' p3 p4
              go_wp2_with fail
              go_ret
              exact ⟨rfl, R8.out⟩
            · have HG0 := Lib.hid hg0
              have hs0 : (cmpI G 0 == 0) = false := by rw [cmpI_zero]; exact decide_eq_false hg0
              clear hg0
              go_wp2_with fail
              refine (Sign_num (HG.out _ (Below.refl _ _)).num _ rfl).mono ?_
              rintro e w6 ⟨rfl, hb6⟩
              have R6 := Lib.hid hb6
              obtain ⟨p1, p2, -, -⟩ := N1.out.below hb6
              obtain ⟨g1, g2, -, -⟩ := N7.out.below hb6
              clear hb6
              go_wp2_with fail
              clear hs0
              refine (Div_num (HA.out _ R6.out) (HG.out _ R6.out) (by decide) (by decide) HG0.out).mono ?_
              rintro e w7 ⟨⟨sq, aq, nq, cq, sr, ar, nr, cr, rfl, hq, hr, -, -⟩, hb7⟩
              rw [(HLO.out HG0.out).1] at hr
              obtain ⟨W7, e7, nb1, nb2, bw, -, -⟩ := box2 w7 (.bool sq) (.slice aq nq cq) (.bool sr) (.slice ar nr cr)
              have Q7 := Below.step hb7 bw
              have R7 := Lib.hid (Below.step R6.out Q7)
              have N9 := Lib.hid nb1
              have N10 := Lib.hid nb2
              have HP := (hq.below bw).keep
              have HR := (hr.below bw).keep
              obtain ⟨p3, p4, -, -⟩ := N2.out.below R7.out
              obtain ⟨g1, g2, -, -⟩ := N7.out.below R7.out
              clear hb7 bw nb1 nb2 Q7 hq hr p1 p2
              go_wp2_with fail
              clear e7
              refine (Div_num (HB.out _ R7.out) (HG.out _ R7.out) (by decide) (by decide) HG0.out).mono ?_
              rintro e w8 ⟨⟨sq2, aq2, nq2, cq2, sr2, ar2, nr2, cr2, rfl, hq, hr, -, -⟩, hb8'⟩
              rw [(HLO.out HG0.out).2.1] at hr
              obtain ⟨W8, e8', nb1, nb2, bw, -, -⟩ := box2 w8 (.bool sq2) (.slice aq2 nq2 cq2) (.bool sr2) (.slice ar2 nr2 cr2)
              have Q8 := Below.step hb8' bw
              have R8 := Lib.hid (Below.step RW.out (Below.step R7.out Q8))
              have N9 := Lib.hid (N9.out.below Q8)
              have N10 := Lib.hid (N10.out.below Q8)
              have HP := (HP.out _ Q8).keep
              have HR := (HR.out _ Q8).keep
              have N12 := Lib.hid nb1
              have N13 := Lib.hid nb2
              have HQ := (hq.below bw).keep
              have HS := (hr.below bw).keep
              obtain ⟨d1, d2, -, -⟩ := N10.out
              clear hb8' bw nb1 nb2 Q8 hq hr p3 p4 g1 g2
              go_wp2_with fail
              clear e8'
              refine (Sign_num (HR.out _ (Below.refl _ _)).num 0 (cmpI_eq rfl)).mono ?_
              rintro e w9 ⟨rfl, hb9⟩
              have R9 := Lib.hid hb9
              obtain ⟨d3, d4, -, -⟩ := N13.out.below hb9
              clear hb9 d1 d2
              go_wp2_with fail
              refine (Sign_num (HS.out _ R9.out).num 0 (cmpI_eq rfl)).mono ?_
              rintro e w10 ⟨rfl, hb10⟩
              have R10 := Lib.hid (Below.step R9.out hb10)
              obtain ⟨d1, d2, -, -⟩ := N9.out.below R10.out
              obtain ⟨d5, d6, -, -⟩ := N12.out.below R10.out
              clear hb10 d3 d4
              go_wp2_with fail
              refine (Gcd_num (HP.out _ R10.out).num (HQ.out _ R10.out).num (by decide) (by decide)).mono ?_
              rintro e w11 ⟨⟨u11, rfl, h11⟩, hb11⟩
              rw [(HLO.out HG0.out).2.2] at h11
              have U := Lib.hid h11
              have R11 := Lib.hid (Below.step R10.out hb11)
              clear h11 hb11 d1 d2 d5 d6
              go_wp2_with fail
              refine (whole_num U.out (by decide) (by decide)).mono ?_
              rintro e w12 ⟨rfl, hb12⟩
              have R12 := Lib.hid (Below.step R8.out (Below.step R11.out hb12))
              clear hb12
              go_wp2_with fail
              go_ret
              exact ⟨rfl, R12.out⟩

end Go.Proofs.YtejlhefjphiahaaDoor
