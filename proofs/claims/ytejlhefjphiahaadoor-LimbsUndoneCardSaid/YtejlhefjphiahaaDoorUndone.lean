/- Walks: what is added is taken off again; signs go by their laws. -/
import Derived.Test.YtejlhefjphiahaaDoorLaw
import Derived.Test.YtejlhefjphiahaaDoorSteps2
namespace Go.Proofs.YtejlhefjphiahaaDoor
open Go.RowKit Go.Shelf

set_option maxRecDepth 100000 in
set_option maxHeartbeats 4000000 in
theorem LimbsUndone_true (s1 s2 : Bool) (v1 v2 : Value) (l1 l2 : List Nat) (w : World) (h1 : Lim w v1 l1) (h2 : Lim w v2 l2) (htab : Tab w) :
    Calls Tryd.prog 4 #[.agg #[.bool s1, v1], .agg #[.bool s2, v2]] w fun e w' => e = .returned (.bool true) ∧ Below w.heap.size w w' := by
  have h1' := h1
  have h2' := h2
  obtain ⟨a1, c1, rfl, -⟩ := h1
  obtain ⟨a2, c2, rfl, -⟩ := h2
  have m1 := h1'.max
  have m2 := h2'.max
  obtain ⟨W0, e0, n1, n2, hb0, hz0, hz1⟩ := box2 w (.bool s1) (.slice a1 l1.length c1) (.bool s2) (.slice a2 l2.length c2)
  have T0 : Hid (∀ W, Below w.heap.size w W → Tab W) := fun W hb => htab.below hb
  have L1 := keepLim (h1'.below hb0)
  have L2 := keepLim (h2'.below hb0)
  have N1 := Lib.hid n1
  have N2 := Lib.hid n2
  have B0 := Lib.hid hb0
  clear h1' h2' n1 n2 hb0 htab hz0 hz1
  go_enter Tryd.func4, Tryd.ntmps4
  go_wp2_with fail
  clear e0
  refine (alive_true _ (T0.out _ B0.out)).mono ?_
  rintro e w1 ⟨rfl, hb1⟩
  obtain ⟨p1, p2, -, -⟩ := N1.out.below hb1
  obtain ⟨p3, p4, -, -⟩ := N2.out.below hb1
  obtain ⟨W1, e1, b1, g1, g2⟩ : ∃ W1, w1.alloc (.cells #[.bool s1, .slice a1 l1.length c1, .bool s2, .slice a2 l2.length c2] 24) = W1 ∧ Below w1.heap.size w1 W1 ∧ W1.cell? ⟨w1.heap.size, 1, none⟩ = some (.slice a1 l1.length c1) ∧ W1.cell? ⟨w1.heap.size, 3, none⟩ = some (.slice a2 l2.length c2) := ⟨_, rfl, (by repeat (first | exact Below.refl _ _ | with_reducible refine Below.drew ?_ | with_reducible refine below_drewN ?_ _ | with_reducible refine Below.setCell ?_ (by first | (simp; done) | (simp; omega) | omega) _ | with_reducible refine Below.alloc ?_ (by first | (simp; done) | (simp; omega) | omega) _)), by go_simp, by go_simp⟩
  have R1 := Lib.hid (Below.step hb1 b1)
  obtain ⟨q1, q2, -, -⟩ := N1.out.below R1.out
  obtain ⟨q3, q4, -, -⟩ := N2.out.below R1.out
  clear hb1 b1
  go_wp2_with fail
  clear e1
  by_cases hbig : 200 < l1.length ∨ 200 < l2.length
  · refine (great2 (most := 200) (r := true) rfl (by decide) m1 m2 g1 g2 (by simpa using hbig)).mono ?_
    rintro e w2 ⟨rfl, rfl⟩
    go_wp2_with fail
    refine (alive_true _ (T0.out _ (Below.step B0.out R1.out))).mono ?_
    rintro e w2 ⟨rfl, hb2⟩
    have B2 := Lib.hid (Below.step (Below.step B0.out R1.out) hb2)
    clear hb2
    go_wp2_with fail
    go_ret
    exact ⟨rfl, B2.out⟩
  · refine (great2 (most := 200) (r := false) rfl (by decide) m1 m2 g1 g2 (by simpa using hbig)).mono ?_
    rintro e w2 ⟨rfl, rfl⟩
    have K1 : Hid (l1.length ≤ 200) := by show _ ≤ _; omega
    have K2 : Hid (l2.length ≤ 200) := by show _ ≤ _; omega
    clear hbig g1 g2 p1 p2 p3 p4 m1 m2
    go_wp2_with fail
    refine (check_any s1 _ l1 _ (L1.out _ R1.out)).mono ?_
    rintro e w2 ⟨rfl, hb2⟩
    have R2 := Lib.hid (Below.step R1.out hb2)
    obtain ⟨p3, p4, -, -⟩ := N2.out.below R2.out
    obtain ⟨p1, p2, -, -⟩ := N1.out.below R2.out
    clear hb2 q1 q2 q3 q4 R1
    cases ho1 : okB s1 l1
    · clear ho1
      go_wp2_with fail
      refine (alive_true _ (T0.out _ (Below.step B0.out R2.out))).mono ?_
      rintro e w3 ⟨rfl, hb3⟩
      have B2 := Lib.hid (Below.step (Below.step B0.out R2.out) hb3)
      clear hb3
      go_wp2_with fail
      go_ret
      exact ⟨rfl, B2.out⟩
    · have O1 := Lib.hid ho1
      clear ho1
      go_wp2_with fail
      refine (check_any s2 _ l2 _ (L2.out _ R2.out)).mono ?_
      rintro e wc ⟨rfl, hb2⟩
      have R3 := Lib.hid (Below.step R2.out hb2)
      obtain ⟨p1, p2, -, -⟩ := N1.out.below R3.out
      clear hb2 p3 p4 R2
      cases ho2 : okB s2 l2
      · clear ho2
        go_wp2_with fail
        refine (alive_true _ (T0.out _ (Below.step B0.out R3.out))).mono ?_
        rintro e w3 ⟨rfl, hb3⟩
        have B2 := Lib.hid (Below.step (Below.step B0.out R3.out) hb3)
        clear hb3
        go_wp2_with fail
        go_ret
        exact ⟨rfl, B2.out⟩
      · obtain ⟨A, hA⟩ : ∃ A, valS s1 l1 = A := ⟨_, rfl⟩
        obtain ⟨B, hB⟩ : ∃ B, valS s2 l2 = B := ⟨_, rfl⟩
        have HA := (OkAt.of (k := 200) (L1.out _ R3.out) O1.out hA K1.out).keep
        have HB := (OkAt.of (k := 200) (L2.out _ R3.out) ho2 hB K2.out).keep
        have M1 := Lib.hid (N1.out.below R3.out)
        have M2 := Lib.hid (N2.out.below R3.out)
        have RW := Lib.hid (Below.step B0.out R3.out)
        clear ho2 hA hB N1 N2 L1 L2 R3 B0 O1 K1 K2
        go_wp2_with fail
        refine (Neg_num (HA.out _ (Below.refl _ _)).num (by decide)).mono ?_
        rintro e w3 ⟨⟨u3, rfl, h3⟩, hb3⟩
        obtain ⟨s3', a3', n3', c3', rfl, -⟩ := h3.shape
        obtain ⟨W3, e3, n4, b3, -⟩ := box1 w3 (.bool s3') (.slice a3' n3' c3')
        have R3 := Below.step hb3 b3
        have HN := (h3.below b3).keep
        have N3 := Lib.hid n4
        have HA := (HA.out _ R3).keep
        have HB := (HB.out _ R3).keep
        have N1 := Lib.hid (M1.out.below R3)
        have N2 := Lib.hid (M2.out.below R3)
        have RW := Lib.hid (Below.step RW.out R3)
        clear h3 b3 n4 hb3 R3 p1 p2 M1 M2
        go_upto_region 4 with fail
        clear e3
        rename_i K hK
        try simp only [List.append_eq, List.cons_append, List.nil_append]
        refine wp_region_known [(4, true), (33, true), (34, true), (40, true), (41, true), (42, true), (46, true), (47, true), (48, true), (55, true), (56, true), (57, true), (63, true), (64, true), (65, true), (75, true), (76, true), (77, true), (85, true), (86, true), (87, true), (95, true), (96, true), (97, true), (101, (cmpI A B == 0)), (104, (decide (A = B))), (105, true), (106, true)]
          [(2, IsV (.pointer (some ⟨w.heap.size, 0, none⟩))), (3, IsV (.pointer (some ⟨(w.heap.size + 1), 0, none⟩))), (5, IsV (.pointer (some ⟨w3.heap.size, 0, none⟩)))]
          [(27, IsO 200 (A)), (28, IsO 200 (B)), (29, IsO 201 ((A + B))), (30, IsO 200 (B)), (31, IsO 202 (((A + B) - B))), (32, IsO 200 (A)), (35, IsO 200 (A)), (36, IsO 200 ((-A))), (37, IsO 201 ((A + (-A)))), (38, IsE), (39, IsV (.int .i64 0)), (43, IsO 200 ((-A))), (44, IsO 200 ((-(-A)))), (45, IsO 200 (A)), (49, IsO 200 (B)), (50, IsO 200 (A)), (51, IsO 201 ((B - A))), (52, IsO 200 (B)), (53, IsO 200 ((-A))), (54, IsO 201 ((B + (-A)))), (58, IsO 200 ((-A))), (59, IsV (.int .i64 (cmpI ((-A)) 0))), (60, IsO 200 (A)), (61, IsV (.int .i64 (cmpI (A) 0))), (62, IsV (.int .i64 (-cmpI (A) 0))), (66, IsO 200 (A)), (67, IsO 200 (B)), (68, IsO 400 ((A * B))), (69, IsV (.int .i64 (cmpI ((A * B)) 0))), (70, IsO 200 (A)), (71, IsV (.int .i64 (cmpI (A) 0))), (72, IsO 200 (B)), (73, IsV (.int .i64 (cmpI (B) 0))), (74, IsV (.int .i64 (cmpI (A) 0 * cmpI (B) 0))), (78, IsO 200 ((-A))), (79, IsO 200 (B)), (80, IsO 400 (((-A) * B))), (81, IsO 200 (A)), (82, IsO 200 (B)), (83, IsO 400 ((A * B))), (84, IsO 400 ((-(A * B)))), (88, IsO 200 (A)), (89, IsO 200 (B)), (90, IsV (.int .i64 (cmpI (A) (B)))), (91, IsO 200 (A)), (92, IsO 200 (B)), (93, IsO 201 ((A - B))), (94, IsV (.int .i64 (cmpI ((A - B)) 0))), (98, IsO 200 (A)), (99, IsO 200 (B)), (100, IsV (.int .i64 (cmpI (A) (B)))), (102, IsO 200 (A)), (103, IsO 200 (B))]
          107 (by kernel_rfl) rfl (by kernel_rfl) (by kernel_rfl) ⟨rfl, rfl, rfl, trivial⟩ ⟨IsV.grows _ , IsV.grows _ , IsV.grows _ , IsO.grows _ _ , IsO.grows _ _ , IsO.grows _ _ , IsO.grows _ _ , IsO.grows _ _ , IsO.grows _ _ , IsO.grows _ _ , IsO.grows _ _ , IsO.grows _ _ , IsE.grows , IsV.grows _ , IsO.grows _ _ , IsO.grows _ _ , IsO.grows _ _ , IsO.grows _ _ , IsO.grows _ _ , IsO.grows _ _ , IsO.grows _ _ , IsO.grows _ _ , IsO.grows _ _ , IsO.grows _ _ , IsV.grows _ , IsO.grows _ _ , IsV.grows _ , IsV.grows _ , IsO.grows _ _ , IsO.grows _ _ , IsO.grows _ _ , IsV.grows _ , IsO.grows _ _ , IsV.grows _ , IsO.grows _ _ , IsV.grows _ , IsV.grows _ , IsO.grows _ _ , IsO.grows _ _ , IsO.grows _ _ , IsO.grows _ _ , IsO.grows _ _ , IsO.grows _ _ , IsO.grows _ _ , IsO.grows _ _ , IsO.grows _ _ , IsV.grows _ , IsO.grows _ _ , IsO.grows _ _ , IsO.grows _ _ , IsV.grows _ , IsO.grows _ _ , IsO.grows _ _ , IsV.grows _ , IsO.grows _ _ , IsO.grows _ _ , trivial⟩ ?_ ?_
        · refine AllStep.cons (step_load (fun _ _ h => h) (fun _ hb => N1.out.below hb) (fun w hb => HA.out w hb)) ?_
          refine AllStep.cons (step_load (fun _ _ h => h) (fun _ hb => N2.out.below hb) (fun w hb => HB.out w hb)) ?_
          refine AllStep.cons (step_call2 (Plain.of Tryd.func13 rfl rfl) (fun _ _ _ _ hu hv => Add_num (OkAt.num hu) (OkAt.num hv) (by decide) (by decide))) ?_
          refine AllStep.cons (step_load (fun _ _ h => h) (fun _ hb => N2.out.below hb) (fun w hb => HB.out w hb)) ?_
          refine AllStep.cons (step_call2 (Plain.of Tryd.func18 rfl rfl) (fun _ _ _ _ hu hv => Sub_num (OkAt.num hu) (OkAt.num hv) (by decide) (by decide))) ?_
          refine AllStep.cons (step_load (fun _ _ h => h) (fun _ hb => N1.out.below hb) (fun w hb => HA.out w hb)) ?_
          refine AllStep.cons (step_call2 (Plain.of Tryd.func16 rfl rfl) (fun _ _ _ _ hu hv => (Same_num hu hv true (decide_eq_true (by grind))).mono (fun _ _ h => ansV h))) ?_
          refine AllStep.cons (step_move (fun _ _ h => h)) ?_
          refine AllStep.cons (step_load (fun _ _ h => h) (fun _ hb => N1.out.below hb) (fun w hb => HA.out w hb)) ?_
          refine AllStep.cons (step_load (fun _ _ h => h) (fun _ hb => N3.out.below hb) (fun w hb => HN.out w hb)) ?_
          refine AllStep.cons (step_call2 (Plain.of Tryd.func13 rfl rfl) (fun _ _ _ _ hu hv => Add_num (OkAt.num hu) (OkAt.num hv) (by decide) (by decide))) ?_
          refine AllStep.cons (step_field (fun _ _ h => OkAt.empty h (by omega))) ?_
          refine AllStep.cons (step_len (fun _ _ h => by obtain ⟨p, c, e⟩ := h; exact ⟨p, 0, c, e, rfl⟩)) ?_
          refine AllStep.cons (step_eqI (fun _ _ h => h) (by decide) (fun _ => rfl)) ?_
          refine AllStep.cons (step_pickT (fun _ _ h => h) (fun _ _ h => h)) ?_
          refine AllStep.cons (step_move (fun _ _ h => h)) ?_
          refine AllStep.cons (step_load (fun _ _ h => h) (fun _ hb => N3.out.below hb) (fun w hb => HN.out w hb)) ?_
          refine AllStep.cons (step_call1 (Plain.of Tryd.func17 rfl rfl) (fun _ _ _ hu => Neg_num (OkAt.num hu) (by decide))) ?_
          refine AllStep.cons (step_load (fun _ _ h => h) (fun _ hb => N1.out.below hb) (fun w hb => HA.out w hb)) ?_
          refine AllStep.cons (step_call2 (Plain.of Tryd.func16 rfl rfl) (fun _ _ _ _ hu hv => (Same_num hu hv true (decide_eq_true (by grind))).mono (fun _ _ h => ansV h))) ?_
          refine AllStep.cons (step_pickT (fun _ _ h => h) (fun _ _ h => h)) ?_
          refine AllStep.cons (step_move (fun _ _ h => h)) ?_
          refine AllStep.cons (step_load (fun _ _ h => h) (fun _ hb => N2.out.below hb) (fun w hb => HB.out w hb)) ?_
          refine AllStep.cons (step_load (fun _ _ h => h) (fun _ hb => N1.out.below hb) (fun w hb => HA.out w hb)) ?_
          refine AllStep.cons (step_call2 (Plain.of Tryd.func18 rfl rfl) (fun _ _ _ _ hu hv => Sub_num (OkAt.num hu) (OkAt.num hv) (by decide) (by decide))) ?_
          refine AllStep.cons (step_load (fun _ _ h => h) (fun _ hb => N2.out.below hb) (fun w hb => HB.out w hb)) ?_
          refine AllStep.cons (step_load (fun _ _ h => h) (fun _ hb => N3.out.below hb) (fun w hb => HN.out w hb)) ?_
          refine AllStep.cons (step_call2 (Plain.of Tryd.func13 rfl rfl) (fun _ _ _ _ hu hv => Add_num (OkAt.num hu) (OkAt.num hv) (by decide) (by decide))) ?_
          refine AllStep.cons (step_call2 (Plain.of Tryd.func16 rfl rfl) (fun _ _ _ _ hu hv => (Same_num hu hv true (decide_eq_true (by grind))).mono (fun _ _ h => ansV h))) ?_
          refine AllStep.cons (step_pickT (fun _ _ h => h) (fun _ _ h => h)) ?_
          refine AllStep.cons (step_move (fun _ _ h => h)) ?_
          refine AllStep.cons (step_load (fun _ _ h => h) (fun _ hb => N3.out.below hb) (fun w hb => HN.out w hb)) ?_
          refine AllStep.cons (step_call1 (Plain.of Tryd.func19 rfl rfl) (fun _ _ _ hu => (Sign_num (OkAt.num hu) _ rfl).mono (fun _ _ h => ansV h))) ?_
          refine AllStep.cons (step_load (fun _ _ h => h) (fun _ hb => N1.out.below hb) (fun w hb => HA.out w hb)) ?_
          refine AllStep.cons (step_call1 (Plain.of Tryd.func19 rfl rfl) (fun _ _ _ hu => (Sign_num (OkAt.num hu) _ rfl).mono (fun _ _ h => ansV h))) ?_
          refine AllStep.cons (step_neg (fun _ _ h => h) (wrap_cmp_neg _ _) (fun _ => rfl)) ?_
          refine AllStep.cons (step_eqII (fun _ _ h => h) (fun _ _ h => h) (beq_iff_eq.2 (cmpI_neg0 A)) (fun _ => rfl)) ?_
          refine AllStep.cons (step_pickT (fun _ _ h => h) (fun _ _ h => h)) ?_
          refine AllStep.cons (step_move (fun _ _ h => h)) ?_
          refine AllStep.cons (step_load (fun _ _ h => h) (fun _ hb => N1.out.below hb) (fun w hb => HA.out w hb)) ?_
          refine AllStep.cons (step_load (fun _ _ h => h) (fun _ hb => N2.out.below hb) (fun w hb => HB.out w hb)) ?_
          refine AllStep.cons (step_call2 (Plain.of Tryd.func14 rfl rfl) (fun _ _ _ _ hu hv => Mul_num (OkAt.num hu) (OkAt.num hv) (by decide) (by decide))) ?_
          refine AllStep.cons (step_call1 (Plain.of Tryd.func19 rfl rfl) (fun _ _ _ hu => (Sign_num (OkAt.num hu) _ rfl).mono (fun _ _ h => ansV h))) ?_
          refine AllStep.cons (step_load (fun _ _ h => h) (fun _ hb => N1.out.below hb) (fun w hb => HA.out w hb)) ?_
          refine AllStep.cons (step_call1 (Plain.of Tryd.func19 rfl rfl) (fun _ _ _ hu => (Sign_num (OkAt.num hu) _ rfl).mono (fun _ _ h => ansV h))) ?_
          refine AllStep.cons (step_load (fun _ _ h => h) (fun _ hb => N2.out.below hb) (fun w hb => HB.out w hb)) ?_
          refine AllStep.cons (step_call1 (Plain.of Tryd.func19 rfl rfl) (fun _ _ _ hu => (Sign_num (OkAt.num hu) _ rfl).mono (fun _ _ h => ansV h))) ?_
          refine AllStep.cons (step_mulI (fun _ _ h => h) (fun _ _ h => h) (wrap_cmp_mul _ _ _ _) (fun _ => rfl)) ?_
          refine AllStep.cons (step_eqII (fun _ _ h => h) (fun _ _ h => h) (beq_iff_eq.2 (cmpI_mul A B)) (fun _ => rfl)) ?_
          refine AllStep.cons (step_pickT (fun _ _ h => h) (fun _ _ h => h)) ?_
          refine AllStep.cons (step_move (fun _ _ h => h)) ?_
          refine AllStep.cons (step_load (fun _ _ h => h) (fun _ hb => N3.out.below hb) (fun w hb => HN.out w hb)) ?_
          refine AllStep.cons (step_load (fun _ _ h => h) (fun _ hb => N2.out.below hb) (fun w hb => HB.out w hb)) ?_
          refine AllStep.cons (step_call2 (Plain.of Tryd.func14 rfl rfl) (fun _ _ _ _ hu hv => Mul_num (OkAt.num hu) (OkAt.num hv) (by decide) (by decide))) ?_
          refine AllStep.cons (step_load (fun _ _ h => h) (fun _ hb => N1.out.below hb) (fun w hb => HA.out w hb)) ?_
          refine AllStep.cons (step_load (fun _ _ h => h) (fun _ hb => N2.out.below hb) (fun w hb => HB.out w hb)) ?_
          refine AllStep.cons (step_call2 (Plain.of Tryd.func14 rfl rfl) (fun _ _ _ _ hu hv => Mul_num (OkAt.num hu) (OkAt.num hv) (by decide) (by decide))) ?_
          refine AllStep.cons (step_call1 (Plain.of Tryd.func17 rfl rfl) (fun _ _ _ hu => Neg_num (OkAt.num hu) (by decide))) ?_
          refine AllStep.cons (step_call2 (Plain.of Tryd.func16 rfl rfl) (fun _ _ _ _ hu hv => (Same_num hu hv true (decide_eq_true (by grind))).mono (fun _ _ h => ansV h))) ?_
          refine AllStep.cons (step_pickT (fun _ _ h => h) (fun _ _ h => h)) ?_
          refine AllStep.cons (step_move (fun _ _ h => h)) ?_
          refine AllStep.cons (step_load (fun _ _ h => h) (fun _ hb => N1.out.below hb) (fun w hb => HA.out w hb)) ?_
          refine AllStep.cons (step_load (fun _ _ h => h) (fun _ hb => N2.out.below hb) (fun w hb => HB.out w hb)) ?_
          refine AllStep.cons (step_call2 (Plain.of Tryd.func20 rfl rfl) (fun _ _ _ _ hu hv => (Cmp_num (OkAt.num hu) (OkAt.num hv) _ rfl).mono (fun _ _ h => ansV h))) ?_
          refine AllStep.cons (step_load (fun _ _ h => h) (fun _ hb => N1.out.below hb) (fun w hb => HA.out w hb)) ?_
          refine AllStep.cons (step_load (fun _ _ h => h) (fun _ hb => N2.out.below hb) (fun w hb => HB.out w hb)) ?_
          refine AllStep.cons (step_call2 (Plain.of Tryd.func18 rfl rfl) (fun _ _ _ _ hu hv => Sub_num (OkAt.num hu) (OkAt.num hv) (by decide) (by decide))) ?_
          refine AllStep.cons (step_call1 (Plain.of Tryd.func19 rfl rfl) (fun _ _ _ hu => (Sign_num (OkAt.num hu) _ rfl).mono (fun _ _ h => ansV h))) ?_
          refine AllStep.cons (step_eqII (fun _ _ h => h) (fun _ _ h => h) (beq_iff_eq.2 (cmpI_sub A B)) (fun _ => rfl)) ?_
          refine AllStep.cons (step_pickT (fun _ _ h => h) (fun _ _ h => h)) ?_
          refine AllStep.cons (step_move (fun _ _ h => h)) ?_
          refine AllStep.cons (step_load (fun _ _ h => h) (fun _ hb => N1.out.below hb) (fun w hb => HA.out w hb)) ?_
          refine AllStep.cons (step_load (fun _ _ h => h) (fun _ hb => N2.out.below hb) (fun w hb => HB.out w hb)) ?_
          refine AllStep.cons (step_call2 (Plain.of Tryd.func20 rfl rfl) (fun _ _ _ _ hu hv => (Cmp_num (OkAt.num hu) (OkAt.num hv) _ rfl).mono (fun _ _ h => ansV h))) ?_
          refine AllStep.cons (step_eqI (fun _ _ h => h) rfl (fun _ => rfl)) ?_
          refine AllStep.cons (step_load (fun _ _ h => h) (fun _ hb => N1.out.below hb) (fun w hb => HA.out w hb)) ?_
          refine AllStep.cons (step_load (fun _ _ h => h) (fun _ hb => N2.out.below hb) (fun w hb => HB.out w hb)) ?_
          refine AllStep.cons (step_call2 (Plain.of Tryd.func16 rfl rfl) (fun _ _ _ _ hu hv => (Same_num hu hv _ rfl).mono (fun _ _ h => ansV h))) ?_
          refine AllStep.cons (step_eqBB (fun _ _ h => h) (fun _ _ h => h) (beq_iff_eq.2 (cmpI_zero A B)) (fun _ => rfl)) ?_
          refine AllStep.cons (step_pickT (fun _ _ h => h) (fun _ _ h => h)) ?_
          refine AllStep.cons (step_assign (fun _ _ h => h)) ?_
          exact AllStep.nil
        · intro a' w' hb hs hd hk
          refine hK a' w' ?_
          refine wp_ret ?_
          exact ret_slot (t := 4) rfl hd (hk 4) ⟨rfl, Below.step RW.out hb⟩

end Go.Proofs.YtejlhefjphiahaaDoor
