/- Walks: sums and products go by their laws. -/
import Derived.Test.YtejlhefjphiahaaDoorLaw
namespace Go.Proofs.YtejlhefjphiahaaDoor
open Go.RowKit Go.Shelf

set_option maxRecDepth 100000 in
set_option maxHeartbeats 4000000 in
theorem LimbsRing_true (s1 s2 s3 : Bool) (v1 v2 v3 : Value) (l1 l2 l3 : List Nat) (w : World) (h1 : Lim w v1 l1) (h2 : Lim w v2 l2) (h3 : Lim w v3 l3) (htab : Tab w) :
    Calls Tryd.prog 3 #[.agg #[.bool s1, v1], .agg #[.bool s2, v2], .agg #[.bool s3, v3]] w fun e w' => e = .returned (.bool true) ∧ Below w.heap.size w w' := by
  have h1' := h1
  have h2' := h2
  have h3' := h3
  obtain ⟨a1, c1, rfl, -⟩ := h1
  obtain ⟨a2, c2, rfl, -⟩ := h2
  obtain ⟨a3, c3, rfl, -⟩ := h3
  have m1 := h1'.max
  have m2 := h2'.max
  have m3 := h3'.max
  obtain ⟨W0, e0, n1, n2, n3, hb0, hz0, hz1, hz2⟩ := box3 w (.bool s1) (.slice a1 l1.length c1) (.bool s2) (.slice a2 l2.length c2) (.bool s3) (.slice a3 l3.length c3)
  have T0 : Hid (∀ W, Below w.heap.size w W → Tab W) := fun W hb => htab.below hb
  have L1 := keepLim (h1'.below hb0)
  have L2 := keepLim (h2'.below hb0)
  have L3 := keepLim (h3'.below hb0)
  have N1 := Lib.hid n1
  have N2 := Lib.hid n2
  have N3 := Lib.hid n3
  have B0 := Lib.hid hb0
  clear h1' h2' h3' n1 n2 n3 hb0 htab hz0 hz1 hz2
  go_enter Tryd.func3, Tryd.ntmps3
  go_wp2_with fail
  clear e0
  refine (alive_true _ (T0.out _ B0.out)).mono ?_
  rintro e w1 ⟨rfl, hb1⟩
  have B1 := Lib.hid hb1
  obtain ⟨p1, p2, -, -⟩ := N1.out.below hb1
  obtain ⟨p3, p4, -, -⟩ := N2.out.below hb1
  obtain ⟨p5, p6, -, -⟩ := N3.out.below hb1
  clear hb1
  go_wp2_with fail
  by_cases hbig : 60 < l1.length ∨ 60 < l2.length ∨ 60 < l3.length
  · refine (great3 (most := 60) (r := true) (a1 := a1) (a2 := a2) (a3 := a3) (k1 := c1) (k2 := c2) (k3 := c3) rfl (by decide) m1 m2 m3 (by go_simp) (by go_simp) (by go_simp) (by simpa using hbig)).mono ?_
    rintro e w2 ⟨rfl, rfl⟩
    go_wp2_with fail
    refine (alive_true _ (T0.out _ (Below.step B0.out (Below.step B1.out (by repeat (first | exact Below.refl _ _ | with_reducible refine Below.drew ?_ | with_reducible refine below_drewN ?_ _ | with_reducible refine Below.setCell ?_ (by first | (simp; done) | (simp; omega) | omega) _ | with_reducible refine Below.alloc ?_ (by first | (simp; done) | (simp; omega) | omega) _)))))).mono ?_
    rintro e w2 ⟨rfl, hb2⟩
    have B2 := Lib.hid (Below.step B0.out (Below.step B1.out (Below.step (w := w1) (by repeat (first | exact Below.refl _ _ | with_reducible refine Below.drew ?_ | with_reducible refine below_drewN ?_ _ | with_reducible refine Below.setCell ?_ (by first | (simp; done) | (simp; omega) | omega) _ | with_reducible refine Below.alloc ?_ (by first | (simp; done) | (simp; omega) | omega) _)) hb2)))
    clear hb2
    go_wp2_with fail
    go_ret
    exact ⟨rfl, B2.out⟩
  · refine (great3 (most := 60) (r := false) (a1 := a1) (a2 := a2) (a3 := a3) (k1 := c1) (k2 := c2) (k3 := c3) rfl (by decide) m1 m2 m3 (by go_simp) (by go_simp) (by go_simp) (by simpa using hbig)).mono ?_
    rintro e w2 ⟨rfl, rfl⟩
    obtain ⟨W2, e2, b2⟩ : ∃ W2, w1.alloc (.cells #[.bool s1, .slice a1 l1.length c1, .bool s2, .slice a2 l2.length c2, .bool s3, .slice a3 l3.length c3] 24) = W2 ∧ Below w1.heap.size w1 W2 := ⟨_, rfl, (by repeat (first | exact Below.refl _ _ | with_reducible refine Below.drew ?_ | with_reducible refine below_drewN ?_ _ | with_reducible refine Below.setCell ?_ (by first | (simp; done) | (simp; omega) | omega) _ | with_reducible refine Below.alloc ?_ (by first | (simp; done) | (simp; omega) | omega) _))⟩
    have R2 := Below.step B1.out b2
    rw [e2]
    obtain ⟨A, hA⟩ : ∃ A, numZ s1 l1 = A := ⟨_, rfl⟩
    obtain ⟨B, hB⟩ : ∃ B, numZ s2 l2 = B := ⟨_, rfl⟩
    obtain ⟨C, hC⟩ : ∃ C, numZ s3 l3 = C := ⟨_, rfl⟩
    have ha := NumAt.of (s := s1) (k := 60) (L1.out _ R2) (by omega)
    have hb := NumAt.of (s := s2) (k := 60) (L2.out _ R2) (by omega)
    have hc := NumAt.of (s := s3) (k := 60) (L3.out _ R2) (by omega)
    rw [hA] at ha
    rw [hB] at hb
    rw [hC] at hc
    have HA := ha.keep
    have HB := hb.keep
    have HC := hc.keep
    have M1 := Lib.hid (N1.out.below R2)
    have M2 := Lib.hid (N2.out.below R2)
    have M3 := Lib.hid (N3.out.below R2)
    have RW := Lib.hid (Below.step B0.out R2)
    obtain ⟨p1, p2, -, -⟩ := M1.out
    obtain ⟨p3, p4, -, -⟩ := M2.out
    clear ha hb hc hA hB hC L1 L2 L3 N1 N2 N3 R2 b2 e2 B1 p5 p6 hbig m1 m2 m3
    go_wp2_with fail
    refine (Add_num (HA.out _ (Below.refl _ _)) (HB.out _ (Below.refl _ _)) (by decide) (by decide)).mono ?_
    rintro e w3 ⟨⟨u3, rfl, h3⟩, hb3⟩
    obtain ⟨s3', a3', n3', c3', rfl, -⟩ := h3.shape
    obtain ⟨W3, e3, n4, b3, -⟩ := box1 w3 (.bool s3') (.slice a3' n3' c3')
    have R3 := Below.step hb3 b3
    have HS := (h3.below b3).keep
    have N4 := Lib.hid n4
    have R3' := Lib.hid R3
    obtain ⟨p1, p2, -, -⟩ := M1.out.below R3
    obtain ⟨p3, p4, -, -⟩ := M2.out.below R3
    clear h3 b3 n4 hb3 R3
    go_wp2_with fail
    clear e3
    refine (Mul_num (HA.out _ R3'.out) (HB.out _ R3'.out) (by decide) (by decide)).mono ?_
    rintro e w4 ⟨⟨u4, rfl, h4⟩, hb4⟩
    obtain ⟨s4', a4', n4', c4', rfl, -⟩ := h4.shape
    obtain ⟨W4, e4, n5, b4, -⟩ := box1 w4 (.bool s4') (.slice a4' n4' c4')
    have R4 := Below.step hb4 b4
    have HP := (h4.below b4).keep
    have N5 := Lib.hid n5
    have HS := (HS.out _ R4).keep
    have N4 := Lib.hid (N4.out.below R4)
    have R5 := Below.step R3'.out R4
    have HA := (HA.out _ R5).keep
    have HB := (HB.out _ R5).keep
    have HC := (HC.out _ R5).keep
    have N1 := Lib.hid (M1.out.below R5)
    have N2 := Lib.hid (M2.out.below R5)
    have N3 := Lib.hid (M3.out.below R5)
    have RW := Lib.hid (Below.step RW.out R5)
    clear h4 b4 n5 hb4 R4 R5 R3' p1 p2 p3 p4 M1 M2 M3
    go_upto_region 5 with fail
    clear e4
    rename_i K hK
    try simp only [List.append_eq, List.cons_append, List.nil_append]
    refine wp_region_known [(6, true), (26, true), (27, true), (29, true), (30, true), (31, true), (36, true), (37, true), (38, true), (43, true), (44, true), (45, true), (54, true), (55, true), (56, true), (65, true), (66, true), (67, true), (78, true), (79, true)]
      [(3, IsV (.pointer (some ⟨w.heap.size, 0, none⟩))), (4, IsV (.pointer (some ⟨(w.heap.size + 1), 0, none⟩))), (5, IsV (.pointer (some ⟨(w.heap.size + 1 + 1), 0, none⟩))), (7, IsV (.pointer (some ⟨w3.heap.size, 0, none⟩))), (8, IsV (.pointer (some ⟨w4.heap.size, 0, none⟩)))]
      [(25, IsO 61 ((A + B))), (28, IsO 120 ((A * B))), (32, IsO 61 ((A + B))), (33, IsN 60 (B)), (34, IsN 60 (A)), (35, IsO 61 ((B + A))), (39, IsO 120 ((A * B))), (40, IsN 60 (B)), (41, IsN 60 (A)), (42, IsO 120 ((B * A))), (46, IsO 61 ((A + B))), (47, IsN 60 (C)), (48, IsO 62 (((A + B) + C))), (49, IsN 60 (A)), (50, IsN 60 (B)), (51, IsN 60 (C)), (52, IsO 61 ((B + C))), (53, IsO 62 ((A + (B + C)))), (57, IsO 120 ((A * B))), (58, IsN 60 (C)), (59, IsO 180 (((A * B) * C))), (60, IsN 60 (A)), (61, IsN 60 (B)), (62, IsN 60 (C)), (63, IsO 120 ((B * C))), (64, IsO 180 ((A * (B * C)))), (68, IsO 61 ((A + B))), (69, IsN 60 (C)), (70, IsO 121 (((A + B) * C))), (71, IsN 60 (A)), (72, IsN 60 (C)), (73, IsO 120 ((A * C))), (74, IsN 60 (B)), (75, IsN 60 (C)), (76, IsO 120 ((B * C))), (77, IsO 121 (((A * C) + (B * C))))]
      80 (by kernel_rfl) rfl (by kernel_rfl) (by kernel_rfl) ⟨rfl, rfl, rfl, rfl, rfl, trivial⟩ ⟨IsV.grows _ , IsV.grows _ , IsV.grows _ , IsV.grows _ , IsV.grows _ , IsO.grows _ _ , IsO.grows _ _ , IsO.grows _ _ , IsN.grows _ _ , IsN.grows _ _ , IsO.grows _ _ , IsO.grows _ _ , IsN.grows _ _ , IsN.grows _ _ , IsO.grows _ _ , IsO.grows _ _ , IsN.grows _ _ , IsO.grows _ _ , IsN.grows _ _ , IsN.grows _ _ , IsN.grows _ _ , IsO.grows _ _ , IsO.grows _ _ , IsO.grows _ _ , IsN.grows _ _ , IsO.grows _ _ , IsN.grows _ _ , IsN.grows _ _ , IsN.grows _ _ , IsO.grows _ _ , IsO.grows _ _ , IsO.grows _ _ , IsN.grows _ _ , IsO.grows _ _ , IsN.grows _ _ , IsN.grows _ _ , IsO.grows _ _ , IsN.grows _ _ , IsN.grows _ _ , IsO.grows _ _ , IsO.grows _ _ , trivial⟩ ?_ ?_
    · refine AllStep.cons (step_load (fun _ _ h => h) (fun _ hb => N4.out.below hb) (fun w hb => HS.out w hb)) ?_
      refine AllStep.cons (step_call1 (Plain.of Tryd.func15 rfl rfl) (fun _ _ _ hu => (Check_num hu).mono (fun _ _ h => ansV h))) ?_
      refine AllStep.cons (step_move (fun _ _ h => h)) ?_
      refine AllStep.cons (step_load (fun _ _ h => h) (fun _ hb => N5.out.below hb) (fun w hb => HP.out w hb)) ?_
      refine AllStep.cons (step_call1 (Plain.of Tryd.func15 rfl rfl) (fun _ _ _ hu => (Check_num hu).mono (fun _ _ h => ansV h))) ?_
      refine AllStep.cons (step_pickT (fun _ _ h => h) (fun _ _ h => h)) ?_
      refine AllStep.cons (step_move (fun _ _ h => h)) ?_
      refine AllStep.cons (step_load (fun _ _ h => h) (fun _ hb => N4.out.below hb) (fun w hb => HS.out w hb)) ?_
      refine AllStep.cons (step_load (fun _ _ h => h) (fun _ hb => N2.out.below hb) (fun w hb => HB.out w hb)) ?_
      refine AllStep.cons (step_load (fun _ _ h => h) (fun _ hb => N1.out.below hb) (fun w hb => HA.out w hb)) ?_
      refine AllStep.cons (step_call2 (Plain.of Tryd.func13 rfl rfl) (fun _ _ _ _ hu hv => Add_num hu hv (by decide) (by decide))) ?_
      refine AllStep.cons (step_call2 (Plain.of Tryd.func16 rfl rfl) (fun _ _ _ _ hu hv => (Same_num hu hv true (decide_eq_true (by grind))).mono (fun _ _ h => ansV h))) ?_
      refine AllStep.cons (step_pickT (fun _ _ h => h) (fun _ _ h => h)) ?_
      refine AllStep.cons (step_move (fun _ _ h => h)) ?_
      refine AllStep.cons (step_load (fun _ _ h => h) (fun _ hb => N5.out.below hb) (fun w hb => HP.out w hb)) ?_
      refine AllStep.cons (step_load (fun _ _ h => h) (fun _ hb => N2.out.below hb) (fun w hb => HB.out w hb)) ?_
      refine AllStep.cons (step_load (fun _ _ h => h) (fun _ hb => N1.out.below hb) (fun w hb => HA.out w hb)) ?_
      refine AllStep.cons (step_call2 (Plain.of Tryd.func14 rfl rfl) (fun _ _ _ _ hu hv => Mul_num hu hv (by decide) (by decide))) ?_
      refine AllStep.cons (step_call2 (Plain.of Tryd.func16 rfl rfl) (fun _ _ _ _ hu hv => (Same_num hu hv true (decide_eq_true (by grind))).mono (fun _ _ h => ansV h))) ?_
      refine AllStep.cons (step_pickT (fun _ _ h => h) (fun _ _ h => h)) ?_
      refine AllStep.cons (step_move (fun _ _ h => h)) ?_
      refine AllStep.cons (step_load (fun _ _ h => h) (fun _ hb => N4.out.below hb) (fun w hb => HS.out w hb)) ?_
      refine AllStep.cons (step_load (fun _ _ h => h) (fun _ hb => N3.out.below hb) (fun w hb => HC.out w hb)) ?_
      refine AllStep.cons (step_call2 (Plain.of Tryd.func13 rfl rfl) (fun _ _ _ _ hu hv => Add_num (OkAt.num hu) hv (by decide) (by decide))) ?_
      refine AllStep.cons (step_load (fun _ _ h => h) (fun _ hb => N1.out.below hb) (fun w hb => HA.out w hb)) ?_
      refine AllStep.cons (step_load (fun _ _ h => h) (fun _ hb => N2.out.below hb) (fun w hb => HB.out w hb)) ?_
      refine AllStep.cons (step_load (fun _ _ h => h) (fun _ hb => N3.out.below hb) (fun w hb => HC.out w hb)) ?_
      refine AllStep.cons (step_call2 (Plain.of Tryd.func13 rfl rfl) (fun _ _ _ _ hu hv => Add_num hu hv (by decide) (by decide))) ?_
      refine AllStep.cons (step_call2 (Plain.of Tryd.func13 rfl rfl) (fun _ _ _ _ hu hv => Add_num hu (OkAt.num hv) (by decide) (by decide))) ?_
      refine AllStep.cons (step_call2 (Plain.of Tryd.func16 rfl rfl) (fun _ _ _ _ hu hv => (Same_num hu hv true (decide_eq_true (by grind))).mono (fun _ _ h => ansV h))) ?_
      refine AllStep.cons (step_pickT (fun _ _ h => h) (fun _ _ h => h)) ?_
      refine AllStep.cons (step_move (fun _ _ h => h)) ?_
      refine AllStep.cons (step_load (fun _ _ h => h) (fun _ hb => N5.out.below hb) (fun w hb => HP.out w hb)) ?_
      refine AllStep.cons (step_load (fun _ _ h => h) (fun _ hb => N3.out.below hb) (fun w hb => HC.out w hb)) ?_
      refine AllStep.cons (step_call2 (Plain.of Tryd.func14 rfl rfl) (fun _ _ _ _ hu hv => Mul_num (OkAt.num hu) hv (by decide) (by decide))) ?_
      refine AllStep.cons (step_load (fun _ _ h => h) (fun _ hb => N1.out.below hb) (fun w hb => HA.out w hb)) ?_
      refine AllStep.cons (step_load (fun _ _ h => h) (fun _ hb => N2.out.below hb) (fun w hb => HB.out w hb)) ?_
      refine AllStep.cons (step_load (fun _ _ h => h) (fun _ hb => N3.out.below hb) (fun w hb => HC.out w hb)) ?_
      refine AllStep.cons (step_call2 (Plain.of Tryd.func14 rfl rfl) (fun _ _ _ _ hu hv => Mul_num hu hv (by decide) (by decide))) ?_
      refine AllStep.cons (step_call2 (Plain.of Tryd.func14 rfl rfl) (fun _ _ _ _ hu hv => Mul_num hu (OkAt.num hv) (by decide) (by decide))) ?_
      refine AllStep.cons (step_call2 (Plain.of Tryd.func16 rfl rfl) (fun _ _ _ _ hu hv => (Same_num hu hv true (decide_eq_true (by grind))).mono (fun _ _ h => ansV h))) ?_
      refine AllStep.cons (step_pickT (fun _ _ h => h) (fun _ _ h => h)) ?_
      refine AllStep.cons (step_move (fun _ _ h => h)) ?_
      refine AllStep.cons (step_load (fun _ _ h => h) (fun _ hb => N4.out.below hb) (fun w hb => HS.out w hb)) ?_
      refine AllStep.cons (step_load (fun _ _ h => h) (fun _ hb => N3.out.below hb) (fun w hb => HC.out w hb)) ?_
      refine AllStep.cons (step_call2 (Plain.of Tryd.func14 rfl rfl) (fun _ _ _ _ hu hv => Mul_num (OkAt.num hu) hv (by decide) (by decide))) ?_
      refine AllStep.cons (step_load (fun _ _ h => h) (fun _ hb => N1.out.below hb) (fun w hb => HA.out w hb)) ?_
      refine AllStep.cons (step_load (fun _ _ h => h) (fun _ hb => N3.out.below hb) (fun w hb => HC.out w hb)) ?_
      refine AllStep.cons (step_call2 (Plain.of Tryd.func14 rfl rfl) (fun _ _ _ _ hu hv => Mul_num hu hv (by decide) (by decide))) ?_
      refine AllStep.cons (step_load (fun _ _ h => h) (fun _ hb => N2.out.below hb) (fun w hb => HB.out w hb)) ?_
      refine AllStep.cons (step_load (fun _ _ h => h) (fun _ hb => N3.out.below hb) (fun w hb => HC.out w hb)) ?_
      refine AllStep.cons (step_call2 (Plain.of Tryd.func14 rfl rfl) (fun _ _ _ _ hu hv => Mul_num hu hv (by decide) (by decide))) ?_
      refine AllStep.cons (step_call2 (Plain.of Tryd.func13 rfl rfl) (fun _ _ _ _ hu hv => Add_num (OkAt.num hu) (OkAt.num hv) (by decide) (by decide))) ?_
      refine AllStep.cons (step_call2 (Plain.of Tryd.func16 rfl rfl) (fun _ _ _ _ hu hv => (Same_num hu hv true (decide_eq_true (by grind))).mono (fun _ _ h => ansV h))) ?_
      refine AllStep.cons (step_pickT (fun _ _ h => h) (fun _ _ h => h)) ?_
      refine AllStep.cons (step_assign (fun _ _ h => h)) ?_
      exact AllStep.nil
    · intro a' w' hb hs hd hk
      refine hK a' w' ?_
      refine wp_ret ?_
      exact ret_slot (t := 6) rfl hd (hk 6) ⟨rfl, Below.step RW.out hb⟩

end Go.Proofs.YtejlhefjphiahaaDoor
