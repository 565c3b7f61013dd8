/- Walks: how often one number goes into another one, and what is left. -/
import Derived.Test.YtejlhefjphiahaaDoorLaw
import Derived.Test.YtejlhefjphiahaaDoorSteps2
namespace Go.Proofs.YtejlhefjphiahaaDoor
open Go.RowKit Go.Shelf

theorem sign_mod {A B : Int} (h : B ≠ 0) : 0 ≤ cmpI (A % B) 0 := by
  have := Int.emod_nonneg A h
  unfold cmpI
  split
  · omega
  · split <;> omega
theorem amount_abs (B : Int) : B * cmpI B 0 = (B.natAbs : Int) := by
  rcases Int.lt_trichotomy B 0 with h | h | h
  · rw [cmpI_lt h]; omega
  · subst h; rfl
  · rw [cmpI_gt h]; omega
theorem cmp_amount {A B : Int} (h : B ≠ 0) : cmpI (A % B) (B * cmpI B 0) = -1 := by
  rw [amount_abs]
  exact cmpI_lt (Int.emod_lt A h)
theorem often_back (A B : Int) : A / B * B + A % B = A := by
  have := Int.emod_add_mul_ediv A B
  rw [Int.mul_comm B] at this
  omega

set_option maxRecDepth 100000 in
set_option maxHeartbeats 4000000 in
theorem LimbsOften_true (s1 s2 : Bool) (v1 v2 : Value) (l1 l2 : List Nat) (w : World) (h1 : Lim w v1 l1) (h2 : Lim w v2 l2) (htab : Tab w) :
    Calls Tryd.prog 5 #[.agg #[.bool s1, v1], .agg #[.bool s2, v2]] w fun e w' => e = .returned (.bool true) ∧ Below w.heap.size w w' := by
  have h1' := h1
  have h2' := h2
  obtain ⟨a1, c1, rfl, -⟩ := h1
  obtain ⟨a2, c2, rfl, -⟩ := h2
  have m1 := h1'.max
  have m2 := h2'.max
  obtain ⟨W0, e0, n1, n2, hb0, hz0, hz1⟩ := box2 w (.bool s1) (.slice a1 l1.length c1) (.bool s2) (.slice a2 l2.length c2)
  have T0 : Hid (∀ W, Below w.heap.size w W → Tab W) := fun W hb => htab.below hb
  have L1 := keepLim (h1'.below hb0)
  have L2 := keepLim (h2'.below hb0)
  have N1 := Lib.hid n1
  have N2 := Lib.hid n2
  have B0 := Lib.hid hb0
  clear h1' h2' n1 n2 hb0 htab hz0 hz1
  go_enter Tryd.func5, Tryd.ntmps5
  go_wp2_with fail
  clear e0
  refine (alive_true _ (T0.out _ B0.out)).mono ?_
  rintro e w1 ⟨rfl, hb1⟩
  obtain ⟨p1, p2, -, -⟩ := N1.out.below hb1
  obtain ⟨p3, p4, -, -⟩ := N2.out.below hb1
  obtain ⟨W1, e1, b1, g1, g2⟩ : ∃ W1, w1.alloc (.cells #[.bool s1, .slice a1 l1.length c1, .bool s2, .slice a2 l2.length c2] 24) = W1 ∧ Below w1.heap.size w1 W1 ∧ W1.cell? ⟨w1.heap.size, 1, none⟩ = some (.slice a1 l1.length c1) ∧ W1.cell? ⟨w1.heap.size, 3, none⟩ = some (.slice a2 l2.length c2) := ⟨_, rfl, (by repeat (first | exact Below.refl _ _ | with_reducible refine Below.drew ?_ | with_reducible refine below_drewN ?_ _ | with_reducible refine Below.setCell ?_ (by first | (simp; done) | (simp; omega) | omega) _ | with_reducible refine Below.alloc ?_ (by first | (simp; done) | (simp; omega) | omega) _)), by go_simp, by go_simp⟩
  have R1 := Lib.hid (Below.step hb1 b1)
  obtain ⟨q1, q2, -, -⟩ := N1.out.below R1.out
  obtain ⟨q3, q4, -, -⟩ := N2.out.below R1.out
  clear hb1 b1
  go_wp2_with fail
  clear e1
  by_cases hbig : 60 < l1.length ∨ 60 < l2.length
  · refine (great2 (most := 60) (r := true) rfl (by decide) m1 m2 g1 g2 (by simpa using hbig)).mono ?_
    rintro e w2 ⟨rfl, rfl⟩
    go_wp2_with fail
    refine (alive_true _ (T0.out _ (Below.step B0.out R1.out))).mono ?_
    rintro e w2 ⟨rfl, hb2⟩
    have B2 := Lib.hid (Below.step (Below.step B0.out R1.out) hb2)
    clear hb2
    go_wp2_with fail
    go_ret
    exact ⟨rfl, B2.out⟩
  · refine (great2 (most := 60) (r := false) rfl (by decide) m1 m2 g1 g2 (by simpa using hbig)).mono ?_
    rintro e w2 ⟨rfl, rfl⟩
    have K1 : Hid (l1.length ≤ 60) := by show _ ≤ _; omega
    have K2 : Hid (l2.length ≤ 60) := by show _ ≤ _; omega
    clear hbig g1 g2 p1 p2 p3 p4 m1 m2
    go_wp2_with fail
    refine (check_any s1 _ l1 _ (L1.out _ R1.out)).mono ?_
    rintro e w2 ⟨rfl, hb2⟩
    have R2 := Lib.hid (Below.step R1.out hb2)
    obtain ⟨p3, p4, -, -⟩ := N2.out.below R2.out
    obtain ⟨p1, p2, -, -⟩ := N1.out.below R2.out
    clear hb2 q1 q2 q3 q4 R1
    cases ho1 : okB s1 l1
    · clear ho1
      go_wp2_with fail
      refine (alive_true _ (T0.out _ (Below.step B0.out R2.out))).mono ?_
      rintro e w3 ⟨rfl, hb3⟩
      have B2 := Lib.hid (Below.step (Below.step B0.out R2.out) hb3)
      clear hb3
      go_wp2_with fail
      go_ret
      exact ⟨rfl, B2.out⟩
    · have O1 := Lib.hid ho1
      clear ho1
      go_wp2_with fail
      refine (check_any s2 _ l2 _ (L2.out _ R2.out)).mono ?_
      rintro e wc ⟨rfl, hb2⟩
      have R3 := Lib.hid (Below.step R2.out hb2)
      obtain ⟨p1, p2, -, -⟩ := N1.out.below R3.out
      clear hb2 p3 p4 R2
      cases ho2 : okB s2 l2
      · clear ho2
        go_wp2_with fail
        refine (alive_true _ (T0.out _ (Below.step B0.out R3.out))).mono ?_
        rintro e w3 ⟨rfl, hb3⟩
        have B2 := Lib.hid (Below.step (Below.step B0.out R3.out) hb3)
        clear hb3
        go_wp2_with fail
        go_ret
        exact ⟨rfl, B2.out⟩
      · obtain ⟨A, hA⟩ : ∃ A, valS s1 l1 = A := ⟨_, rfl⟩
        obtain ⟨B, hB⟩ : ∃ B, valS s2 l2 = B := ⟨_, rfl⟩
        have HA := (OkAt.of (k := 60) (L1.out _ R3.out) O1.out hA K1.out).keep
        have HB := (OkAt.of (k := 60) (L2.out _ R3.out) ho2 hB K2.out).keep
        have M1 := Lib.hid (N1.out.below R3.out)
        have M2 := Lib.hid (N2.out.below R3.out)
        have RW := Lib.hid (Below.step B0.out R3.out)
        clear ho2 hA hB N1 N2 L1 L2 R3 B0 O1 K1 K2
        obtain ⟨p3, p4, -, -⟩ := M2.out
        by_cases h0 : B = 0
        · have HB0 : Hid (OkAt wc (.agg #[.bool s2, .slice a2 l2.length c2]) 60 0) := by
            have := HB.out _ (Below.refl _ _)
            rw [h0] at this
            exact this
          have hc0 := cmpI_eq h0
          have HC0 := Lib.hid hc0
          clear h0 hc0
          go_wp2_with fail
          refine (Div_none (HA.out _ (Below.refl _ _)) HB0.out).mono ?_
          rintro e w3 ⟨⟨sq, aq, nq, cq, sr, ar, nr, cr, rfl, -, -, kq, kr⟩, hb3⟩
          obtain rfl : nq = 0 := by omega
          obtain rfl : nr = 0 := by omega
          obtain ⟨W3, e3, nb1, nb2, bw, -, -⟩ := box2 w3 (.bool sq) (.slice aq 0 cq) (.bool sr) (.slice ar 0 cr)
          have R3 := Below.step hb3 bw
          have N5 := Lib.hid nb1
          have N6 := Lib.hid nb2
          have R3' := Lib.hid R3
          obtain ⟨p3, p4, -, -⟩ := M2.out.below R3
          clear hb3 bw nb1 nb2 R3 kq kr p1 p2
          go_wp2_with fail
          clear e3
          refine (Sign_num (HB.out _ R3'.out).num 0 HC0.out).mono ?_
          rintro e w5 ⟨rfl, hb5⟩
          have R5 := Lib.hid (Below.step (Below.step RW.out R3'.out) hb5)
          obtain ⟨d1, d2, -, -⟩ := N5.out.below hb5
          obtain ⟨d3, d4, -, -⟩ := N6.out.below hb5
          clear hb5 p3 p4
          go_wp2_with fail
          go_ret
          exact ⟨rfl, R5.out⟩
        · have H0 : B ≠ 0 := h0
          have hs0 : (cmpI B 0 == 0) = false := by rw [cmpI_zero]; exact decide_eq_false h0
          have HH0 := Lib.hid H0
          clear H0 h0
          go_wp2_with fail
          refine (Div_num (HA.out _ (Below.refl _ _)) (HB.out _ (Below.refl _ _)) (by decide) (by decide) HH0.out).mono ?_
          rintro e w3 ⟨⟨sq, aq, nq, cq, sr, ar, nr, cr, rfl, hq, hr, -, -⟩, hb3⟩
          obtain ⟨W3, e3, nb1, nb2, bw, -, -⟩ := box2 w3 (.bool sq) (.slice aq nq cq) (.bool sr) (.slice ar nr cr)
          have R3 := Below.step hb3 bw
          have N5 := Lib.hid nb1
          have N6 := Lib.hid nb2
          have HQ := (hq.below bw).keep
          have HR := (hr.below bw).keep
          have R3' := Lib.hid R3
          obtain ⟨p3, p4, -, -⟩ := M2.out.below R3
          clear hb3 bw nb1 nb2 R3 hq hr p1 p2
          go_wp2_with fail
          clear e3
          refine (Sign_num (HB.out _ R3'.out).num _ rfl).mono ?_
          rintro e w5 ⟨rfl, hb5⟩
          have R5 := Below.step R3'.out hb5
          have HA := (HA.out _ R5).keep
          have HB := (HB.out _ R5).keep
          have N1 := Lib.hid (M1.out.below R5)
          have N2 := Lib.hid (M2.out.below R5)
          have HQ := (HQ.out _ hb5).keep
          have HR := (HR.out _ hb5).keep
          have N5 := Lib.hid (N5.out.below hb5)
          have N6 := Lib.hid (N6.out.below hb5)
          have RW := Lib.hid (Below.step RW.out R5)
          clear hb5 R5 R3' M1 M2 p3 p4
          go_upto_region 6 with fail
          rename_i K6 hK6
          clear hs0
          have H0 := HH0.out
          refine wp_region_tail []
            [(2, IsV (.pointer (some ⟨w.heap.size, 0, none⟩))), (3, IsV (.pointer (some ⟨(w.heap.size + 1), 0, none⟩))), (5, IsV (.pointer (some ⟨w3.heap.size, 0, none⟩))), (6, IsV (.pointer (some ⟨(w3.heap.size + 1), 0, none⟩))), (7, IsV (.int .i64 (0)))]
            [(55, IsO 60 (B)), (56, IsO 60 (B)), (57, IsV (.int .i64 (cmpI (B) 0))), (58, IsO 3 (cmpI (B) 0)), (59, IsO 63 ((B * cmpI (B) 0))), (8, IsNewBox w5.heap.size)]
            [8] 113 6 (by kernel_rfl) rfl (by kernel_rfl) (by kernel_rfl) (by kernel_rfl) (by kernel_rfl) ⟨rfl, rfl, rfl, rfl, rfl, trivial⟩ ⟨IsV.grows _ , IsV.grows _ , IsV.grows _ , IsV.grows _ , IsV.grows _ , IsO.grows _ _ , IsO.grows _ _ , IsV.grows _ , IsO.grows _ _ , IsO.grows _ _ , IsNewBox.grows _ , trivial⟩ ?_ (fun d _ _ _ _ h => by cases d <;> exact h) ?_ ?_
          · refine AllStep2.step rfl rfl (step_load (fun _ _ h => h) (fun _ hb => N2.out.below hb) (fun w hb => HB.out w hb)) ?_
            refine AllStep2.step rfl rfl (step_load (fun _ _ h => h) (fun _ hb => N2.out.below hb) (fun w hb => HB.out w hb)) ?_
            refine AllStep2.step rfl rfl (step_call1 (Plain.of Tryd.func19 rfl rfl) (fun _ _ _ hu => (Sign_num (OkAt.num hu) _ rfl).mono (fun _ _ h => ansV h))) ?_
            refine AllStep2.step rfl rfl (step_call1 (Plain.of Tryd.func22 rfl rfl) (fun u w _ hu => by have hu' : u = .int .i64 (cmpI (B) 0) := hu; subst hu'; exact Of_num _ w (cmpI_i64 _ _).1 (cmpI_i64 _ _).2)) ?_
            refine AllStep2.step rfl rfl (step_call2 (Plain.of Tryd.func14 rfl rfl) (fun _ _ _ _ hu hv => Mul_num (OkAt.num hu) (OkAt.num hv) (by decide) (by decide))) ?_
            refine AllStep2.fresh rfl rfl (alloc_num (fun _ _ h => h)) ?_
            exact AllStep2.nil
          · intro t ht v w hk
            simp only [List.mem_cons, List.not_mem_nil, or_false] at ht
            subst ht
            exact IsNewBox.lt (show IsNewBox w5.heap.size v w from hk)
          intro a6 w6 hb6 hs6 hd6 hk6 _
          have h59 : IsO 63 (B * cmpI B 0) (a6.eval (.tmp 59)) w6 := hk6 59 (by kernel_rfl)
          obtain ⟨b8, e8, hb8, nb8⟩ : IsNewBox w5.heap.size (a6.eval (.tmp 8)) w6 := hk6 8 (by kernel_rfl)
          obtain ⟨s59, a59, n59, c59, e59, -⟩ := OkAt.shape h59
          have h59' : OkAt w6 (.agg #[.bool s59, .slice a59 n59 c59]) 63 (B * cmpI B 0) := by rw [← e59]; exact h59
          refine wpOps_step (i := 6) (rest := []) rfl rfl ?_
          refine wp_store_num e8 e59 nb8 ?_
          obtain ⟨W6, eW6, n8, b6, ok6, -⟩ := store_box (s := s59) (x := a59) (n := n59) (c := c59) hb6 hb8 nb8
          rw [eW6]
          have HM := (ok6 _ _ _ h59').keep
          have N8 := Lib.hid n8
          have HA := (HA.out _ b6).keep
          have HB := (HB.out _ b6).keep
          have HQ := (HQ.out _ b6).keep
          have HR := (HR.out _ b6).keep
          have N1 := Lib.hid (N1.out.below b6)
          have N2 := Lib.hid (N2.out.below b6)
          have N5 := Lib.hid (N5.out.below b6)
          have N6 := Lib.hid (N6.out.below b6)
          have RW := Lib.hid (Below.step RW.out b6)
          refine hK6 _ _ ?_
          refine wp_seq_k ?_
          intro K7 hK7
          refine wp_region_tail []
            [(2, IsV (.pointer (some ⟨w.heap.size, 0, none⟩))), (3, IsV (.pointer (some ⟨(w.heap.size + 1), 0, none⟩))), (5, IsV (.pointer (some ⟨w3.heap.size, 0, none⟩))), (6, IsV (.pointer (some ⟨(w3.heap.size + 1), 0, none⟩))), (8, IsV (.pointer (some ⟨b8, 0, none⟩))), (7, IsV (.int .i64 (0)))]
            [(61, IsO 60 (A)), (62, IsO 60 (B)), (63, IsO 120 ((A * B))), (64, IsO 60 (B)), (65, IsD 121 60 (0) (((A * B) / B)) (((A * B) % B))), (60, IsD 121 60 (0) (((A * B) / B)) (((A * B) % B))), (66, IsO 121 (((A * B) / B))), (67, IsO 60 (((A * B) % B))), (68, IsV (.int .i64 (0))), (9, IsNewBox W6.heap.size), (10, IsNewBox W6.heap.size)]
            [9, 10] 113 11 (by kernel_rfl) hs6 (by kernel_rfl) (by kernel_rfl) (by kernel_rfl) (by kernel_rfl) ⟨hk6 2 (by kernel_rfl), hk6 3 (by kernel_rfl), hk6 5 (by kernel_rfl), hk6 6 (by kernel_rfl), e8, hk6 7 (by kernel_rfl), trivial⟩ ⟨IsV.grows _ , IsV.grows _ , IsV.grows _ , IsV.grows _ , IsV.grows _ , IsV.grows _ , IsO.grows _ _ , IsO.grows _ _ , IsO.grows _ _ , IsO.grows _ _ , IsD.grows _ _ _ _ _ , IsD.grows _ _ _ _ _ , IsO.grows _ _ , IsO.grows _ _ , IsV.grows _ , IsNewBox.grows _ , IsNewBox.grows _ , trivial⟩ ?_ (fun d _ _ _ _ h => by cases d <;> exact h) ?_ ?_
          · refine AllStep2.step rfl rfl (step_load (fun _ _ h => h) (fun _ hb => N1.out.below hb) (fun w hb => HA.out w hb)) ?_
            refine AllStep2.step rfl rfl (step_load (fun _ _ h => h) (fun _ hb => N2.out.below hb) (fun w hb => HB.out w hb)) ?_
            refine AllStep2.step rfl rfl (step_call2 (Plain.of Tryd.func14 rfl rfl) (fun _ _ _ _ hu hv => Mul_num (OkAt.num hu) (OkAt.num hv) (by decide) (by decide))) ?_
            refine AllStep2.step rfl rfl (step_load (fun _ _ h => h) (fun _ hb => N2.out.below hb) (fun w hb => HB.out w hb)) ?_
            refine AllStep2.step rfl rfl (step_call2 (Plain.of Tryd.func21 rfl rfl) (fun _ _ _ _ hu hv => (Div_num hu hv (by decide) (by decide) H0).mono (fun _ _ h => ansD h))) ?_
            refine AllStep2.quiet rfl (pure_move (fun _ _ h => h)) ?_
            refine AllStep2.quiet rfl (pure_extract (fun _ _ h => IsD.q h)) ?_
            refine AllStep2.quiet rfl (pure_extract (fun _ _ h => IsD.r h)) ?_
            refine AllStep2.quiet rfl (pure_extract (fun _ _ h => IsD.n h)) ?_
            refine AllStep2.fresh rfl rfl (alloc_num (fun _ _ h => h)) ?_
            refine AllStep2.fresh rfl rfl (alloc_num (fun _ _ h => h)) ?_
            exact AllStep2.nil
          · intro t ht v w hk
            simp only [List.mem_cons, List.not_mem_nil, or_false] at ht
            rcases ht with rfl | rfl
            · exact IsNewBox.lt (show IsNewBox W6.heap.size v w from hk)
            · exact IsNewBox.lt (show IsNewBox W6.heap.size v w from hk)
          intro a7 w7 hb7 hs7 hd7 hk7 hx7
          have h66 : IsO 121 (A * B / B) (a7.eval (.tmp 66)) w7 := hk7 66 (by kernel_rfl)
          have h67 : IsO 60 (A * B % B) (a7.eval (.tmp 67)) w7 := hk7 67 (by kernel_rfl)
          have h68 : a7.eval (.tmp 68) = .int .i64 0 := hk7 68 (by kernel_rfl)
          obtain ⟨b9, e9, hb9, nb9⟩ : IsNewBox W6.heap.size (a7.eval (.tmp 9)) w7 := hk7 9 (by kernel_rfl)
          obtain ⟨b10, e10, hb10, nb10⟩ : IsNewBox W6.heap.size (a7.eval (.tmp 10)) w7 := hk7 10 (by kernel_rfl)
          have hne : b10 ≠ b9 := by
            intro e
            have := hx7 9 10 (by decide) (by decide) (by decide)
            rw [e9, e10, e] at this
            exact this rfl
          obtain ⟨s66, a66, n66, c66, e66, -⟩ := OkAt.shape h66
          obtain ⟨s67, a67, n67, c67, e67, -⟩ := OkAt.shape h67
          have h66' : OkAt w7 (.agg #[.bool s66, .slice a66 n66 c66]) 121 (A * B / B) := by rw [← e66]; exact h66
          have h67' : OkAt w7 (.agg #[.bool s67, .slice a67 n67 c67]) 60 (A * B % B) := by rw [← e67]; exact h67
          refine wpOps_step (i := 11) (rest := [12, 13]) rfl rfl ?_
          refine wp_store_num e9 e66 nb9 ?_
          obtain ⟨W7, eW7, n9, b7, ok7, keep7⟩ := store_box (s := s66) (x := a66) (n := n66) (c := c66) hb7 hb9 nb9
          rw [eW7]
          refine wpOps_step (i := 12) (rest := [13]) rfl rfl ?_
          refine wp_store_num e10 e67 (keep7 _ _ _ hne nb10) ?_
          obtain ⟨W8, eW8, n10, b8', ok8, keep8⟩ := store_box (s := s67) (x := a67) (n := n67) (c := c67) b7 hb10 (keep7 _ _ _ hne nb10)
          rw [eW8]
          refine wpOps_step (i := 13) (rest := []) rfl rfl ?_
          refine wp_assign ?_
          have HP := (ok8 _ _ _ (ok7 _ _ _ h66')).keep
          have HS := (ok8 _ _ _ (ok7 _ _ _ h67')).keep
          have N9 := Lib.hid (keep8 _ _ _ (Ne.symm hne) n9)
          have N10 := Lib.hid n10
          have HM := (HM.out _ b8').keep
          have N8 := Lib.hid (N8.out.below b8')
          have HA := (HA.out _ b8').keep
          have HB := (HB.out _ b8').keep
          have HQ := (HQ.out _ b8').keep
          have HR := (HR.out _ b8').keep
          have N1 := Lib.hid (N1.out.below b8')
          have N2 := Lib.hid (N2.out.below b8')
          have N5 := Lib.hid (N5.out.below b8')
          have N6 := Lib.hid (N6.out.below b8')
          have RW := Lib.hid (Below.step RW.out b8')
          have e11 : (a7.put (some 11) (a7.eval (.tmp 68))).eval (.tmp 11) = .int .i64 0 := by
            rw [eval_put (by rw [hs7]; decide), if_pos rfl, h68]
          have hs8 : (a7.put (some 11) (a7.eval (.tmp 68))).tmps.size = 113 := by
            show (a7.tmps.setIfInBounds 11 _).size = 113
            rw [Array.size_setIfInBounds]; exact hs7
          refine hK7 _ _ ?_
          refine wp_seq_k ?_
          intro K hK
          refine wp_region_known [(4, true), (70, true), (71, true), (73, true), (74, true), (75, true), (77, true), (78, true), (79, true), (81, true), (82, true), (83, true), (86, true), (87, true), (88, true), (92, true), (93, true), (94, true), (101, true), (102, true), (103, true), (106, true), (107, true), (108, true), (111, true), (112, true)]
            [(2, IsV (.pointer (some ⟨w.heap.size, 0, none⟩))), (3, IsV (.pointer (some ⟨(w.heap.size + 1), 0, none⟩))), (5, IsV (.pointer (some ⟨w3.heap.size, 0, none⟩))), (6, IsV (.pointer (some ⟨(w3.heap.size + 1), 0, none⟩))), (8, IsV (.pointer (some ⟨b8, 0, none⟩))), (9, IsV (.pointer (some ⟨b9, 0, none⟩))), (10, IsV (.pointer (some ⟨b10, 0, none⟩))), (7, IsV (.int .i64 (0))), (11, IsV (.int .i64 (0)))]
            [(69, IsV (.int .i64 (0))), (72, IsV (.int .i64 (0))), (76, IsO 61 ((A / B))), (80, IsO 60 ((A % B))), (84, IsO 60 ((A % B))), (85, IsV (.int .i64 (cmpI ((A % B)) 0))), (89, IsO 60 ((A % B))), (90, IsO 63 ((B * cmpI (B) 0))), (91, IsV (.int .i64 (cmpI ((A % B)) ((B * cmpI (B) 0))))), (95, IsO 61 ((A / B))), (96, IsO 60 (B)), (97, IsO 121 (((A / B) * B))), (98, IsO 60 ((A % B))), (99, IsO 122 ((((A / B) * B) + (A % B)))), (100, IsO 60 (A)), (104, IsO 121 ((A * B / B))), (105, IsO 60 (A)), (109, IsO 60 ((A * B % B))), (110, IsV (.int .i64 (cmpI ((A * B % B)) 0)))]
            113 (by kernel_rfl) hs8 (by kernel_rfl) (by kernel_rfl) ⟨(eval_put' (by simp)).trans (hk7 2 (by kernel_rfl)), (eval_put' (by simp)).trans (hk7 3 (by kernel_rfl)), (eval_put' (by simp)).trans (hk7 5 (by kernel_rfl)), (eval_put' (by simp)).trans (hk7 6 (by kernel_rfl)), (eval_put' (by simp)).trans (hk7 8 (by kernel_rfl)), (eval_put' (by simp)).trans e9, (eval_put' (by simp)).trans e10, (eval_put' (by simp)).trans (hk7 7 (by kernel_rfl)), e11, trivial⟩ ⟨IsV.grows _ , IsV.grows _ , IsV.grows _ , IsV.grows _ , IsV.grows _ , IsV.grows _ , IsV.grows _ , IsV.grows _ , IsV.grows _ , IsV.grows _ , IsV.grows _ , IsO.grows _ _ , IsO.grows _ _ , IsO.grows _ _ , IsV.grows _ , IsO.grows _ _ , IsO.grows _ _ , IsV.grows _ , IsO.grows _ _ , IsO.grows _ _ , IsO.grows _ _ , IsO.grows _ _ , IsO.grows _ _ , IsO.grows _ _ , IsO.grows _ _ , IsO.grows _ _ , IsO.grows _ _ , IsV.grows _ , trivial⟩ ?_ ?_
          · refine AllStep.cons (step_move (fun _ _ h => h)) ?_
            refine AllStep.cons (step_eqE (fun _ _ h => h) rfl (fun _ => rfl)) ?_
            refine AllStep.cons (step_move (fun _ _ h => h)) ?_
            refine AllStep.cons (step_move (fun _ _ h => h)) ?_
            refine AllStep.cons (step_eqE (fun _ _ h => h) rfl (fun _ => rfl)) ?_
            refine AllStep.cons (step_pickT (fun _ _ h => h) (fun _ _ h => h)) ?_
            refine AllStep.cons (step_move (fun _ _ h => h)) ?_
            refine AllStep.cons (step_load (fun _ _ h => h) (fun _ hb => N5.out.below hb) (fun w hb => HQ.out w hb)) ?_
            refine AllStep.cons (step_call1 (Plain.of Tryd.func15 rfl rfl) (fun _ _ _ hu => (Check_num hu).mono (fun _ _ h => ansV h))) ?_
            refine AllStep.cons (step_pickT (fun _ _ h => h) (fun _ _ h => h)) ?_
            refine AllStep.cons (step_move (fun _ _ h => h)) ?_
            refine AllStep.cons (step_load (fun _ _ h => h) (fun _ hb => N6.out.below hb) (fun w hb => HR.out w hb)) ?_
            refine AllStep.cons (step_call1 (Plain.of Tryd.func15 rfl rfl) (fun _ _ _ hu => (Check_num hu).mono (fun _ _ h => ansV h))) ?_
            refine AllStep.cons (step_pickT (fun _ _ h => h) (fun _ _ h => h)) ?_
            refine AllStep.cons (step_move (fun _ _ h => h)) ?_
            refine AllStep.cons (step_load (fun _ _ h => h) (fun _ hb => N6.out.below hb) (fun w hb => HR.out w hb)) ?_
            refine AllStep.cons (step_call1 (Plain.of Tryd.func19 rfl rfl) (fun _ _ _ hu => (Sign_num (OkAt.num hu) _ rfl).mono (fun _ _ h => ansV h))) ?_
            refine AllStep.cons (step_geq (fun _ _ h => h) (decide_eq_true (sign_mod H0)) (fun _ => rfl)) ?_
            refine AllStep.cons (step_pickT (fun _ _ h => h) (fun _ _ h => h)) ?_
            refine AllStep.cons (step_move (fun _ _ h => h)) ?_
            refine AllStep.cons (step_load (fun _ _ h => h) (fun _ hb => N6.out.below hb) (fun w hb => HR.out w hb)) ?_
            refine AllStep.cons (step_load (fun _ _ h => h) (fun _ hb => N8.out.below hb) (fun w hb => HM.out w hb)) ?_
            refine AllStep.cons (step_call2 (Plain.of Tryd.func20 rfl rfl) (fun _ _ _ _ hu hv => (Cmp_num (OkAt.num hu) (OkAt.num hv) _ rfl).mono (fun _ _ h => ansV h))) ?_
            refine AllStep.cons (step_eqI (fun _ _ h => h) (beq_iff_eq.2 (cmp_amount H0)) (fun _ => rfl)) ?_
            refine AllStep.cons (step_pickT (fun _ _ h => h) (fun _ _ h => h)) ?_
            refine AllStep.cons (step_move (fun _ _ h => h)) ?_
            refine AllStep.cons (step_load (fun _ _ h => h) (fun _ hb => N5.out.below hb) (fun w hb => HQ.out w hb)) ?_
            refine AllStep.cons (step_load (fun _ _ h => h) (fun _ hb => N2.out.below hb) (fun w hb => HB.out w hb)) ?_
            refine AllStep.cons (step_call2 (Plain.of Tryd.func14 rfl rfl) (fun _ _ _ _ hu hv => Mul_num (OkAt.num hu) (OkAt.num hv) (by decide) (by decide))) ?_
            refine AllStep.cons (step_load (fun _ _ h => h) (fun _ hb => N6.out.below hb) (fun w hb => HR.out w hb)) ?_
            refine AllStep.cons (step_call2 (Plain.of Tryd.func13 rfl rfl) (fun _ _ _ _ hu hv => Add_num (OkAt.num hu) (OkAt.num hv) (by decide) (by decide))) ?_
            refine AllStep.cons (step_load (fun _ _ h => h) (fun _ hb => N1.out.below hb) (fun w hb => HA.out w hb)) ?_
            refine AllStep.cons (step_call2 (Plain.of Tryd.func16 rfl rfl) (fun _ _ _ _ hu hv => (Same_num hu hv true (decide_eq_true (often_back A B))).mono (fun _ _ h => ansV h))) ?_
            refine AllStep.cons (step_pickT (fun _ _ h => h) (fun _ _ h => h)) ?_
            refine AllStep.cons (step_move (fun _ _ h => h)) ?_
            refine AllStep.cons (step_load (fun _ _ h => h) (fun _ hb => N9.out.below hb) (fun w hb => HP.out w hb)) ?_
            refine AllStep.cons (step_load (fun _ _ h => h) (fun _ hb => N1.out.below hb) (fun w hb => HA.out w hb)) ?_
            refine AllStep.cons (step_call2 (Plain.of Tryd.func16 rfl rfl) (fun _ _ _ _ hu hv => (Same_num hu hv true (decide_eq_true (Int.mul_ediv_cancel A H0))).mono (fun _ _ h => ansV h))) ?_
            refine AllStep.cons (step_pickT (fun _ _ h => h) (fun _ _ h => h)) ?_
            refine AllStep.cons (step_move (fun _ _ h => h)) ?_
            refine AllStep.cons (step_load (fun _ _ h => h) (fun _ hb => N10.out.below hb) (fun w hb => HS.out w hb)) ?_
            refine AllStep.cons (step_call1 (Plain.of Tryd.func19 rfl rfl) (fun _ _ _ hu => (Sign_num (OkAt.num hu) _ rfl).mono (fun _ _ h => ansV h))) ?_
            refine AllStep.cons (step_eqI (fun _ _ h => h) (beq_iff_eq.2 (cmpI_eq (Int.mul_emod_left A B))) (fun _ => rfl)) ?_
            refine AllStep.cons (step_pickT (fun _ _ h => h) (fun _ _ h => h)) ?_
            refine AllStep.cons (step_assign (fun _ _ h => h)) ?_
            exact AllStep.nil
          · intro a' w' hb hs hd hk
            refine hK a' w' ?_
            refine wp_ret ?_
            exact ret_slot (t := 4) rfl (hd.trans (hd7.trans hd6)) (hk 4) ⟨rfl, Below.step RW.out hb⟩

end Go.Proofs.YtejlhefjphiahaaDoor
