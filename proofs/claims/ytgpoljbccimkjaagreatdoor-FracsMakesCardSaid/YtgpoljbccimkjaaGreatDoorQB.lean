/- Walks of the reference of layer 2: lowest terms. -/
import Derived.Test.YtgpoljbccimkjaaGreatDoorFDiv
import Derived.Test.YtgpoljbccimkjaaGreatDoorRefU
namespace Go.Proofs.YtgpoljbccimkjaaGreatDoor
set_option linter.unusedSimpArgs false
set_option linter.unusedVariables false
open Go.RowKit Go.Shelf

set_option maxHeartbeats 1000000 in
theorem qone_any (s : Bool) (v : Value) (l : List Nat) (w : World) (h : Lim w v l) :
    Calls Tryz.prog 151 #[.agg #[.bool s, v]] w fun e w' => e = .returned (.bool (oneB s l)) ∧ Below w.heap.size w w' := by
  obtain ⟨a, c, rfl, h1, h2, h3, h4⟩ := h
  unfold maxLen at h2
  cases s with
  | true =>
    go_enter Tryz.func151, Tryz.ntmps151
    go_wp2
    go_ret
    exact ⟨rfl, (by repeat (first | exact Below.refl _ _ | with_reducible refine Below.drew ?_ | with_reducible refine below_drewN ?_ _ | with_reducible refine Below.setCell ?_ (by first | (simp; done) | (simp; omega) | omega) _ | with_reducible refine Below.alloc ?_ (by first | (simp; done) | (simp; omega) | omega) _))⟩
  | false =>
    by_cases hl : l.length = 1
    · rcases h4 with ⟨rfl, rfl, rfl⟩ | ⟨b, o, rfl, hc⟩
      · simp at hl
      · obtain ⟨x, rfl⟩ : ∃ x, l = [x] := by
          match l, hl with
          | [x], _ => exact ⟨x, rfl⟩
        have hx := hc 0 (by simp)
        have hcw : (w.alloc (Obj.cells #[Value.bool false, Value.slice (some { block := b, off := o }) 1 c] 24)).cell? ⟨b, o, none⟩ = some (.int .u32 x) := cell_later ((Below.refl w.heap.size w).alloc (Nat.le_refl _) _) hx
        have hone : oneB false [x] = ((x : Int) == 1) := by
          unfold oneB
          rw [Bool.eq_iff_iff]
          simp
          omega
        rw [hone]
        simp only [List.length_cons, List.length_nil, Nat.zero_add] at *
        clear hc hx hone hl
        go_enter Tryz.func151, Tryz.ntmps151
        go_wp2
        go_ret
        exact ⟨rfl, (by repeat (first | exact Below.refl _ _ | with_reducible refine Below.drew ?_ | with_reducible refine below_drewN ?_ _ | with_reducible refine Below.setCell ?_ (by first | (simp; done) | (simp; omega) | omega) _ | with_reducible refine Below.alloc ?_ (by first | (simp; done) | (simp; omega) | omega) _))⟩
    · have hz : ((l.length : Int) == 1) = false := by rw [beq_eq_false_iff_ne]; omega
      have hone : oneB false l = false := by
        unfold oneB
        simp only [Bool.not_false, Bool.true_and, decide_eq_false_iff_not]
        rintro rfl
        exact hl rfl
      rw [hone]
      clear hone hl h4 h3
      go_enter Tryz.func151, Tryz.ntmps151
      go_wp2
      go_ret
      exact ⟨rfl, (by repeat (first | exact Below.refl _ _ | with_reducible refine Below.drew ?_ | with_reducible refine below_drewN ?_ _ | with_reducible refine Below.setCell ?_ (by first | (simp; done) | (simp; omega) | omega) _ | with_reducible refine Below.alloc ?_ (by first | (simp; done) | (simp; omega) | omega) _))⟩

theorem qone_num {w : World} {u : Value} {k : Nat} {Z : Int} (h : OkAt w u k Z) (r : Bool) (hr : decide (Z = 1) = r) :
    Calls Tryz.prog 151 #[u] w fun e w' => e = .returned (.bool r) ∧ Below w.heap.size w w' := by
  obtain ⟨s, v, l, rfl, h1, h2, h3, h4⟩ := h
  refine (qone_any s v l w h1).mono ?_
  rintro e w' ⟨h5, h6⟩
  rw [oneB_is h2 h3, hr] at h5
  exact ⟨h5, h6⟩

theorem rTwin_num {w : World} {u : Value} {k : Nat} {Z : Int} (h : OkAt w u k Z) (hk : k ≤ 1000000) :
    Calls Tryz.prog 82 #[u] w fun e w' => AnsAt w' e k Z ∧ Below w.heap.size w w' := by
  obtain ⟨s, v, l, rfl, h1, h2, h3, h4⟩ := h
  refine (rTwin_any s v l w h1 (by omega)).mono ?_
  rintro e w' ⟨⟨v', rfl, h5⟩, h6⟩
  exact ⟨⟨_, rfl, s, v', l, rfl, h5, h2, h3, h4⟩, h6⟩
theorem divInt_turn (P Q : Int) : Rat.divInt (if Q < 0 then -P else P) (if Q < 0 then -Q else Q) = Rat.divInt P Q := by
  split
  · exact Rat.neg_divInt_neg P Q
  · rfl


end Go.Proofs.YtgpoljbccimkjaaGreatDoor

namespace Go.Proofs.YtgpoljbccimkjaaGreatDoor
set_option linter.unusedSimpArgs false
set_option linter.unusedVariables false
open Go.RowKit Go.Shelf

theorem rSign_q {w : World} {u : Value} {k : Nat} {Z : Int} (h : NumAt w u k Z) (r : Int) (hr : cmpI Z 0 = r) :
    Calls Tryz.prog 138 #[u] w fun e w' => e = .returned (.int .i64 r) ∧ Below w.heap.size w w' := by
  obtain ⟨s, v, l, rfl, h2, h3, h4⟩ := h
  rw [← hr, ← h3]
  exact rSign_any s v l w h2
theorem low_facts {P Q P1 Q1 : Int} (hQ : Q ≠ 0) (h : (Q < 0 ∧ P1 = -P ∧ Q1 = -Q) ∨ (0 < Q ∧ P1 = P ∧ Q1 = Q)) : ((P1 / ((Int.gcd P1 Q1 : Nat) : Int) = (Rat.divInt P Q).num) ∧ Q1 / ((Int.gcd P1 Q1 : Nat) : Int) = ((Rat.divInt P Q).den : Int) ∧ ((Int.gcd P1 Q1 : Nat) : Int) ≠ 0) := by
  have hq : ¬ Q1 < 0 := by omega
  have hq0 : Q1 ≠ 0 := by omega
  have hd : Rat.divInt P1 Q1 = Rat.divInt P Q := by
    rcases h with ⟨-, rfl, rfl⟩ | ⟨-, rfl, rfl⟩
    · exact Rat.neg_divInt_neg P Q
    · rfl
  obtain ⟨h1, h2, -, -, h5⟩ := rat_lowest (P := P1) (Q := Q1) hq0 rfl
  rw [if_neg hq] at h1 h2 h5
  rw [hd] at h1 h2
  exact ⟨h1, h2, h5⟩

set_option maxRecDepth 100000 in
set_option maxHeartbeats 4000000 in
theorem qlowest_num {w : World} {u v : Value} {k k' : Nat} {P Q : Int} (h : OkAt w u k P) (h' : OkAt w v k' Q) (hk : k ≤ 900000) (hk' : k' ≤ 900000) (hQ : Q ≠ 0) :
    Calls Tryz.prog 139 #[u, v] w fun e w' => FrAns w' e (max k k') (Rat.divInt P Q) ∧ Below w.heap.size w w' := by
  have HK : Hid (k ≤ 1000000 ∧ k' ≤ 1000000 ∧ k ≤ 900000 ∧ k' ≤ 900000) := ⟨by omega, by omega, hk, hk'⟩
  obtain ⟨s, a, n, c, rfl, -⟩ := h.shape
  obtain ⟨s', a', n', c', rfl, -⟩ := h'.shape
  obtain ⟨W0, e0, m1, m2, m4, hb0⟩ := box_red w (.bool s) (.slice a n c) (.bool s') (.slice a' n' c')
  have N1 := m1.keep
  have N2 := m2.keep
  have N4 := m4.keep
  have HA := (h.below hb0).keep
  have HB := (h'.below hb0).keep
  have BB := Lib.hid hb0
  obtain ⟨c0, c1, -, -⟩ := m2.c2
  clear m1 m2 m4 hb0 h h' hk hk'
  by_cases hneg : Q < 0
  · have HS : Hid (cmpI Q 0 = -1) := cmpI_lt hneg
    have HD0 := low_facts (P := P) (P1 := -P) (Q1 := -Q) hQ (.inl ⟨hneg, rfl, rfl⟩)
    clear hneg hQ
    go_enter Tryz.func139, Tryz.ntmps139
    go_wp2_with fail
    clear e0
    refine (rSign_q (HB.out _ (Below.refl _ _)).num (-1) HS.out).mono ?_
    rintro e w1 ⟨rfl, hb1⟩
    have N1 := (N1.out _ hb1).keep
    have N2 := (N2.out _ hb1).keep
    have N4 := (N4.out _ hb1).keep
    have HA := (HA.out _ hb1).keep
    have HB := (HB.out _ hb1).keep
    have BB := Lib.hid (Below.step BB.out hb1)
    clear hb1 c0 c1
    obtain ⟨c0, c1, -, -⟩ := (N1.out _ (Below.refl _ _)).c2
    go_wp2_with fail
    refine (rNeg_num (HA.out _ (Below.refl _ _)).num HK.out.1).mono ?_
    rintro e w2 ⟨⟨u2, rfl, h2⟩, hb2⟩
    obtain ⟨s1, a1, n1, k1, rfl, -⟩ := h2.shape
    have nn1 := N1.out _ hb2
    obtain ⟨W2, g2, st2, bx2⟩ := nn1.store (ys := [.bool s1, .slice a1 n1 k1]) rfl rfl
    simp only [setAll] at g2
    clear c0 c1
    obtain ⟨c0, c1, f0, f1⟩ := nn1.c2
    have HA := (h2.store st2).keep
    have HB := ((HB.out _ hb2).store st2).keep
    have N1 := bx2.keep
    have N2 := (st2.box (by omega) (N2.out _ hb2)).keep
    have N4 := (st2.box (by omega) (N4.out _ hb2)).keep
    have BB := Lib.hid (st2.below w (by omega) (Below.step BB.out hb2))
    obtain ⟨d0, d1, -, -⟩ := (N2.out _ (Below.refl _ _)).c2
    clear hb2 h2 nn1 st2 bx2
    go_wp2_with fail
    clear g2 c0 c1 f0 f1
    refine (rNeg_num (HB.out _ (Below.refl _ _)).num HK.out.2.1).mono ?_
    rintro e w3 ⟨⟨u3, rfl, h3⟩, hb3⟩
    obtain ⟨s2, a2, n2, k2, rfl, -⟩ := h3.shape
    have nn2 := N2.out _ hb3
    obtain ⟨W3, g3, st3, bx3⟩ := nn2.store (ys := [.bool s2, .slice a2 n2 k2]) rfl rfl
    simp only [setAll] at g3
    clear d0 d1
    obtain ⟨d0, d1, f0, f1⟩ := nn2.c2
    have HA := ((HA.out _ hb3).store st3).keep
    have HB := (h3.store st3).keep
    have N1 := (st3.box (by omega) (N1.out _ hb3)).keep
    have N2 := bx3.keep
    have N4 := (st3.box (by omega) (N4.out _ hb3)).keep
    have BB := Lib.hid (st3.below w (by omega) (Below.step BB.out hb3))
    clear hb3 h3 nn2 st3 bx3
    obtain ⟨P1, hP1⟩ : ∃ P1, -P = P1 := ⟨_, rfl⟩
    obtain ⟨Q1, hQ1⟩ : ∃ Q1, -Q = Q1 := ⟨_, rfl⟩
    rw [hP1, hQ1] at HD0
    rw [hP1] at HA
    rw [hQ1] at HB
    have HD := Lib.hid HD0
    clear HD0 hP1 hQ1
    obtain ⟨c0, c1, -, -⟩ := (N2.out _ (Below.refl _ _)).c2
    go_wp2_with fail
    clear g3 d0 d1 f0 f1
    by_cases hone : Q1 = 1
    · refine (qone_num (HB.out _ (Below.refl _ _)) true (decide_eq_true hone)).mono ?_
      rintro e w4 ⟨rfl, hb4⟩
      have HE : Hid (P1 = (Rat.divInt P Q).num ∧ Q1 = ((Rat.divInt P Q).den : Int)) := by
        have h1 := HD.out.1
        have h2 := HD.out.2.1
        rw [hone] at h1 h2
        simp only [Int.gcd_one_right] at h1 h2
        rw [hone]
        constructor
        · rw [← h1]; simp
        · rw [← h2]; simp
      have N1 := (N1.out _ hb4).keep
      have N2 := (N2.out _ hb4).keep
      have N4 := (N4.out _ hb4).keep
      have HA := (HA.out _ hb4).keep
      have HB := (HB.out _ hb4).keep
      have BB := Lib.hid (Below.step BB.out hb4)
      clear hb4 hone c0 c1
      go_upto_region 5 with fail
      rename_i K9 hK9
      refine wp_region_tail []
        [(2, IsV (.pointer (some ⟨w.heap.size, 0, none⟩))), (3, IsV (.pointer (some ⟨w.heap.size + 1, 0, none⟩))), (4, IsV (.pointer (some ⟨w.heap.size + 1 + 1, 0, none⟩)))]
        [(21, IsO k P1), (22, IsO k P1), (23, IsO k' Q1), (24, IsO k' Q1), (25, IsOO k P1 k' Q1)]
        [] 46 5 (by kernel_rfl) rfl (by kernel_rfl) (by kernel_rfl) (by kernel_rfl) (by kernel_rfl) ⟨rfl, rfl, rfl, trivial⟩ ⟨IsV.grows _, IsV.grows _, IsV.grows _, IsO.grows _ _, IsO.grows _ _, IsO.grows _ _, IsO.grows _ _, IsOO.grows _ _ _ _, trivial⟩ ?_ (fun d _ _ _ _ h => by cases d <;> exact h) ?_ ?_
      · refine AllStep2.step rfl rfl (step_loadT (fun _ _ h => h) (fun W hb => run_load2 rfl (N1.out W hb).at0 (N1.out W hb).at1) (fun w hb => HA.out w hb)) ?_
        refine AllStep2.step rfl rfl (step_call1 (Plain.of Tryz.func82 rfl rfl) (fun _ _ _ hu => rTwin_num hu HK.out.1)) ?_
        refine AllStep2.step rfl rfl (step_loadT (fun _ _ h => h) (fun W hb => run_load2 rfl (N2.out W hb).at0 (N2.out W hb).at1) (fun w hb => HB.out w hb)) ?_
        refine AllStep2.step rfl rfl (step_call1 (Plain.of Tryz.func82 rfl rfl) (fun _ _ _ hu => rTwin_num hu HK.out.2.1)) ?_
        refine AllStep2.step rfl rfl (step_join (fun _ _ _ _ _ _ _ _ _ => run_build2) (fun _ _ h => h) (fun _ _ h => h) (fun _ _ h => h)) ?_
        exact AllStep2.nil
      · intro t ht v w hk
        simp only [List.mem_cons, List.not_mem_nil, or_false] at ht
      intro a3 w3 hb3 hs3 hd3 hk3 _
      have h25 : IsOO k P1 k' Q1 (a3.eval (.tmp 25)) w3 := hk3 25 (by kernel_rfl)
      have h4 : a3.eval (.tmp 4) = .pointer (some ⟨w.heap.size + 1 + 1, 0, none⟩) := hk3 4 (by kernel_rfl)
      obtain ⟨z1, y1, i1, j1, z2, y2, i2, j2, e25, o1, o2⟩ := h25
      have N := N4.out _ hb3
      obtain ⟨W', e, hst, hbx⟩ := N.store (ys := [.bool z1, .slice y1 i1 j1, .bool z2, .slice y2 i2 j2]) rfl (noU32_4 ..)
      refine wpOps_step (i := 5) (rest := []) rfl rfl ?_
      refine wp_store_T h4 e25 (run_store4 N) ?_
      rw [e]
      refine hK9 _ _ ?_
      refine wp_ret ?_
      have hfin : bodyPost Tryz.prog Tryz.f139 (fun e w' => FrAns w' e (max k k') (Rat.divInt P Q) ∧ Below w.heap.size w w') .ret a3 W' := ret_fr (t := 4) rfl hd3 h4 hbx ⟨⟨_, rfl, (FrOk.join (o1.up (Nat.le_max_left _ _)) (o2.up (Nat.le_max_right _ _)) HE.out.1 HE.out.2).store hst⟩, hst.below w (by omega) (Below.step BB.out hb3)⟩
      exact hfin
    · refine (qone_num (HB.out _ (Below.refl _ _)) false (decide_eq_false hone)).mono ?_
      rintro e w4 ⟨rfl, hb4⟩
      have N1 := (N1.out _ hb4).keep
      have N2 := (N2.out _ hb4).keep
      have N4 := (N4.out _ hb4).keep
      have HA := (HA.out _ hb4).keep
      have HB := (HB.out _ hb4).keep
      have BB := Lib.hid (Below.step BB.out hb4)
      clear hb4 hone c0 c1
      obtain ⟨c0, c1, -, -⟩ := (N1.out _ (Below.refl _ _)).c2
      obtain ⟨c2, c3, -, -⟩ := (N2.out _ (Below.refl _ _)).c2
      go_wp2_with fail
      refine (rGcd_num (HA.out _ (Below.refl _ _)).num (HB.out _ (Below.refl _ _)).num HK.out.2.2.1 HK.out.2.2.2).mono ?_
      rintro e w5 ⟨⟨u5, rfl, h5⟩, hb5⟩
      obtain ⟨s5, a5, n5, c5, rfl, -⟩ := h5.shape
      obtain ⟨W5, e5, m5, b5, -⟩ := box1 w5 (.bool s5) (.slice a5 n5 c5)
      have R5 := Below.step hb5 b5
      have N5 := m5.v.keep
      have HG := (h5.below b5).keep
      have N1 := (N1.out _ R5).keep
      have N2 := (N2.out _ R5).keep
      have N4 := (N4.out _ R5).keep
      have HA := (HA.out _ R5).keep
      have HB := (HB.out _ R5).keep
      have BB := Lib.hid (Below.step BB.out R5)
      clear hb5 b5 R5 m5 h5 c0 c1 c2 c3
      obtain ⟨c0, c1, -, -⟩ := (N1.out _ (Below.refl _ _)).c2
      obtain ⟨c2, c3, -, -⟩ := (N5.out _ (Below.refl _ _)).c2
      go_wp2_with fail
      clear e5
      refine (rDiv_num (HA.out _ (Below.refl _ _)) (HG.out _ (Below.refl _ _)) HK.out.2.2.1 (by have := HK.out; omega) HD.out.2.2).mono ?_
      rintro e w6 ⟨⟨u6, u7, rfl, h6, h7⟩, hb6⟩
      obtain ⟨s6, a6, n6, c6, rfl, -⟩ := h6.shape
      obtain ⟨s7, a7, n7, c7, rfl, -⟩ := h7.shape
      obtain ⟨W6, e6, m6, m7, b6, -, -⟩ := box2 w6 (.bool s6) (.slice a6 n6 c6) (.bool s7) (.slice a7 n7 c7)
      have R6 := Below.step hb6 b6
      have N6 := m6.v.keep
      have HX := (h6.below b6).keep
      have N2 := (N2.out _ R6).keep
      have N4 := (N4.out _ R6).keep
      have N5 := (N5.out _ R6).keep
      have HG := (HG.out _ R6).keep
      have HB := (HB.out _ R6).keep
      have BB := Lib.hid (Below.step BB.out R6)
      clear hb6 b6 R6 m6 m7 h6 h7 c0 c1 c2 c3
      obtain ⟨c0, c1, -, -⟩ := (N2.out _ (Below.refl _ _)).c2
      obtain ⟨c2, c3, -, -⟩ := (N5.out _ (Below.refl _ _)).c2
      go_wp2_with fail
      clear e6
      refine (rDiv_num (HB.out _ (Below.refl _ _)) (HG.out _ (Below.refl _ _)) HK.out.2.2.2 (by have := HK.out; omega) HD.out.2.2).mono ?_
      rintro e w8 ⟨⟨u8, u9, rfl, h8, h9⟩, hb8⟩
      obtain ⟨s8, a8, n8, c8, rfl, -⟩ := h8.shape
      obtain ⟨s9, a9, n9, c9, rfl, -⟩ := h9.shape
      obtain ⟨W8, e8, m8, m9, b8, -, -⟩ := box2 w8 (.bool s8) (.slice a8 n8 c8) (.bool s9) (.slice a9 n9 c9)
      have R8 := Below.step hb8 b8
      have HY := (h8.below b8).keep
      have HX := (HX.out _ R8).keep
      have BB := Lib.hid (Below.step BB.out R8)
      have nn6 := N6.out _ R8
      have n4 := N4.out _ R8
      have N := Lib.hid n4
      obtain ⟨c4, c5', c6', c7'⟩ := n4.c4
      obtain ⟨f0, f1, f2, f3⟩ := n4.f4
      clear c0 c1 c2 c3
      obtain ⟨c0, c1, -, -⟩ := nn6.c2
      obtain ⟨c2, c3, -, -⟩ := m8
      clear hb8 b8 R8 m9 h8 h9 nn6 n4
      go_wp2_with fail
      clear e8
      obtain ⟨W', e, hst, hbx⟩ := N.out.store (ys := [.bool s6, .slice a6 n6 c6, .bool s8, .slice a8 n8 c8]) rfl rfl
      simp only [setAll] at e
      rw [e]
      exact ret_fr (t := 4) rfl rfl rfl hbx ⟨⟨_, rfl, (FrOk.join (((HX.out _ (Below.refl _ _)).store hst).up (Nat.le_max_left _ _)) (((HY.out _ (Below.refl _ _)).store hst).up (Nat.le_max_right _ _)) HD.out.1 HD.out.2.1)⟩, hst.below w (by omega) BB.out⟩
  · have HS : Hid (cmpI Q 0 = 1) := cmpI_gt (by omega)
    have HD0 := low_facts (P := P) (P1 := P) (Q1 := Q) hQ (.inr ⟨by omega, rfl, rfl⟩)
    clear hneg hQ
    go_enter Tryz.func139, Tryz.ntmps139
    go_wp2_with fail
    clear e0
    refine (rSign_q (HB.out _ (Below.refl _ _)).num 1 HS.out).mono ?_
    rintro e w1 ⟨rfl, hb1⟩
    have N1 := (N1.out _ hb1).keep
    have N2 := (N2.out _ hb1).keep
    have N4 := (N4.out _ hb1).keep
    have HA := (HA.out _ hb1).keep
    have HB := (HB.out _ hb1).keep
    have BB := Lib.hid (Below.step BB.out hb1)
    have HD := Lib.hid HD0
    clear hb1 c0 c1 HD0
    obtain ⟨c0, c1, -, -⟩ := (N2.out _ (Below.refl _ _)).c2
    go_wp2_with fail
    by_cases hone : Q = 1
    · refine (qone_num (HB.out _ (Below.refl _ _)) true (decide_eq_true hone)).mono ?_
      rintro e w4 ⟨rfl, hb4⟩
      have HE : Hid (P = (Rat.divInt P Q).num ∧ Q = ((Rat.divInt P Q).den : Int)) := by
        have h1 := HD.out.1
        have h2 := HD.out.2.1
        rw [hone] at h1 h2
        simp only [Int.gcd_one_right] at h1 h2
        rw [hone]
        constructor
        · rw [← h1]; simp
        · rw [← h2]; simp
      have N1 := (N1.out _ hb4).keep
      have N2 := (N2.out _ hb4).keep
      have N4 := (N4.out _ hb4).keep
      have HA := (HA.out _ hb4).keep
      have HB := (HB.out _ hb4).keep
      have BB := Lib.hid (Below.step BB.out hb4)
      clear hb4 hone c0 c1
      go_upto_region 5 with fail
      rename_i K9 hK9
      refine wp_region_tail []
        [(2, IsV (.pointer (some ⟨w.heap.size, 0, none⟩))), (3, IsV (.pointer (some ⟨w.heap.size + 1, 0, none⟩))), (4, IsV (.pointer (some ⟨w.heap.size + 1 + 1, 0, none⟩)))]
        [(21, IsO k P), (22, IsO k P), (23, IsO k' Q), (24, IsO k' Q), (25, IsOO k P k' Q)]
        [] 46 5 (by kernel_rfl) rfl (by kernel_rfl) (by kernel_rfl) (by kernel_rfl) (by kernel_rfl) ⟨rfl, rfl, rfl, trivial⟩ ⟨IsV.grows _, IsV.grows _, IsV.grows _, IsO.grows _ _, IsO.grows _ _, IsO.grows _ _, IsO.grows _ _, IsOO.grows _ _ _ _, trivial⟩ ?_ (fun d _ _ _ _ h => by cases d <;> exact h) ?_ ?_
      · refine AllStep2.step rfl rfl (step_loadT (fun _ _ h => h) (fun W hb => run_load2 rfl (N1.out W hb).at0 (N1.out W hb).at1) (fun w hb => HA.out w hb)) ?_
        refine AllStep2.step rfl rfl (step_call1 (Plain.of Tryz.func82 rfl rfl) (fun _ _ _ hu => rTwin_num hu HK.out.1)) ?_
        refine AllStep2.step rfl rfl (step_loadT (fun _ _ h => h) (fun W hb => run_load2 rfl (N2.out W hb).at0 (N2.out W hb).at1) (fun w hb => HB.out w hb)) ?_
        refine AllStep2.step rfl rfl (step_call1 (Plain.of Tryz.func82 rfl rfl) (fun _ _ _ hu => rTwin_num hu HK.out.2.1)) ?_
        refine AllStep2.step rfl rfl (step_join (fun _ _ _ _ _ _ _ _ _ => run_build2) (fun _ _ h => h) (fun _ _ h => h) (fun _ _ h => h)) ?_
        exact AllStep2.nil
      · intro t ht v w hk
        simp only [List.mem_cons, List.not_mem_nil, or_false] at ht
      intro a3 w3 hb3 hs3 hd3 hk3 _
      have h25 : IsOO k P k' Q (a3.eval (.tmp 25)) w3 := hk3 25 (by kernel_rfl)
      have h4 : a3.eval (.tmp 4) = .pointer (some ⟨w.heap.size + 1 + 1, 0, none⟩) := hk3 4 (by kernel_rfl)
      obtain ⟨z1, y1, i1, j1, z2, y2, i2, j2, e25, o1, o2⟩ := h25
      have N := N4.out _ hb3
      obtain ⟨W', e, hst, hbx⟩ := N.store (ys := [.bool z1, .slice y1 i1 j1, .bool z2, .slice y2 i2 j2]) rfl (noU32_4 ..)
      refine wpOps_step (i := 5) (rest := []) rfl rfl ?_
      refine wp_store_T h4 e25 (run_store4 N) ?_
      rw [e]
      refine hK9 _ _ ?_
      refine wp_ret ?_
      have hfin : bodyPost Tryz.prog Tryz.f139 (fun e w' => FrAns w' e (max k k') (Rat.divInt P Q) ∧ Below w.heap.size w w') .ret a3 W' := ret_fr (t := 4) rfl hd3 h4 hbx ⟨⟨_, rfl, (FrOk.join (o1.up (Nat.le_max_left _ _)) (o2.up (Nat.le_max_right _ _)) HE.out.1 HE.out.2).store hst⟩, hst.below w (by omega) (Below.step BB.out hb3)⟩
      exact hfin
    · refine (qone_num (HB.out _ (Below.refl _ _)) false (decide_eq_false hone)).mono ?_
      rintro e w4 ⟨rfl, hb4⟩
      have N1 := (N1.out _ hb4).keep
      have N2 := (N2.out _ hb4).keep
      have N4 := (N4.out _ hb4).keep
      have HA := (HA.out _ hb4).keep
      have HB := (HB.out _ hb4).keep
      have BB := Lib.hid (Below.step BB.out hb4)
      clear hb4 hone c0 c1
      obtain ⟨c0, c1, -, -⟩ := (N1.out _ (Below.refl _ _)).c2
      obtain ⟨c2, c3, -, -⟩ := (N2.out _ (Below.refl _ _)).c2
      go_wp2_with fail
      refine (rGcd_num (HA.out _ (Below.refl _ _)).num (HB.out _ (Below.refl _ _)).num HK.out.2.2.1 HK.out.2.2.2).mono ?_
      rintro e w5 ⟨⟨u5, rfl, h5⟩, hb5⟩
      obtain ⟨s5, a5, n5, c5, rfl, -⟩ := h5.shape
      obtain ⟨W5, e5, m5, b5, -⟩ := box1 w5 (.bool s5) (.slice a5 n5 c5)
      have R5 := Below.step hb5 b5
      have N5 := m5.v.keep
      have HG := (h5.below b5).keep
      have N1 := (N1.out _ R5).keep
      have N2 := (N2.out _ R5).keep
      have N4 := (N4.out _ R5).keep
      have HA := (HA.out _ R5).keep
      have HB := (HB.out _ R5).keep
      have BB := Lib.hid (Below.step BB.out R5)
      clear hb5 b5 R5 m5 h5 c0 c1 c2 c3
      obtain ⟨c0, c1, -, -⟩ := (N1.out _ (Below.refl _ _)).c2
      obtain ⟨c2, c3, -, -⟩ := (N5.out _ (Below.refl _ _)).c2
      go_wp2_with fail
      clear e5
      refine (rDiv_num (HA.out _ (Below.refl _ _)) (HG.out _ (Below.refl _ _)) HK.out.2.2.1 (by have := HK.out; omega) HD.out.2.2).mono ?_
      rintro e w6 ⟨⟨u6, u7, rfl, h6, h7⟩, hb6⟩
      obtain ⟨s6, a6, n6, c6, rfl, -⟩ := h6.shape
      obtain ⟨s7, a7, n7, c7, rfl, -⟩ := h7.shape
      obtain ⟨W6, e6, m6, m7, b6, -, -⟩ := box2 w6 (.bool s6) (.slice a6 n6 c6) (.bool s7) (.slice a7 n7 c7)
      have R6 := Below.step hb6 b6
      have N6 := m6.v.keep
      have HX := (h6.below b6).keep
      have N2 := (N2.out _ R6).keep
      have N4 := (N4.out _ R6).keep
      have N5 := (N5.out _ R6).keep
      have HG := (HG.out _ R6).keep
      have HB := (HB.out _ R6).keep
      have BB := Lib.hid (Below.step BB.out R6)
      clear hb6 b6 R6 m6 m7 h6 h7 c0 c1 c2 c3
      obtain ⟨c0, c1, -, -⟩ := (N2.out _ (Below.refl _ _)).c2
      obtain ⟨c2, c3, -, -⟩ := (N5.out _ (Below.refl _ _)).c2
      go_wp2_with fail
      clear e6
      refine (rDiv_num (HB.out _ (Below.refl _ _)) (HG.out _ (Below.refl _ _)) HK.out.2.2.2 (by have := HK.out; omega) HD.out.2.2).mono ?_
      rintro e w8 ⟨⟨u8, u9, rfl, h8, h9⟩, hb8⟩
      obtain ⟨s8, a8, n8, c8, rfl, -⟩ := h8.shape
      obtain ⟨s9, a9, n9, c9, rfl, -⟩ := h9.shape
      obtain ⟨W8, e8, m8, m9, b8, -, -⟩ := box2 w8 (.bool s8) (.slice a8 n8 c8) (.bool s9) (.slice a9 n9 c9)
      have R8 := Below.step hb8 b8
      have HY := (h8.below b8).keep
      have HX := (HX.out _ R8).keep
      have BB := Lib.hid (Below.step BB.out R8)
      have nn6 := N6.out _ R8
      have n4 := N4.out _ R8
      have N := Lib.hid n4
      obtain ⟨c4, c5', c6', c7'⟩ := n4.c4
      obtain ⟨f0, f1, f2, f3⟩ := n4.f4
      clear c0 c1 c2 c3
      obtain ⟨c0, c1, -, -⟩ := nn6.c2
      obtain ⟨c2, c3, -, -⟩ := m8
      clear hb8 b8 R8 m9 h8 h9 nn6 n4
      go_wp2_with fail
      clear e8
      obtain ⟨W', e, hst, hbx⟩ := N.out.store (ys := [.bool s6, .slice a6 n6 c6, .bool s8, .slice a8 n8 c8]) rfl rfl
      simp only [setAll] at e
      rw [e]
      exact ret_fr (t := 4) rfl rfl rfl hbx ⟨⟨_, rfl, (FrOk.join (((HX.out _ (Below.refl _ _)).store hst).up (Nat.le_max_left _ _)) (((HY.out _ (Below.refl _ _)).store hst).up (Nat.le_max_right _ _)) HD.out.1 HD.out.2.1)⟩, hst.below w (by omega) BB.out⟩

end Go.Proofs.YtgpoljbccimkjaaGreatDoor
