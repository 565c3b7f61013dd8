/- Walks: with numbers of 32 bits all is as it is with them. -/
import Derived.Test.YtejlhefjphiahaaDoorLaw
import Derived.Test.YtejlhefjphiahaaDoorSteps2
namespace Go.Proofs.YtejlhefjphiahaaDoor
open Go.RowKit Go.Shelf

theorem small_mul {m n : Int} (h1 : -2147483648 ≤ m) (h2 : m ≤ 2147483647) (h3 : -2147483648 ≤ n) (h4 : n ≤ 2147483647) : -4611686018427387904 ≤ m * n ∧ m * n ≤ 4611686018427387904 := by
  have a1 := Int.natAbs_mul m n
  have a2 : m.natAbs * n.natAbs ≤ 2147483648 * 2147483648 := Nat.mul_le_mul (by omega) (by omega)
  generalize m * n = p at *
  generalize m.natAbs * n.natAbs = q at *
  omega

/-- Division, rounded to 0, put right. -/
theorem tdiv_fix {m n : Int} (h0 : n ≠ 0) : n * m.tdiv n + m.tmod n = m ∧ (m.tmod n).natAbs < n.natAbs ∧ (m.tdiv n).natAbs ≤ m.natAbs := by
  refine ⟨Int.mul_tdiv_add_tmod m n, ?_, Int.natAbs_tdiv_le_natAbs m n⟩
  rw [Int.natAbs_tmod]
  exact Nat.mod_lt _ (by omega)
theorem ediv_of_fix {m n q r : Int} (h : n * q + r = m) (h0 : 0 ≤ r) (h1 : r.natAbs < n.natAbs) : m / n = q ∧ m % n = r := by
  have := ediv_of (Z := m) (Z' := n) (q := q) (r := r) (by rw [Int.mul_comm]; exact h.symm) h0 (by omega)
  exact ⟨this.1.symm, this.2.symm⟩

set_option maxRecDepth 100000 in
set_option maxHeartbeats 4000000 in
theorem LimbsSmall_true (w : World) (m : Int) (hm : -2147483648 ≤ m ∧ m ≤ 2147483647) (n : Int) (hn : -2147483648 ≤ n ∧ n ≤ 2147483647) (k : Int) (hk : -9223372036854775808 ≤ k ∧ k ≤ 9223372036854775807) (htab : Tab w) :
    Calls Tryd.prog 8 #[.int .i32 m, .int .i32 n, .int .i64 k] w fun e w' => e = .returned (.bool true) ∧ Below w.heap.size w w' := by
  obtain ⟨hm1, hm2⟩ := hm
  obtain ⟨hn1, hn2⟩ := hn
  have HK := Lib.hid hk
  have T0 : Hid (∀ W, Below w.heap.size w W → Tab W) := fun W hb => htab.below hb
  obtain ⟨P, hP⟩ : ∃ P, m * n = P := ⟨_, rfl⟩
  have hPb := small_mul hm1 hm2 hn1 hn2
  rw [hP] at hPb
  obtain ⟨hP1, hP2⟩ := hPb
  have hPw : IntKind.i64.wrap (m * n) = P := by rw [hP]; exact IntWalk.i64_in _ (by omega)
  have HP := Lib.hid hP
  obtain ⟨r1, hr1⟩ : ∃ r, cmpI m n = r := ⟨_, rfl⟩
  obtain ⟨b1, hb1⟩ : ∃ b, decide (m < n) = b := ⟨_, rfl⟩
  have hrb1 : (r1 == -1) = b1 := by
    rw [← hr1, ← hb1, Bool.eq_iff_iff, beq_iff_eq, decide_eq_true_iff]
    unfold cmpI
    split
    · omega
    · split <;> omega
  obtain ⟨r2, hr2⟩ : ∃ r, cmpI k 0 = r := ⟨_, rfl⟩
  obtain ⟨b2, hb2⟩ : ∃ b, decide (k < 0) = b := ⟨_, rfl⟩
  have hrb2 : decide (r2 < 0) = b2 := by
    rw [← hr2, ← hb2, Bool.eq_iff_iff, decide_eq_true_iff, decide_eq_true_iff]
    unfold cmpI
    split
    · omega
    · split <;> omega
  have HR1 := Lib.hid hr1
  have HR2 := Lib.hid hr2
  clear hk hP hr1 hr2 htab
  go_enter Tryd.func8, Tryd.ntmps8
  go_wp2_with fail
  refine (Of_num m _ (by omega) (by omega)).mono ?_
  rintro e w1 ⟨⟨u1, rfl, h1⟩, hb1'⟩
  obtain ⟨s1, a1, n1, c1, rfl, -⟩ := h1.shape
  obtain ⟨W1, e1, nb1, bw1, -⟩ := box1 w1 (.bool s1) (.slice a1 n1 c1)
  have HA := (h1.below bw1).keep
  have N1 := Lib.hid nb1
  have R1 := Lib.hid (Below.step hb1' bw1)
  clear h1 hb1' nb1 bw1
  go_wp2_with fail
  clear e1
  refine (Of_num n _ (by omega) (by omega)).mono ?_
  rintro e w2 ⟨⟨u2, rfl, h2⟩, hb2'⟩
  obtain ⟨s2, a2, n2, c2, rfl, -⟩ := h2.shape
  obtain ⟨W2, e2, nb2, bw2, -⟩ := box1 w2 (.bool s2) (.slice a2 n2 c2)
  have Q2 := Below.step hb2' bw2
  have HB := (h2.below bw2).keep
  have HA := (HA.out _ Q2).keep
  have N2 := Lib.hid nb2
  have N1 := Lib.hid (N1.out.below Q2)
  have R2 := Lib.hid (Below.step R1.out Q2)
  clear h2 hb2' nb2 bw2 Q2 R1
  go_wp2_with fail
  clear e2
  refine (alive_true _ (T0.out _ R2.out)).mono ?_
  rintro e w3 ⟨rfl, hb3⟩
  have Q := Lib.hid hb3
  obtain ⟨p1, p2, -, -⟩ := N1.out.below Q.out
  obtain ⟨p3, p4, -, -⟩ := N2.out.below Q.out
  clear hb3
  go_wp2_with fail
  refine (Add_num (HA.out _ Q.out).num (HB.out _ Q.out).num (by decide) (by decide)).mono ?_
  rintro e w4 ⟨⟨u4, rfl, h4⟩, hb4⟩
  have U := Lib.hid h4
  have Q := Lib.hid (Below.step Q.out hb4)
  obtain ⟨p1, p2, -, -⟩ := N1.out.below Q.out
  obtain ⟨p3, p4, -, -⟩ := N2.out.below Q.out
  clear h4 hb4
  go_wp2_with fail
  refine (whole_num U.out (by omega) (by omega)).mono ?_
  rintro e w5 ⟨rfl, hb5⟩
  have Q := Lib.hid (Below.step Q.out hb5)
  obtain ⟨p1, p2, -, -⟩ := N1.out.below Q.out
  obtain ⟨p3, p4, -, -⟩ := N2.out.below Q.out
  clear hb5 U
  go_wp2_with fail
  refine (Sub_num (HA.out _ Q.out).num (HB.out _ Q.out).num (by decide) (by decide)).mono ?_
  rintro e w4 ⟨⟨u4, rfl, h4⟩, hb4⟩
  have U := Lib.hid h4
  have Q := Lib.hid (Below.step Q.out hb4)
  obtain ⟨p1, p2, -, -⟩ := N1.out.below Q.out
  obtain ⟨p3, p4, -, -⟩ := N2.out.below Q.out
  clear h4 hb4
  go_wp2_with fail
  refine (whole_num U.out (by omega) (by omega)).mono ?_
  rintro e w5 ⟨rfl, hb5⟩
  have Q := Lib.hid (Below.step Q.out hb5)
  obtain ⟨p1, p2, -, -⟩ := N1.out.below Q.out
  obtain ⟨p3, p4, -, -⟩ := N2.out.below Q.out
  clear hb5 U
  go_wp2_with fail
  refine (Mul_num (HA.out _ Q.out).num (HB.out _ Q.out).num (by decide) (by decide)).mono ?_
  rintro e w4 ⟨⟨u4, rfl, h4⟩, hb4⟩
  rw [HP.out] at h4
  have U := Lib.hid h4
  have Q := Lib.hid (Below.step Q.out hb4)
  obtain ⟨p1, p2, -, -⟩ := N1.out.below Q.out
  obtain ⟨p3, p4, -, -⟩ := N2.out.below Q.out
  clear h4 hb4
  go_wp2_with fail
  refine (whole_num U.out (by omega) (by omega)).mono ?_
  rintro e w5 ⟨rfl, hb5⟩
  have Q := Lib.hid (Below.step Q.out hb5)
  obtain ⟨p1, p2, -, -⟩ := N1.out.below Q.out
  obtain ⟨p3, p4, -, -⟩ := N2.out.below Q.out
  clear hb5 U
  go_wp2_with fail
  refine (Cmp_num (HA.out _ Q.out).num (HB.out _ Q.out).num r1 HR1.out).mono ?_
  rintro e w5 ⟨rfl, hb5⟩
  have Q := Lib.hid (Below.step Q.out hb5)
  clear hb5 p1 p2 p3 p4
  go_wp2_with fail
  refine (Of_num k _ HK.out.1 HK.out.2).mono ?_
  rintro e w4 ⟨⟨u4, rfl, h4⟩, hb4⟩
  have U := Lib.hid h4
  have Q := Lib.hid (Below.step Q.out hb4)
  clear h4 hb4
  go_wp2_with fail
  refine (whole_num U.out HK.out.1 HK.out.2).mono ?_
  rintro e w5 ⟨rfl, hb5⟩
  have Q := Lib.hid (Below.step Q.out hb5)
  clear hb5 U
  go_wp2_with fail
  refine (Of_num k _ HK.out.1 HK.out.2).mono ?_
  rintro e w4 ⟨⟨u4, rfl, h4⟩, hb4⟩
  have U := Lib.hid h4
  have Q := Lib.hid (Below.step Q.out hb4)
  clear h4 hb4
  go_wp2_with fail
  refine (Sign_num U.out.num r2 HR2.out).mono ?_
  rintro e w5 ⟨rfl, hb5⟩
  have Q := Lib.hid (Below.step Q.out hb5)
  clear hb5 U
  by_cases hn0 : n = 0
  · have hz : (n == 0) = true := by rw [beq_iff_eq]; exact hn0
    clear hn0
    go_wp2_with fail
    go_ret
    exact ⟨rfl, Below.step R2.out Q.out⟩
  · have hz : (n == 0) = false := by rw [beq_eq_false_iff_ne]; exact hn0
    obtain ⟨T, hT⟩ : ∃ T, m.tdiv n = T := ⟨_, rfl⟩
    obtain ⟨R, hR⟩ : ∃ R, m.tmod n = R := ⟨_, rfl⟩
    obtain ⟨f1, f2, f3⟩ := tdiv_fix (m := m) hn0
    rw [hT, hR] at f1
    rw [hR] at f2
    rw [hT] at f3
    have t1 : -2147483648 ≤ T ∧ T ≤ 2147483648 := by omega
    have t2 : -2147483648 ≤ R ∧ R ≤ 2147483648 := by omega
    obtain ⟨t11, t12⟩ := t1
    obtain ⟨t21, t22⟩ := t2
    have F1 := Lib.hid f1
    have F2 := Lib.hid f2
    have N0 := Lib.hid hn0
    clear f1 f2 f3 hn0
    by_cases hr : 0 ≤ R
    · go_wp2_with fail
      refine (divs_true m n T R _ hm1 hm2 hn1 hn2 N0.out (ediv_of_fix F1.out hr F2.out).1 (ediv_of_fix F1.out hr F2.out).2 (by omega) (by omega)).mono ?_
      rintro e w6 ⟨rfl, hb6⟩
      have Q := Lib.hid (Below.step Q.out hb6)
      clear hb6
      go_wp2_with fail
      go_ret
      exact ⟨rfl, Below.step R2.out Q.out⟩
    · by_cases hn : 0 < n
      · have hx : 0 ≤ R + n := by have := F2.out; omega
        have f4 : n * (T - 1) + (R + n) = m := by have := F1.out; rw [Int.mul_sub]; omega
        have F4 := Lib.hid f4
        clear f4
        have hr' : R ≤ -1 := by omega
        clear hr
        go_wp2_with fail
        refine (divs_true m n (T - 1) (R + n) _ hm1 hm2 hn1 hn2 N0.out (ediv_of_fix F4.out hx (by omega)).1 (ediv_of_fix F4.out hx (by omega)).2 (by omega) (by omega)).mono ?_
        rintro e w6 ⟨rfl, hb6⟩
        have Q := Lib.hid (Below.step Q.out hb6)
        clear hb6
        go_wp2_with fail
        go_ret
        exact ⟨rfl, Below.step R2.out Q.out⟩
      · have hx : 0 ≤ R - n := by have := F2.out; omega
        have f4 : n * (T + 1) + (R - n) = m := by have := F1.out; rw [Int.mul_add]; omega
        have F4 := Lib.hid f4
        have hn' : n ≤ -1 := by have := N0.out; omega
        clear f4 hn
        have hr' : R ≤ -1 := by omega
        clear hr
        go_wp2_with fail
        refine (divs_true m n (T + 1) (R - n) _ hm1 hm2 hn1 hn2 N0.out (ediv_of_fix F4.out hx (by omega)).1 (ediv_of_fix F4.out hx (by omega)).2 (by omega) (by omega)).mono ?_
        rintro e w6 ⟨rfl, hb6⟩
        have Q := Lib.hid (Below.step Q.out hb6)
        clear hb6
        go_wp2_with fail
        go_ret
        exact ⟨rfl, Below.step R2.out Q.out⟩

end Go.Proofs.YtejlhefjphiahaaDoor
