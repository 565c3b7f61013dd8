/- FracsRead: for every input the law answers true and leaves what it was handed as it was; the library's tables are as the program lays them. -/
import Derived.Test.YtgpoljbccimkjaaGreatDoorFGreat
import Derived.Test.YtgpoljbccimkjaaGreatDoorFReadMath
import Derived.Test.YtgpoljbccimkjaaGreatDoorFRow
namespace Go.Proofs.YtgpoljbccimkjaaGreatDoor
set_option linter.unusedSimpArgs false
set_option linter.unusedVariables false
open Go.RowKit Go.Shelf

theorem FrOk.raw {w : World} {s s' : Bool} {v v' : Value} {l l' : List Nat} {q : Rat} (h : Lim w v l) (h' : Lim w v' l') (ho : okF s l s' l' = true) (hq : ratZ s l s' l' = q) : FrOk w (.agg #[.bool s, v, .bool s', v']) (max l.length l'.length) q := by
  obtain ⟨g1, g2, g3, g4⟩ := okF_spec ho
  rw [hq] at g3 g4
  exact ⟨s, v, l, s', v', l', rfl, h, h', g1, g2, g3, g4, Nat.le_max_left _ _, Nat.le_max_right _ _⟩
theorem fracE_cases {l : List UInt8} (h : fracE l ≠ 0) : fracE l = 4 ∨ fracE l = 3 := by
  unfold fracE at *
  split
  · exact .inl rfl
  · split
    · next h1 h2 => rw [if_neg h1, if_pos h2] at h; exact absurd rfl h
    · exact .inr rfl

set_option maxRecDepth 100000 in
set_option maxHeartbeats 8000000 in
theorem FracsRead_true (w : World) (s1 s1' : Bool) (v1 v1' : Value) (l1 l1' : List Nat) (h1 : Lim w v1 l1) (h1' : Lim w v1' l1') (st : List UInt8) (hst : st.length ≤ 9223372036854775807) (htab : Tab w) :
    Calls Tryz.prog 12 #[.agg #[.bool s1, v1, .bool s1', v1'], .string ⟨⟨st⟩⟩] w fun e w' => e = .returned (.bool true) ∧ Below w.heap.size w w' := by
  have g1 := h1
  have g1' := h1'
  obtain ⟨a1, c1, rfl, -⟩ := h1
  obtain ⟨a1', c1', rfl, -⟩ := h1'
  have HMX : Hid (l1.length ≤ 9223372036854775807 ∧ l1'.length ≤ 9223372036854775807) := ⟨g1.max, g1'.max⟩
  obtain ⟨W0, e0, n1, hb0⟩ := name_fr w (.bool s1) (.slice a1 l1.length c1) (.bool s1') (.slice a1' l1'.length c1')
  have T0 : Hid (∀ W, Below w.heap.size w W → Tab W) := fun W hb => htab.below hb
  have G1 := Lib.hid (g1.below hb0)
  have G1' := Lib.hid (g1'.below hb0)
  have N1 := n1.keep
  have B0 := Lib.hid hb0
  clear g1 g1' n1 hb0 htab
  by_cases hlong : 2000 < st.length
  · have hD : decide ((2000 : Int) < ((st.length : Nat) : Int)) = true := decide_eq_true (by omega)
    clear hlong
    go_enter Tryz.func12, Tryz.ntmps12
    go_wp2_with fail
    clear e0
    refine (aliveF_true _ (T0.out _ B0.out)).mono ?_
    rintro e w1 ⟨rfl, hb1⟩
    have R1 := Lib.hid (Below.step B0.out hb1)
    obtain ⟨p0, p1, p2, p3⟩ := (N1.out _ hb1).c4
    clear hb1
    go_wp2_with fail
    refine (greatF1 (most := 25) (n1 := l1.length) (n2 := l1'.length) (p1 := a1) (p2 := a1') (c1 := c1) (c2 := c1') rfl (by decide) HMX.out.1 HMX.out.2 (by go_simp) (by go_simp) rfl).mono ?_
    rintro e w2 ⟨rfl, rfl⟩
    have R3 := Lib.hid (Below.step R1.out (W' := w1.alloc (.cells #[.bool s1, .slice a1 l1.length c1, .bool s1', .slice a1' l1'.length c1'] 58)) (by repeat (first | exact Below.refl _ _ | with_reducible refine Below.drew ?_ | with_reducible refine below_drewN ?_ _ | with_reducible refine Below.setCell ?_ (by first | (simp; done) | (simp; omega) | omega) _ | with_reducible refine Below.alloc ?_ (by first | (simp; done) | (simp; omega) | omega) _)))
    by_cases hbig : 25 < l1.length ∨ 25 < l1'.length
    · rw [decide_eq_true hbig]
      clear hbig
      go_wp2_with fail
      refine (aliveF_true _ (T0.out _ R3.out)).mono ?_
      rintro e w9 ⟨rfl, hb9⟩
      have B9 := Lib.hid (Below.step R3.out hb9)
      clear hb9
      go_wp2_with fail
      go_ret
      exact ⟨rfl, B9.out⟩
    · rw [decide_eq_false hbig]
      clear hbig
      go_wp2_with fail
      refine (aliveF_true _ (T0.out _ R3.out)).mono ?_
      rintro e w9 ⟨rfl, hb9⟩
      have B9 := Lib.hid (Below.step R3.out hb9)
      clear hb9
      go_wp2_with fail
      go_ret
      exact ⟨rfl, B9.out⟩
  · have HST : Hid (st.length ≤ 2000) := by
      have h : st.length ≤ 2000 := by omega
      exact Lib.hid h
    have hD : decide ((2000 : Int) < ((st.length : Nat) : Int)) = false := decide_eq_false (by omega)
    clear hlong
    go_enter Tryz.func12, Tryz.ntmps12
    go_wp2_with fail
    clear e0
    refine (aliveF_true _ (T0.out _ B0.out)).mono ?_
    rintro e w1 ⟨rfl, hb1⟩
    have R1 := Lib.hid (Below.step B0.out hb1)
    have G1 := Lib.hid (G1.out.below hb1)
    have G1' := Lib.hid (G1'.out.below hb1)
    have N1 := (N1.out _ hb1).keep
    obtain ⟨p0, p1, p2, p3⟩ := (N1.out _ (Below.refl _ _)).c4
    clear hb1
    go_wp2_with fail
    by_cases hbig : 25 < l1.length ∨ 25 < l1'.length
    · refine (greatF1 (most := 25) (n1 := l1.length) (n2 := l1'.length) (p1 := a1) (p2 := a1') (c1 := c1) (c2 := c1') (r := true) rfl (by decide) HMX.out.1 HMX.out.2 (by go_simp) (by go_simp) (decide_eq_true hbig)).mono ?_
      rintro e w2 ⟨rfl, rfl⟩
      have R3 := Lib.hid (Below.step R1.out (W' := w1.alloc (.cells #[.bool s1, .slice a1 l1.length c1, .bool s1', .slice a1' l1'.length c1'] 58)) (by repeat (first | exact Below.refl _ _ | with_reducible refine Below.drew ?_ | with_reducible refine below_drewN ?_ _ | with_reducible refine Below.setCell ?_ (by first | (simp; done) | (simp; omega) | omega) _ | with_reducible refine Below.alloc ?_ (by first | (simp; done) | (simp; omega) | omega) _)))
      clear hbig
      go_wp2_with fail
      refine (aliveF_true _ (T0.out _ R3.out)).mono ?_
      rintro e w9 ⟨rfl, hb9⟩
      have B9 := Lib.hid (Below.step R3.out hb9)
      clear hb9
      go_wp2_with fail
      go_ret
      exact ⟨rfl, B9.out⟩
    · refine (greatF1 (most := 25) (n1 := l1.length) (n2 := l1'.length) (p1 := a1) (p2 := a1') (c1 := c1) (c2 := c1') (r := false) rfl (by decide) HMX.out.1 HMX.out.2 (by go_simp) (by go_simp) (decide_eq_false hbig)).mono ?_
      rintro e w2 ⟨rfl, rfl⟩
      obtain ⟨W2, e2, -, b2⟩ := name_fr w1 (.bool s1) (.slice a1 l1.length c1) (.bool s1') (.slice a1' l1'.length c1')
      rw [e2]
      have RW := Lib.hid (Below.step R1.out b2)
      have N1 := (N1.out _ b2).keep
      have G1 := Lib.hid (G1.out.below b2)
      have G1' := Lib.hid (G1'.out.below b2)
      obtain ⟨Q, hQ⟩ : ∃ Q, ratZ s1 l1 s1' l1' = Q := ⟨_, rfl⟩
      have ha := FrAt.of (s := s1) (s' := s1') (k := 25) G1.out G1'.out (by omega) (by omega)
      rw [hQ] at ha
      have HA := ha.keep
      have HRZ := Lib.hid hQ
      have HL : Hid (l1.length ≤ 1000000 ∧ l1'.length ≤ 1000000) := ⟨by omega, by omega⟩
      have hbd : RatLt Q 25 := by
        cases ho : okF s1 l1 s1' l1' with
        | true => exact ((FrOk.raw G1.out G1'.out ho hQ).up (k' := 25) (by omega)).bound
        | false => rw [← hQ, ratZ_not ho]; exact RatLt.zero (by decide)
      have hlen : (txtR Q).length ≤ 90000 := by
        have b1 := decI_len hbd.1
        have b2 := decI_len (Z := (Q.den : Int)) (k := 25) (by rw [Int.natAbs_natCast]; exact hbd.2)
        unfold txtR
        split
        · omega
        · simp only [List.length_append, List.length_cons, List.length_nil]
          omega
      have HLEN := Lib.hid hlen
      obtain ⟨q0, q1, q2, q3⟩ := (N1.out _ (Below.refl _ _)).c4
      clear hbig e2 b2 ha hQ hbd hlen p0 p1 p2 p3 hst
      go_wp2_with fail
      refine (TextF_at (HA.out _ (Below.refl _ _)) (by decide) (by decide) (T0.out _ RW.out)).mono ?_
      rintro e w2 ⟨rfl, hb2⟩
      clear q0 q1 q2 q3
      cases hok : okF s1 l1 s1' l1'
      · have hq0 : Q = 0 := by rw [← HRZ.out]; exact ratZ_not hok
        have HQ := Lib.hid hq0
        have HOK := Lib.hid hok
        clear hok hq0
        have N1 := (N1.out _ hb2).keep
        have G1 := (G1.out.below hb2)
        have G1' := (G1'.out.below hb2)
        have G1 := Lib.hid G1
        have G1' := Lib.hid G1'
        have RW := Lib.hid (Below.step RW.out hb2)
        clear hb2
        rw [HQ.out, txtR_zero]
        go_wp2_with fail
        refine (ParseF_any [48] _ (by decide)).mono ?_
        intro e w3 hp
        obtain ⟨⟨u3, rfl, h3⟩, hb3⟩ := hp.get_good (by decide +kernel)
        obtain ⟨z1, y1, i1, j1, z2, y2, i2, j2, rfl, -⟩ := h3.split
        obtain ⟨W3, e3, m3, b3⟩ := name_fr w3 (.bool z1) (.slice y1 i1 j1) (.bool z2) (.slice y2 i2 j2)
        have R3 := Below.step hb3 b3
        have N1 := (N1.out _ R3).keep
        have M3 := m3.keep
        have G1 := Lib.hid (G1.out.below R3)
        have G1' := Lib.hid (G1'.out.below R3)
        have RW := Lib.hid (Below.step RW.out R3)
        obtain ⟨p0, p1, p2, p3⟩ := (N1.out _ (Below.refl _ _)).c4
        clear hp hb3 m3 b3 R3 h3
        go_wp2_with fail
        clear e3
        refine (CheckF_any s1 s1' _ _ l1 l1' _ G1.out G1'.out HL.out.1 HL.out.2).mono ?_
        rintro e w4 ⟨rfl, hb4⟩
        rw [HOK.out]
        have N1 := (N1.out _ hb4).keep
        have M3 := (M3.out _ hb4).keep
        have G1 := Lib.hid (G1.out.below hb4)
        have G1' := Lib.hid (G1'.out.below hb4)
        have RW := Lib.hid (Below.step RW.out hb4)
        clear hb4 p0 p1 p2 p3
        obtain ⟨p0, p1, p2, p3⟩ := (N1.out _ (Below.refl _ _)).c4
        go_wp2_with fail
        refine (CheckF_any s1 s1' _ _ l1 l1' _ G1.out G1'.out HL.out.1 HL.out.2).mono ?_
        rintro e w4 ⟨rfl, hb4⟩
        rw [HOK.out]
        have N1 := (N1.out _ hb4).keep
        have M3 := (M3.out _ hb4).keep
        have G1 := Lib.hid (G1.out.below hb4)
        have G1' := Lib.hid (G1'.out.below hb4)
        have RW := Lib.hid (Below.step RW.out hb4)
        clear hb4 p0 p1 p2 p3
        go_wp2_with fail
        refine (ParseF_any st _ (Nat.le_trans HST.out (by decide))).mono ?_
        intro e w5 hp
        by_cases hE : fracE st = 0
        · obtain ⟨⟨u5, rfl, h5⟩, hb5⟩ := hp.get_good hE
          have HR := Lib.hid (read_again hE)
          obtain ⟨q5, hq5⟩ : ∃ q, fracQ st = q := ⟨_, rfl⟩
          rw [hq5] at h5 HR
          have HLE : Hid (decide ((((txtR q5).length : Nat) : Int) ≤ ((st.length : Nat) : Int)) = true) := decide_eq_true (by have := HR.out.2.2; omega)
          have HLE2 : Hid ((txtR q5).length ≤ st.length) := HR.out.2.2
          have HL5 : Hid ((txtR q5).length ≤ 90000) := Nat.le_trans HR.out.2.2 (Nat.le_trans HST.out (by decide))
          clear hE hp hq5
          obtain ⟨z1, y1, i1, j1, z2, y2, i2, j2, rfl, -⟩ := h5.split
          obtain ⟨W5, e5, m5, b5⟩ := name_fr w5 (.bool z1) (.slice y1 i1 j1) (.bool z2) (.slice y2 i2 j2)
          have R5 := Below.step hb5 b5
          have H5 := (h5.below b5).keep
          have M5 := m5.keep
          have RW := Lib.hid (Below.step RW.out R5)
          obtain ⟨p0, p1, p2, p3⟩ := m5.c4
          clear hb5 h5 m5 b5 R5
          go_wp2_with fail
          clear e5
          refine (TextF_at (H5.out _ (Below.refl _ _)).at (by decide) (by decide) (T0.out _ RW.out)).mono ?_
          rintro e w6 ⟨rfl, hb6⟩
          have H5 := (H5.out _ hb6).keep
          have M5 := (M5.out _ hb6).keep
          have RW := Lib.hid (Below.step RW.out hb6)
          clear hb6 p0 p1 p2 p3
          go_wp2_with fail
          refine (ParseF_any (txtR q5) _ HL5.out).mono ?_
          intro e w7 hp
          obtain ⟨⟨u7, rfl, h7⟩, hb7⟩ := hp.get_good HR.out.1
          rw [HR.out.2.1] at h7
          obtain ⟨x1, v1', k1, r1, x2, v2', k2, r2, rfl, -⟩ := h7.split
          obtain ⟨W7, e7, m7, b7⟩ := name_fr w7 (.bool x1) (.slice v1' k1 r1) (.bool x2) (.slice v2' k2 r2)
          have R7 := Below.step hb7 b7
          have H7 := (h7.below b7).keep
          have M7 := m7.keep
          have H5 := (H5.out _ R7).keep
          have M5 := (M5.out _ R7).keep
          have RW := Lib.hid (Below.step RW.out R7)
          obtain ⟨p0, p1, p2, p3⟩ := (M5.out _ (Below.refl _ _)).c4
          clear hp hb7 h7 m7 b7 R7
          go_wp2_with fail
          clear e7
          refine (CheckF_ok (H5.out _ (Below.refl _ _)) (by decide)).mono ?_
          rintro e w8 ⟨rfl, hb8⟩
          have H5 := (H5.out _ hb8).keep
          have H7 := (H7.out _ hb8).keep
          have M7 := (M7.out _ hb8).keep
          have RW := Lib.hid (Below.step RW.out hb8)
          obtain ⟨p0', p1', p2', p3'⟩ := (M5.out _ hb8).c4
          obtain ⟨p4, p5, p6, p7⟩ := (M7.out _ (Below.refl _ _)).c4
          clear hb8 p0 p1 p2 p3
          go_wp2_with fail
          refine (same_ok (H5.out _ (Below.refl _ _)) (H7.out _ (Below.refl _ _)) true (decide_eq_true rfl)).mono ?_
          rintro e w9 ⟨rfl, hb9⟩
          have H7 := (H7.out _ hb9).keep
          have RW := Lib.hid (Below.step RW.out hb9)
          obtain ⟨p0, p1, p2, p3⟩ := (M7.out _ hb9).c4
          clear hb9 p4 p5 p6 p7 p0' p1' p2' p3'
          go_wp2_with fail
          refine (TextF_at (H7.out _ (Below.refl _ _)).at (by decide) (by decide) (T0.out _ RW.out)).mono ?_
          rintro e w10 ⟨rfl, hb10⟩
          have hle := HLE.out
          have hle2 := HLE2.out
          have heq : (txtR q5 == txtR q5) = true := by simp
          go_wp2_with fail
          go_ret
          exact ⟨rfl, Below.step RW.out hb10⟩
        · obtain ⟨n5, hn5, hn5'⟩ : ∃ n, fracE st = n ∧ n ≠ 0 := ⟨_, rfl, hE⟩
          obtain ⟨rfl, hb5⟩ := hp.get_bad hn5 hn5'
          have h34 : n5 = 4 ∨ n5 = 3 := by
            rw [← hn5]
            rw [← hn5] at hn5'
            exact fracE_cases hn5'
          unfold frNone
          obtain ⟨W5, e5, m5, b5⟩ := name_fr w5 (.bool false) (.slice none 0 0) (.bool false) (.slice none 0 0)
          have E5 := Lib.hid e5
          have R5 := Below.step hb5 b5
          have RW := Lib.hid (Below.step RW.out R5)
          clear hE hp hn5 hn5' hb5 b5 R5 e5 m5
          rcases h34 with rfl | rfl
          · go_wp2_with fail
            go_ret
            exact ⟨rfl, by rw [E5.out]; exact RW.out⟩
          · go_wp2_with fail
            go_ret
            exact ⟨rfl, by rw [E5.out]; exact RW.out⟩
      · have HOK := Lib.hid hok
        clear hok
        by_cases h200 : (txtR Q).length ≤ 200
        · have HE := Lib.hid (txtR_short h200)
          have hD2 : decide ((((txtR Q).length : Nat) : Int) ≤ 200) = true := decide_eq_true (by omega)
          clear h200
          have N1 := (N1.out _ hb2).keep
          have G1 := (G1.out.below hb2)
          have G1' := (G1'.out.below hb2)
          have G1 := Lib.hid G1
          have G1' := Lib.hid G1'
          have RW := Lib.hid (Below.step RW.out hb2)
          clear hb2
          go_wp2_with fail
          refine (ParseF_any (txtR Q) _ HLEN.out).mono ?_
          intro e w3 hp
          obtain ⟨⟨u3, rfl, h3⟩, hb3⟩ := hp.get_good HE.out.1
          rw [HE.out.2] at h3
          obtain ⟨z1, y1, i1, j1, z2, y2, i2, j2, rfl, -⟩ := h3.split
          obtain ⟨W3, e3, m3, b3⟩ := name_fr w3 (.bool z1) (.slice y1 i1 j1) (.bool z2) (.slice y2 i2 j2)
          have R3 := Below.step hb3 b3
          have N1 := (N1.out _ R3).keep
          have M3 := m3.keep
          have G1 := Lib.hid (G1.out.below R3)
          have G1' := Lib.hid (G1'.out.below R3)
          have RW := Lib.hid (Below.step RW.out R3)
          have H3 := (h3.below b3).keep
          obtain ⟨p0, p1, p2, p3⟩ := (N1.out _ (Below.refl _ _)).c4
          clear hp hb3 m3 b3 R3 h3
          go_wp2_with fail
          clear e3
          refine (CheckF_any s1 s1' _ _ l1 l1' _ G1.out G1'.out HL.out.1 HL.out.2).mono ?_
          rintro e w4 ⟨rfl, hb4⟩
          rw [HOK.out]
          have N1 := (N1.out _ hb4).keep
          have M3 := (M3.out _ hb4).keep
          have G1 := Lib.hid (G1.out.below hb4)
          have G1' := Lib.hid (G1'.out.below hb4)
          have RW := Lib.hid (Below.step RW.out hb4)
          have H3 := (H3.out _ hb4).keep
          clear hb4 p0 p1 p2 p3
          obtain ⟨p0, p1, p2, p3⟩ := (N1.out _ (Below.refl _ _)).c4
          go_wp2_with fail
          refine (CheckF_any s1 s1' _ _ l1 l1' _ G1.out G1'.out HL.out.1 HL.out.2).mono ?_
          rintro e w4 ⟨rfl, hb4⟩
          rw [HOK.out]
          have N1 := (N1.out _ hb4).keep
          have M3 := (M3.out _ hb4).keep
          have G1 := Lib.hid (G1.out.below hb4)
          have G1' := Lib.hid (G1'.out.below hb4)
          have RW := Lib.hid (Below.step RW.out hb4)
          have H3 := (H3.out _ hb4).keep
          clear hb4 p0 p1 p2 p3
          obtain ⟨p0, p1, p2, p3⟩ := (N1.out _ (Below.refl _ _)).c4
          obtain ⟨p4, p5, p6, p7⟩ := (M3.out _ (Below.refl _ _)).c4
          go_wp2_with fail
          refine (same_ok (H3.out _ (Below.refl _ _)) (FrOk.raw G1.out G1'.out HOK.out HRZ.out) true (decide_eq_true rfl)).mono ?_
          rintro e w4 ⟨rfl, hb4⟩
          have RW := Lib.hid (Below.step RW.out hb4)
          clear hb4 p0 p1 p2 p3 p4 p5 p6 p7
          go_wp2_with fail
          refine (ParseF_any st _ (Nat.le_trans HST.out (by decide))).mono ?_
          intro e w5 hp
          by_cases hE : fracE st = 0
          · obtain ⟨⟨u5, rfl, h5⟩, hb5⟩ := hp.get_good hE
            have HR := Lib.hid (read_again hE)
            obtain ⟨q5, hq5⟩ : ∃ q, fracQ st = q := ⟨_, rfl⟩
            rw [hq5] at h5 HR
            have HLE : Hid (decide ((((txtR q5).length : Nat) : Int) ≤ ((st.length : Nat) : Int)) = true) := decide_eq_true (by have := HR.out.2.2; omega)
            have HLE2 : Hid ((txtR q5).length ≤ st.length) := HR.out.2.2
            have HL5 : Hid ((txtR q5).length ≤ 90000) := Nat.le_trans HR.out.2.2 (Nat.le_trans HST.out (by decide))
            clear hE hp hq5
            obtain ⟨z1, y1, i1, j1, z2, y2, i2, j2, rfl, -⟩ := h5.split
            obtain ⟨W5, e5, m5, b5⟩ := name_fr w5 (.bool z1) (.slice y1 i1 j1) (.bool z2) (.slice y2 i2 j2)
            have R5 := Below.step hb5 b5
            have H5 := (h5.below b5).keep
            have M5 := m5.keep
            have RW := Lib.hid (Below.step RW.out R5)
            obtain ⟨p0, p1, p2, p3⟩ := m5.c4
            clear hb5 h5 m5 b5 R5
            go_wp2_with fail
            clear e5
            refine (TextF_at (H5.out _ (Below.refl _ _)).at (by decide) (by decide) (T0.out _ RW.out)).mono ?_
            rintro e w6 ⟨rfl, hb6⟩
            have H5 := (H5.out _ hb6).keep
            have M5 := (M5.out _ hb6).keep
            have RW := Lib.hid (Below.step RW.out hb6)
            clear hb6 p0 p1 p2 p3
            go_wp2_with fail
            refine (ParseF_any (txtR q5) _ HL5.out).mono ?_
            intro e w7 hp
            obtain ⟨⟨u7, rfl, h7⟩, hb7⟩ := hp.get_good HR.out.1
            rw [HR.out.2.1] at h7
            obtain ⟨x1, v1', k1, r1, x2, v2', k2, r2, rfl, -⟩ := h7.split
            obtain ⟨W7, e7, m7, b7⟩ := name_fr w7 (.bool x1) (.slice v1' k1 r1) (.bool x2) (.slice v2' k2 r2)
            have R7 := Below.step hb7 b7
            have H7 := (h7.below b7).keep
            have M7 := m7.keep
            have H5 := (H5.out _ R7).keep
            have M5 := (M5.out _ R7).keep
            have RW := Lib.hid (Below.step RW.out R7)
            obtain ⟨p0, p1, p2, p3⟩ := (M5.out _ (Below.refl _ _)).c4
            clear hp hb7 h7 m7 b7 R7
            go_wp2_with fail
            clear e7
            refine (CheckF_ok (H5.out _ (Below.refl _ _)) (by decide)).mono ?_
            rintro e w8 ⟨rfl, hb8⟩
            have H5 := (H5.out _ hb8).keep
            have H7 := (H7.out _ hb8).keep
            have M7 := (M7.out _ hb8).keep
            have RW := Lib.hid (Below.step RW.out hb8)
            obtain ⟨p0', p1', p2', p3'⟩ := (M5.out _ hb8).c4
            obtain ⟨p4, p5, p6, p7⟩ := (M7.out _ (Below.refl _ _)).c4
            clear hb8 p0 p1 p2 p3
            go_wp2_with fail
            refine (same_ok (H5.out _ (Below.refl _ _)) (H7.out _ (Below.refl _ _)) true (decide_eq_true rfl)).mono ?_
            rintro e w9 ⟨rfl, hb9⟩
            have H7 := (H7.out _ hb9).keep
            have RW := Lib.hid (Below.step RW.out hb9)
            obtain ⟨p0, p1, p2, p3⟩ := (M7.out _ hb9).c4
            clear hb9 p4 p5 p6 p7 p0' p1' p2' p3'
            go_wp2_with fail
            refine (TextF_at (H7.out _ (Below.refl _ _)).at (by decide) (by decide) (T0.out _ RW.out)).mono ?_
            rintro e w10 ⟨rfl, hb10⟩
            have hle := HLE.out
            have hle2 := HLE2.out
            have heq : (txtR q5 == txtR q5) = true := by simp
            go_wp2_with fail
            go_ret
            exact ⟨rfl, Below.step RW.out hb10⟩
          · obtain ⟨n5, hn5, hn5'⟩ : ∃ n, fracE st = n ∧ n ≠ 0 := ⟨_, rfl, hE⟩
            obtain ⟨rfl, hb5⟩ := hp.get_bad hn5 hn5'
            have h34 : n5 = 4 ∨ n5 = 3 := by
              rw [← hn5]
              rw [← hn5] at hn5'
              exact fracE_cases hn5'
            unfold frNone
            obtain ⟨W5, e5, m5, b5⟩ := name_fr w5 (.bool false) (.slice none 0 0) (.bool false) (.slice none 0 0)
            have E5 := Lib.hid e5
            have R5 := Below.step hb5 b5
            have RW := Lib.hid (Below.step RW.out R5)
            clear hE hp hn5 hn5' hb5 b5 R5 e5 m5
            rcases h34 with rfl | rfl
            · go_wp2_with fail
              go_ret
              exact ⟨rfl, by rw [E5.out]; exact RW.out⟩
            · go_wp2_with fail
              go_ret
              exact ⟨rfl, by rw [E5.out]; exact RW.out⟩
        · have hD2 : decide ((((txtR Q).length : Nat) : Int) ≤ 200) = false := decide_eq_false (by omega)
          clear h200
          by_cases hE0 : fracE (txtR Q) = 0
          · have HE := Lib.hid hE0
            clear hE0
            have N1 := (N1.out _ hb2).keep
            have G1 := (G1.out.below hb2)
            have G1' := (G1'.out.below hb2)
            have G1 := Lib.hid G1
            have G1' := Lib.hid G1'
            have RW := Lib.hid (Below.step RW.out hb2)
            clear hb2
            go_wp2_with fail
            refine (ParseF_any (txtR Q) _ HLEN.out).mono ?_
            intro e w3 hp
            obtain ⟨⟨u3, rfl, h3⟩, hb3⟩ := hp.get_good HE.out
            obtain ⟨z1, y1, i1, j1, z2, y2, i2, j2, rfl, -⟩ := h3.split
            obtain ⟨W3, e3, m3, b3⟩ := name_fr w3 (.bool z1) (.slice y1 i1 j1) (.bool z2) (.slice y2 i2 j2)
            have R3 := Below.step hb3 b3
            have N1 := (N1.out _ R3).keep
            have M3 := m3.keep
            have G1 := Lib.hid (G1.out.below R3)
            have G1' := Lib.hid (G1'.out.below R3)
            have RW := Lib.hid (Below.step RW.out R3)
            obtain ⟨p0, p1, p2, p3⟩ := (N1.out _ (Below.refl _ _)).c4
            clear hp hb3 m3 b3 R3 h3
            go_wp2_with fail
            clear e3
            refine (CheckF_any s1 s1' _ _ l1 l1' _ G1.out G1'.out HL.out.1 HL.out.2).mono ?_
            rintro e w4 ⟨rfl, hb4⟩
            rw [HOK.out]
            have N1 := (N1.out _ hb4).keep
            have M3 := (M3.out _ hb4).keep
            have G1 := Lib.hid (G1.out.below hb4)
            have G1' := Lib.hid (G1'.out.below hb4)
            have RW := Lib.hid (Below.step RW.out hb4)
            clear hb4 p0 p1 p2 p3
            obtain ⟨p0, p1, p2, p3⟩ := (N1.out _ (Below.refl _ _)).c4
            go_wp2_with fail
            refine (CheckF_any s1 s1' _ _ l1 l1' _ G1.out G1'.out HL.out.1 HL.out.2).mono ?_
            rintro e w4 ⟨rfl, hb4⟩
            rw [HOK.out]
            have N1 := (N1.out _ hb4).keep
            have M3 := (M3.out _ hb4).keep
            have G1 := Lib.hid (G1.out.below hb4)
            have G1' := Lib.hid (G1'.out.below hb4)
            have RW := Lib.hid (Below.step RW.out hb4)
            clear hb4 p0 p1 p2 p3
            go_wp2_with fail
            refine (ParseF_any st _ (Nat.le_trans HST.out (by decide))).mono ?_
            intro e w5 hp
            by_cases hE : fracE st = 0
            · obtain ⟨⟨u5, rfl, h5⟩, hb5⟩ := hp.get_good hE
              have HR := Lib.hid (read_again hE)
              obtain ⟨q5, hq5⟩ : ∃ q, fracQ st = q := ⟨_, rfl⟩
              rw [hq5] at h5 HR
              have HLE : Hid (decide ((((txtR q5).length : Nat) : Int) ≤ ((st.length : Nat) : Int)) = true) := decide_eq_true (by have := HR.out.2.2; omega)
              have HLE2 : Hid ((txtR q5).length ≤ st.length) := HR.out.2.2
              have HL5 : Hid ((txtR q5).length ≤ 90000) := Nat.le_trans HR.out.2.2 (Nat.le_trans HST.out (by decide))
              clear hE hp hq5
              obtain ⟨z1, y1, i1, j1, z2, y2, i2, j2, rfl, -⟩ := h5.split
              obtain ⟨W5, e5, m5, b5⟩ := name_fr w5 (.bool z1) (.slice y1 i1 j1) (.bool z2) (.slice y2 i2 j2)
              have R5 := Below.step hb5 b5
              have H5 := (h5.below b5).keep
              have M5 := m5.keep
              have RW := Lib.hid (Below.step RW.out R5)
              obtain ⟨p0, p1, p2, p3⟩ := m5.c4
              clear hb5 h5 m5 b5 R5
              go_wp2_with fail
              clear e5
              refine (TextF_at (H5.out _ (Below.refl _ _)).at (by decide) (by decide) (T0.out _ RW.out)).mono ?_
              rintro e w6 ⟨rfl, hb6⟩
              have H5 := (H5.out _ hb6).keep
              have M5 := (M5.out _ hb6).keep
              have RW := Lib.hid (Below.step RW.out hb6)
              clear hb6 p0 p1 p2 p3
              go_wp2_with fail
              refine (ParseF_any (txtR q5) _ HL5.out).mono ?_
              intro e w7 hp
              obtain ⟨⟨u7, rfl, h7⟩, hb7⟩ := hp.get_good HR.out.1
              rw [HR.out.2.1] at h7
              obtain ⟨x1, v1', k1, r1, x2, v2', k2, r2, rfl, -⟩ := h7.split
              obtain ⟨W7, e7, m7, b7⟩ := name_fr w7 (.bool x1) (.slice v1' k1 r1) (.bool x2) (.slice v2' k2 r2)
              have R7 := Below.step hb7 b7
              have H7 := (h7.below b7).keep
              have M7 := m7.keep
              have H5 := (H5.out _ R7).keep
              have M5 := (M5.out _ R7).keep
              have RW := Lib.hid (Below.step RW.out R7)
              obtain ⟨p0, p1, p2, p3⟩ := (M5.out _ (Below.refl _ _)).c4
              clear hp hb7 h7 m7 b7 R7
              go_wp2_with fail
              clear e7
              refine (CheckF_ok (H5.out _ (Below.refl _ _)) (by decide)).mono ?_
              rintro e w8 ⟨rfl, hb8⟩
              have H5 := (H5.out _ hb8).keep
              have H7 := (H7.out _ hb8).keep
              have M7 := (M7.out _ hb8).keep
              have RW := Lib.hid (Below.step RW.out hb8)
              obtain ⟨p0', p1', p2', p3'⟩ := (M5.out _ hb8).c4
              obtain ⟨p4, p5, p6, p7⟩ := (M7.out _ (Below.refl _ _)).c4
              clear hb8 p0 p1 p2 p3
              go_wp2_with fail
              refine (same_ok (H5.out _ (Below.refl _ _)) (H7.out _ (Below.refl _ _)) true (decide_eq_true rfl)).mono ?_
              rintro e w9 ⟨rfl, hb9⟩
              have H7 := (H7.out _ hb9).keep
              have RW := Lib.hid (Below.step RW.out hb9)
              obtain ⟨p0, p1, p2, p3⟩ := (M7.out _ hb9).c4
              clear hb9 p4 p5 p6 p7 p0' p1' p2' p3'
              go_wp2_with fail
              refine (TextF_at (H7.out _ (Below.refl _ _)).at (by decide) (by decide) (T0.out _ RW.out)).mono ?_
              rintro e w10 ⟨rfl, hb10⟩
              have hle := HLE.out
              have hle2 := HLE2.out
              have heq : (txtR q5 == txtR q5) = true := by simp
              go_wp2_with fail
              go_ret
              exact ⟨rfl, Below.step RW.out hb10⟩
            · obtain ⟨n5, hn5, hn5'⟩ : ∃ n, fracE st = n ∧ n ≠ 0 := ⟨_, rfl, hE⟩
              obtain ⟨rfl, hb5⟩ := hp.get_bad hn5 hn5'
              have h34 : n5 = 4 ∨ n5 = 3 := by
                rw [← hn5]
                rw [← hn5] at hn5'
                exact fracE_cases hn5'
              unfold frNone
              obtain ⟨W5, e5, m5, b5⟩ := name_fr w5 (.bool false) (.slice none 0 0) (.bool false) (.slice none 0 0)
              have E5 := Lib.hid e5
              have R5 := Below.step hb5 b5
              have RW := Lib.hid (Below.step RW.out R5)
              clear hE hp hn5 hn5' hb5 b5 R5 e5 m5
              rcases h34 with rfl | rfl
              · go_wp2_with fail
                go_ret
                exact ⟨rfl, by rw [E5.out]; exact RW.out⟩
              · go_wp2_with fail
                go_ret
                exact ⟨rfl, by rw [E5.out]; exact RW.out⟩
          · have HE := Lib.hid hE0
            clear hE0
            have N1 := (N1.out _ hb2).keep
            have G1 := (G1.out.below hb2)
            have G1' := (G1'.out.below hb2)
            have G1 := Lib.hid G1
            have G1' := Lib.hid G1'
            have RW := Lib.hid (Below.step RW.out hb2)
            clear hb2
            go_wp2_with fail
            refine (ParseF_any (txtR Q) _ HLEN.out).mono ?_
            intro e w3 hp
            obtain ⟨n3, hn3, hn3'⟩ : ∃ n, fracE (txtR Q) = n ∧ n ≠ 0 := ⟨_, rfl, HE.out⟩
            obtain ⟨rfl, hb3⟩ := hp.get_bad hn3 hn3'
            unfold frNone
            obtain ⟨W3, e3, m3, b3⟩ := name_fr w3 (.bool false) (.slice none 0 0) (.bool false) (.slice none 0 0)
            have E3 := Lib.hid e3
            clear e3 hn3 hn3'
            have R3 := Below.step hb3 b3
            have N1 := (N1.out _ R3).keep
            have M3 := m3.keep
            have G1 := Lib.hid (G1.out.below R3)
            have G1' := Lib.hid (G1'.out.below R3)
            have RW := Lib.hid (Below.step RW.out R3)
            obtain ⟨p0, p1, p2, p3⟩ : (w3.alloc (.cells #[.bool false, .slice none 0 0, .bool false, .slice none 0 0] 58)).cell? ⟨w.heap.size, 0, none⟩ = some (.bool s1) ∧ (w3.alloc (.cells #[.bool false, .slice none 0 0, .bool false, .slice none 0 0] 58)).cell? ⟨w.heap.size, 1, none⟩ = some (.slice a1 l1.length c1) ∧ (w3.alloc (.cells #[.bool false, .slice none 0 0, .bool false, .slice none 0 0] 58)).cell? ⟨w.heap.size, 2, none⟩ = some (.bool s1') ∧ (w3.alloc (.cells #[.bool false, .slice none 0 0, .bool false, .slice none 0 0] 58)).cell? ⟨w.heap.size, 3, none⟩ = some (.slice a1' l1'.length c1') := by
              rw [E3.out]
              exact (N1.out _ (Below.refl _ _)).c4
            clear hp hb3 m3 b3 R3
            go_wp2_with fail
            rw [E3.out]
            refine (CheckF_any s1 s1' _ _ l1 l1' _ G1.out G1'.out HL.out.1 HL.out.2).mono ?_
            rintro e w4 ⟨rfl, hb4⟩
            rw [HOK.out]
            have N1 := (N1.out _ hb4).keep
            have M3 := (M3.out _ hb4).keep
            have G1 := Lib.hid (G1.out.below hb4)
            have G1' := Lib.hid (G1'.out.below hb4)
            have RW := Lib.hid (Below.step RW.out hb4)
            clear hb4 p0 p1 p2 p3
            obtain ⟨p0, p1, p2, p3⟩ := (N1.out _ (Below.refl _ _)).c4
            go_wp2_with fail
            refine (CheckF_any s1 s1' _ _ l1 l1' _ G1.out G1'.out HL.out.1 HL.out.2).mono ?_
            rintro e w4 ⟨rfl, hb4⟩
            rw [HOK.out]
            have N1 := (N1.out _ hb4).keep
            have M3 := (M3.out _ hb4).keep
            have G1 := Lib.hid (G1.out.below hb4)
            have G1' := Lib.hid (G1'.out.below hb4)
            have RW := Lib.hid (Below.step RW.out hb4)
            clear hb4 p0 p1 p2 p3
            go_wp2_with fail
            refine (ParseF_any st _ (Nat.le_trans HST.out (by decide))).mono ?_
            intro e w5 hp
            by_cases hE : fracE st = 0
            · obtain ⟨⟨u5, rfl, h5⟩, hb5⟩ := hp.get_good hE
              have HR := Lib.hid (read_again hE)
              obtain ⟨q5, hq5⟩ : ∃ q, fracQ st = q := ⟨_, rfl⟩
              rw [hq5] at h5 HR
              have HLE : Hid (decide ((((txtR q5).length : Nat) : Int) ≤ ((st.length : Nat) : Int)) = true) := decide_eq_true (by have := HR.out.2.2; omega)
              have HLE2 : Hid ((txtR q5).length ≤ st.length) := HR.out.2.2
              have HL5 : Hid ((txtR q5).length ≤ 90000) := Nat.le_trans HR.out.2.2 (Nat.le_trans HST.out (by decide))
              clear hE hp hq5
              obtain ⟨z1, y1, i1, j1, z2, y2, i2, j2, rfl, -⟩ := h5.split
              obtain ⟨W5, e5, m5, b5⟩ := name_fr w5 (.bool z1) (.slice y1 i1 j1) (.bool z2) (.slice y2 i2 j2)
              have R5 := Below.step hb5 b5
              have H5 := (h5.below b5).keep
              have M5 := m5.keep
              have RW := Lib.hid (Below.step RW.out R5)
              obtain ⟨p0, p1, p2, p3⟩ := m5.c4
              clear hb5 h5 m5 b5 R5
              go_wp2_with fail
              clear e5
              refine (TextF_at (H5.out _ (Below.refl _ _)).at (by decide) (by decide) (T0.out _ RW.out)).mono ?_
              rintro e w6 ⟨rfl, hb6⟩
              have H5 := (H5.out _ hb6).keep
              have M5 := (M5.out _ hb6).keep
              have RW := Lib.hid (Below.step RW.out hb6)
              clear hb6 p0 p1 p2 p3
              go_wp2_with fail
              refine (ParseF_any (txtR q5) _ HL5.out).mono ?_
              intro e w7 hp
              obtain ⟨⟨u7, rfl, h7⟩, hb7⟩ := hp.get_good HR.out.1
              rw [HR.out.2.1] at h7
              obtain ⟨x1, v1', k1, r1, x2, v2', k2, r2, rfl, -⟩ := h7.split
              obtain ⟨W7, e7, m7, b7⟩ := name_fr w7 (.bool x1) (.slice v1' k1 r1) (.bool x2) (.slice v2' k2 r2)
              have R7 := Below.step hb7 b7
              have H7 := (h7.below b7).keep
              have M7 := m7.keep
              have H5 := (H5.out _ R7).keep
              have M5 := (M5.out _ R7).keep
              have RW := Lib.hid (Below.step RW.out R7)
              obtain ⟨p0, p1, p2, p3⟩ := (M5.out _ (Below.refl _ _)).c4
              clear hp hb7 h7 m7 b7 R7
              go_wp2_with fail
              clear e7
              refine (CheckF_ok (H5.out _ (Below.refl _ _)) (by decide)).mono ?_
              rintro e w8 ⟨rfl, hb8⟩
              have H5 := (H5.out _ hb8).keep
              have H7 := (H7.out _ hb8).keep
              have M7 := (M7.out _ hb8).keep
              have RW := Lib.hid (Below.step RW.out hb8)
              obtain ⟨p0', p1', p2', p3'⟩ := (M5.out _ hb8).c4
              obtain ⟨p4, p5, p6, p7⟩ := (M7.out _ (Below.refl _ _)).c4
              clear hb8 p0 p1 p2 p3
              go_wp2_with fail
              refine (same_ok (H5.out _ (Below.refl _ _)) (H7.out _ (Below.refl _ _)) true (decide_eq_true rfl)).mono ?_
              rintro e w9 ⟨rfl, hb9⟩
              have H7 := (H7.out _ hb9).keep
              have RW := Lib.hid (Below.step RW.out hb9)
              obtain ⟨p0, p1, p2, p3⟩ := (M7.out _ hb9).c4
              clear hb9 p4 p5 p6 p7 p0' p1' p2' p3'
              go_wp2_with fail
              refine (TextF_at (H7.out _ (Below.refl _ _)).at (by decide) (by decide) (T0.out _ RW.out)).mono ?_
              rintro e w10 ⟨rfl, hb10⟩
              have hle := HLE.out
              have hle2 := HLE2.out
              have heq : (txtR q5 == txtR q5) = true := by simp
              go_wp2_with fail
              go_ret
              exact ⟨rfl, Below.step RW.out hb10⟩
            · obtain ⟨n5, hn5, hn5'⟩ : ∃ n, fracE st = n ∧ n ≠ 0 := ⟨_, rfl, hE⟩
              obtain ⟨rfl, hb5⟩ := hp.get_bad hn5 hn5'
              have h34 : n5 = 4 ∨ n5 = 3 := by
                rw [← hn5]
                rw [← hn5] at hn5'
                exact fracE_cases hn5'
              unfold frNone
              obtain ⟨W5, e5, m5, b5⟩ := name_fr w5 (.bool false) (.slice none 0 0) (.bool false) (.slice none 0 0)
              have E5 := Lib.hid e5
              have R5 := Below.step hb5 b5
              have RW := Lib.hid (Below.step RW.out R5)
              clear hE hp hn5 hn5' hb5 b5 R5 e5 m5
              rcases h34 with rfl | rfl
              · go_wp2_with fail
                go_ret
                exact ⟨rfl, by rw [E5.out]; exact RW.out⟩
              · go_wp2_with fail
                go_ret
                exact ⟨rfl, by rw [E5.out]; exact RW.out⟩

end Go.Proofs.YtgpoljbccimkjaaGreatDoor

namespace Go.Proofs.YtgpoljbccimkjaaGreatDoor
set_option linter.unusedSimpArgs false
set_option linter.unusedVariables false
open Go.ChangeShapes Go.WideShapes Go.ChangeAt Go.RowKit
open Go.ChangeMaps (open_string)

set_option maxRecDepth 100000 in
theorem fracsRead_contract (H : Type) (enc : TypeId × Value → H) (W : World) (base : Nat) (args : Array Value) (ds gs : List (DataW H)) (before : List MemPlace)
    (hval : ∀ (j : Nat) t v, Tryz.f12.params[j]? = some t → args[j]? = some v → Value.okWide Tryz.prog W .any base t v)
    (hW : DataW.Whole enc Tryz.prog Tryz.f12.params.toList Rows.fracsReadSpec.vars false W args.toList ds gs before) (hL : laidMetH Tryz.prog Rows.fracsReadRow.laid W) :
    Calls Tryz.prog 12 args W fun e W' => ∃ v, e = .returned v ∧ Rows.fracsReadSpec.post enc Tryz.prog Tryz.f12 false true false false W args v W' := by
  have hW' := hW
  obtain ⟨p, q, hA0, hV, rfl, hfz, hnd⟩ := hW
  have hA : DataW.TrodAll enc Tryz.prog W 0 (fun _ => true) true Tryz.f12.params.toList args.toList ds p := hA0
  rw [Tryz.params12] at hA hval
  obtain ⟨v0, vs0, d0, ds0, p0, q0, hargs0, rfl, rfl, h0, r0⟩ := trodAll_cons hA
  obtain ⟨v1, vs1, d1, ds1, p1, q1, hargs1, rfl, rfl, h1, r1⟩ := trodAll_cons r0
  subst hargs1
  obtain ⟨rfl, rfl, rfl⟩ := trodAll_nil r1
  obtain rfl : args = #[v0, v1] := by cases args; simp_all
  obtain ⟨rfl, rfl⟩ := trodVars_none hV
  obtain ⟨s0, x0, l0, s0', x0', l0', rfl, hl0, hl0'⟩ := open_frac (hval 0 _ v0 rfl rfl) h0
  obtain ⟨⟨⟨t1⟩⟩, rfl, -, -, hmax1⟩ := open_string (by kernel_rfl) (hval 1 _ v1 rfl rfl) h1
  refine (FracsRead_true W s0 s0' x0 x0' l0 l0' hl0 hl0' t1 (str_len hmax1) (tab_of hL)).mono fun e W' ⟨he, hg⟩ => ?_
  subst he
  refine ⟨_, rfl, law_post rfl (by kernel_rfl) (by kernel_rfl) hW' rfl rfl rfl hg⟩

theorem fracsRead_met (os : Os) : laidMet Tryz.prog Rows.fracsReadRow.laid ((laidWorld os).forCall (fun _ _ => 0) ⟨#[], #[.agg #[.bool false, .slice none 0 0, .bool false, .slice none 0 0], .string ByteArray.empty], []⟩).memory :=
  laidMet_of_run' 8 (by kernel_rfl) (by kernel_rfl)
theorem fracsRead_reads (os : Os) {H : Type} (enc : TypeId × Value → H) : ∃ places, DataW.whole enc Tryz.prog ((laidWorld os).forCall (fun _ _ => 0) ⟨#[], #[.agg #[.bool false, .slice none 0 0, .bool false, .slice none 0 0], .string ByteArray.empty], []⟩).memory Tryz.f12.params.toList Rows.fracsReadSpec.vars false (#[.agg #[.bool false, .slice none 0 0, .bool false, .slice none 0 0], .string ByteArray.empty] : Array Value).toList 8 = some ([.agg [.agg [.lit (.bool false), .nil], .agg [.lit (.bool false), .nil]], .lit (.string [])], [], places) :=
  ⟨[], by kernel_rfl⟩

set_option maxRecDepth 100000 in
theorem fracsRead_lifted (os : Os) (started : os.Started) (H : Type) (enc : TypeId × Value → H) (F : Stop.Interp) :
    ReturnsInHanded {} Tryz.checked os 12 .any ((OpenSpec.ofChange Rows.fracsReadSpec).preRow enc Tryz.prog Tryz.f12 Rows.fracsReadRow.domain false Rows.fracsReadRow.laid) (((OpenSpec.ofChange Rows.fracsReadSpec).at F).post enc Tryz.prog Tryz.f12 false true false false) := by
  obtain ⟨places, hx⟩ := fracsRead_reads os enc
  refine returnsInHanded_of_row (C := Tryz.checked) (s := OpenSpec.ofChange Rows.fracsReadSpec) own_knob started (by kernel_rfl) Tryz.func12
    (witness_row_at (enc := enc) (C := Tryz.checked) false (laidWorld os) #[.agg #[.bool false, .slice none 0 0, .bool false, .slice none 0 0], .string ByteArray.empty] rfl (by kernel_rfl) (by kernel_rfl) (by kernel_rfl)
      (OpenSpec.preRow_of_cond 8 hx (by kernel_rfl) (fun k hk => by cases hk) (by kernel_rfl) (fracsRead_met os))) ?_
  intro W base args ds gs before hval hW _ _ _ hL _ _
  exact fracsRead_contract H enc W base args ds gs before hval hW hL

theorem fracsRead_said : Rows.FracsReadSaid :=
  OpenClaim.holds_of_cond 12 Tryz.f12 rfl rfl rfl rfl rfl rfl rfl ⟨rfl, rfl, rfl, rfl, rfl⟩ rfl rfl rfl rfl rfl (by kernel_rfl) Tryz.func12 (by kernel_rfl)
    (of_decide_eq_true (by kernel_rfl)) (by unfold Func.isWrapper; first | (rw [if_pos (by decide +kernel)]; kernel_rfl) | (rw [if_neg (by decide +kernel)]; exact ⟨rfl, rfl⟩))
    (fun os started H enc _ F => by rw [OpenClaim.pre_eq_preRow]; exact fracsRead_lifted os started H enc F)

theorem fracsRead_plain (f : FuncId) (fn : Func) (hf : Tryz.pinned.checked.prog.funcNamed Rows.fracsReadRow.func = some f) (hfn : Tryz.pinned.checked.prog.funcs[f]? = some fn) :
    false = Tryz.pinned.checked.prog.looks [] ∧ ∀ (j : Nat) t, fn.params[j]? = some t → Tryz.pinned.checked.prog.wantsStandIn t = false := by
  obtain rfl : f = 12 := Option.some.inj ((show Tryz.prog.funcNamed Rows.fracsReadRow.func = some 12 by kernel_rfl).symm.trans hf) |>.symm
  obtain rfl : fn = Tryz.f12 := (Option.some.inj (Tryz.func12.symm.trans hfn)).symm
  refine ⟨by kernel_rfl, fun j t ht => ?_⟩
  rw [Tryz.params12] at ht
  have hall : ∀ u ∈ [58, 9], Tryz.prog.wantsStandIn u = false := by decide +kernel
  exact hall t (by simpa using Array.mem_of_getElem? ht)

theorem fracsRead_card : Rows.FracsReadCardSaid :=
  Claim7.holds_tied_plain_at .later [] _ _ _ _ fracsRead_said (fun _ h => by cases h) (by kernel_rfl) (fun _ h => by cases h) fracsRead_row_tie rfl ⟨rfl, rfl⟩ (by kernel_rfl) rfl fracsRead_plain (by kernel_rfl)
end Go.Proofs.YtgpoljbccimkjaaGreatDoor
