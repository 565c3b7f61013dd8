/- Walks: the order of fractions goes on, whatever is added, or multiplied. -/
import Derived.Test.YtgpoljbccimkjaaGreatDoorFGreat
namespace Go.Proofs.YtgpoljbccimkjaaGreatDoor
set_option linter.unusedSimpArgs false
set_option linter.unusedVariables false
open Go.RowKit Go.Shelf

theorem cmpR_cases (p q : Rat) : (p < q ∧ cmpR p q = -1) ∨ (q < p ∧ cmpR p q = 1) ∨ (p = q ∧ cmpR p q = 0) := by
  unfold cmpR
  by_cases h1 : p < q
  · exact .inl ⟨h1, if_pos h1⟩
  · by_cases h2 : q < p
    · exact .inr (.inl ⟨h2, by rw [if_neg h1, if_pos h2]⟩)
    · exact .inr (.inr ⟨by grind, by rw [if_neg h1, if_neg h2]⟩)
theorem cmpR_of {p q p' q' : Rat} (h1 : p < q ↔ p' < q') (h2 : q < p ↔ q' < p') : cmpR p q = cmpR p' q' := by
  unfold cmpR
  simp only [h1, h2]
theorem ord_neg (A B : Rat) : cmpR B A = -cmpR A B := by
  rcases cmpR_cases A B with ⟨h, e⟩ | ⟨h, e⟩ | ⟨h, e⟩ <;> rcases cmpR_cases B A with ⟨h', e'⟩ | ⟨h', e'⟩ | ⟨h', e'⟩ <;> rw [e, e'] <;> first | rfl | (exfalso; grind)
theorem ord_add (A B C : Rat) : cmpR (A + C) (B + C) = cmpR A B := cmpR_of (by constructor <;> intro h <;> grind) (by constructor <;> intro h <;> grind)
theorem ord_sub (A B : Rat) : cmpR (A - B) 0 = cmpR A B := cmpR_of (by constructor <;> intro h <;> grind) (by constructor <;> intro h <;> grind)
theorem ord_same (A B : Rat) : (cmpR A B == 0) = decide (A = B) := by
  rcases cmpR_cases A B with ⟨h, e⟩ | ⟨h, e⟩ | ⟨h, e⟩ <;> rw [e]
  · rw [decide_eq_false (by grind)]; rfl
  · rw [decide_eq_false (by grind)]; rfl
  · rw [decide_eq_true h]; rfl
theorem ord_trans {A B C : Rat} (h1 : cmpR A B ≤ 0) (h2 : cmpR B C ≤ 0) : cmpR A C ≤ 0 := by
  rcases cmpR_cases A B with ⟨h, e⟩ | ⟨h, e⟩ | ⟨h, e⟩ <;> rcases cmpR_cases B C with ⟨h', e'⟩ | ⟨h', e'⟩ | ⟨h', e'⟩ <;> rcases cmpR_cases A C with ⟨h'', e''⟩ | ⟨h'', e''⟩ | ⟨h'', e''⟩ <;> first | omega | (exfalso; grind)
theorem ord_mul (A B C : Rat) : cmpR (A * C) (B * C) = cmpR A B * cmpR C 0 := by
  rcases cmpR_cases C 0 with ⟨h, e⟩ | ⟨h, e⟩ | ⟨h, e⟩ <;> rw [e]
  · rw [show cmpR A B * -1 = -cmpR A B by omega, ← ord_neg]
    have hm : ∀ x y : Rat, x < y → y * C < x * C := fun x y hxy => by
      have := Rat.mul_pos (show 0 < y - x by grind) (show 0 < -C by grind)
      grind
    rcases cmpR_cases B A with ⟨h1, e1⟩ | ⟨h1, e1⟩ | ⟨h1, e1⟩
    · rw [e1]; have := hm _ _ h1; unfold cmpR; rw [if_pos this]
    · rw [e1]; have := hm _ _ h1; unfold cmpR; rw [if_neg (by grind), if_pos this]
    · rw [e1, h1]; unfold cmpR; rw [if_neg (by grind), if_neg (by grind)]
  · rw [Int.mul_one]
    have hm : ∀ x y : Rat, x < y → x * C < y * C := fun x y hxy => by
      have := Rat.mul_pos (show 0 < y - x by grind) h
      grind
    rcases cmpR_cases A B with ⟨h1, e1⟩ | ⟨h1, e1⟩ | ⟨h1, e1⟩
    · rw [e1]; have := hm _ _ h1; unfold cmpR; rw [if_pos this]
    · rw [e1]; have := hm _ _ h1; unfold cmpR; rw [if_neg (by grind), if_pos this]
    · rw [e1, h1]; unfold cmpR; rw [if_neg (by grind), if_neg (by grind)]
  · rw [h, Rat.mul_zero, Rat.mul_zero]
    simp [cmpR]
theorem cmpR_bd (p q : Rat) : -1 ≤ cmpR p q ∧ cmpR p q ≤ 1 := by
  rcases cmpR_cases p q with ⟨-, e⟩ | ⟨-, e⟩ | ⟨-, e⟩ <;> omega
theorem ord_lo (A B : Rat) : decide (cmpR A B < -1) = false := decide_eq_false (by have := cmpR_bd A B; omega)
theorem ord_hi (A B : Rat) : decide (1 < cmpR A B) = false := decide_eq_false (by have := cmpR_bd A B; omega)
theorem ord_wrap (A B : Rat) : IntKind.i64.wrap (-cmpR A B) = -cmpR A B := IntWalk.i64_in _ (by have := cmpR_bd A B; omega)
theorem ord_mulw (A B C D : Rat) : IntKind.i64.wrap (cmpR A B * cmpR C D) = cmpR A B * cmpR C D := by
  rcases cmpR_cases A B with ⟨-, e⟩ | ⟨-, e⟩ | ⟨-, e⟩ <;> rcases cmpR_cases C D with ⟨-, e'⟩ | ⟨-, e'⟩ | ⟨-, e'⟩ <;> rw [e, e'] <;> decide
theorem ne_self {a b : Int} (h : a = b) : (a != b) = false := by simp [h]
theorem ord_neg' (A B : Rat) : (cmpR B A != -cmpR A B) = false := ne_self (ord_neg A B)
theorem ord_add' (A B C : Rat) : (cmpR (A + C) (B + C) != cmpR A B) = false := ne_self (ord_add A B C)
theorem ord_sub' (A B : Rat) : (cmpR (A - B) 0 != cmpR A B) = false := ne_self (ord_sub A B)
theorem ord_mul' (A B C : Rat) : (cmpR (A * C) (B * C) != cmpR A B * cmpR C 0) = false := ne_self (ord_mul A B C)
theorem ord_same' (A B : Rat) : ((cmpR A B == 0) != decide (A = B)) = false := by rw [ord_same]; simp

set_option maxRecDepth 100000
section
variable {bs : List (Nat × Bool)} {fs : List (Nat × (Value → World → Prop))} {w0 : World} {d : Nat} {ty : TypeId} {pos : String} {af : Array Edge} {g : Option (Nat × Bool)}
theorem step_neII {x y : Nat} {t' : TypeId} {m k : Int} {b : Bool} (hx : ∀ v w, Known bs fs x v w → v = .int .i64 m) (hy : ∀ v w, Known bs fs y v w → v = .int .i64 k) (hb' : (m != k) = b) (h : ∀ w, Known bs fs d (.bool b) w) : StepOk Tryz.prog bs fs w0 ⟨some d, .binOp .neq 3 (.tmp x) (.tmp y) t', ty, pos, af, g⟩ :=
  step_value rfl fun a w hb hk => ⟨.bool b, w, by
    have h1 := hx _ _ (hk x (by simp [looks, Op.operands]))
    have h2 := hy _ _ (hk y (by simp [looks, Op.operands]))
    simp only [execOp, h1, h2, ← hb']
    go_simp, h _, Below.refl _ _⟩
theorem step_neBB {x y : Nat} {t' : TypeId} {m k b : Bool} (hx : ∀ v w, Known bs fs x v w → v = .bool m) (hy : ∀ v w, Known bs fs y v w → v = .bool k) (hb' : (m != k) = b) (h : ∀ w, Known bs fs d (.bool b) w) : StepOk Tryz.prog bs fs w0 ⟨some d, .binOp .neq 4 (.tmp x) (.tmp y) t', ty, pos, af, g⟩ :=
  step_value rfl fun a w hb hk => ⟨.bool b, w, by
    have h1 := hx _ _ (hk x (by simp [looks, Op.operands]))
    have h2 := hy _ _ (hk y (by simp [looks, Op.operands]))
    have h3 : (m == k) = !b := by rw [← hb']; cases m <;> cases k <;> rfl
    simp only [execOp, h1, h2]
    go_simp, h _, Below.refl _ _⟩
end

set_option maxHeartbeats 8000000 in
theorem FracsOrder_true (w : World) (s1 s1' : Bool) (v1 v1' : Value) (l1 l1' : List Nat) (h1 : Lim w v1 l1) (h1' : Lim w v1' l1') (s2 s2' : Bool) (v2 v2' : Value) (l2 l2' : List Nat) (h2 : Lim w v2 l2) (h2' : Lim w v2' l2') (s3 s3' : Bool) (v3 v3' : Value) (l3 l3' : List Nat) (h3 : Lim w v3 l3) (h3' : Lim w v3' l3') (htab : Tab w) :
    Calls Tryz.prog 10 #[.agg #[.bool s1, v1, .bool s1', v1'], .agg #[.bool s2, v2, .bool s2', v2'], .agg #[.bool s3, v3, .bool s3', v3']] w fun e w' => e = .returned (.bool true) ∧ Below w.heap.size w w' := by
  have g1 := h1
  have g1' := h1'
  have g2 := h2
  have g2' := h2'
  have g3 := h3
  have g3' := h3'
  obtain ⟨a1, c1, rfl, -⟩ := h1
  obtain ⟨a1', c1', rfl, -⟩ := h1'
  obtain ⟨a2, c2, rfl, -⟩ := h2
  obtain ⟨a2', c2', rfl, -⟩ := h2'
  obtain ⟨a3, c3, rfl, -⟩ := h3
  obtain ⟨a3', c3', rfl, -⟩ := h3'
  have HMX : Hid (l1.length ≤ 9223372036854775807 ∧ l1'.length ≤ 9223372036854775807 ∧ l2.length ≤ 9223372036854775807 ∧ l2'.length ≤ 9223372036854775807 ∧ l3.length ≤ 9223372036854775807 ∧ l3'.length ≤ 9223372036854775807) := ⟨g1.max, g1'.max, g2.max, g2'.max, g3.max, g3'.max⟩
  obtain ⟨W0, e0, n1, n2, n3, hb0⟩ := box_fr3 w (.bool s1) (.slice a1 l1.length c1) (.bool s1') (.slice a1' l1'.length c1') (.bool s2) (.slice a2 l2.length c2) (.bool s2') (.slice a2' l2'.length c2') (.bool s3) (.slice a3 l3.length c3) (.bool s3') (.slice a3' l3'.length c3')
  have T0 : Hid (∀ W, Below w.heap.size w W → Tab W) := fun W hb => htab.below hb
  have G1 := Lib.hid (g1.below hb0)
  have G1' := Lib.hid (g1'.below hb0)
  have G2 := Lib.hid (g2.below hb0)
  have G2' := Lib.hid (g2'.below hb0)
  have G3 := Lib.hid (g3.below hb0)
  have G3' := Lib.hid (g3'.below hb0)
  have N1 := n1.keep
  have N2 := n2.keep
  have N3 := n3.keep
  have B0 := Lib.hid hb0
  clear g1 g1' g2 g2' g3 g3' n1 n2 n3 hb0 htab
  go_enter Tryz.func10, Tryz.ntmps10
  go_wp2_with fail
  clear e0
  refine (aliveF_true _ (T0.out _ B0.out)).mono ?_
  rintro e w1 ⟨rfl, hb1⟩
  have B1 := Lib.hid hb1
  obtain ⟨p0, p1, p2, p3⟩ := (N1.out _ hb1).c4
  obtain ⟨p4, p5, p6, p7⟩ := (N2.out _ hb1).c4
  obtain ⟨p8, p9, p10, p11⟩ := (N3.out _ hb1).c4
  clear hb1
  go_wp2_with fail
  by_cases hbig : (10 < l1.length ∨ 10 < l1'.length) ∨ (10 < l2.length ∨ 10 < l2'.length) ∨ (10 < l3.length ∨ 10 < l3'.length)
  · refine (greatF3 (most := 10) (r := true) (n1 := l1.length) (n2 := l1'.length) (n3 := l2.length) (n4 := l2'.length) (n5 := l3.length) (n6 := l3'.length) (p1 := a1) (p2 := a1') (p3 := a2) (p4 := a2') (p5 := a3) (p6 := a3') (c1 := c1) (c2 := c1') (c3 := c2) (c4 := c2') (c5 := c3) (c6 := c3') rfl (by decide) HMX.out.1 HMX.out.2.1 HMX.out.2.2.1 HMX.out.2.2.2.1 HMX.out.2.2.2.2.1 HMX.out.2.2.2.2.2 (by go_simp) (by go_simp) (by go_simp) (by go_simp) (by go_simp) (by go_simp) (decide_eq_true hbig)).mono ?_
    rintro e w2 ⟨rfl, rfl⟩
    go_wp2_with fail
    refine (aliveF_true _ (T0.out _ (Below.step B0.out (Below.step B1.out (by repeat (first | exact Below.refl _ _ | with_reducible refine Below.drew ?_ | with_reducible refine below_drewN ?_ _ | with_reducible refine Below.setCell ?_ (by first | (simp; done) | (simp; omega) | omega) _ | with_reducible refine Below.alloc ?_ (by first | (simp; done) | (simp; omega) | omega) _)))))).mono ?_
    rintro e w2 ⟨rfl, hb2⟩
    have B2 := Lib.hid (Below.step B0.out (Below.step B1.out (Below.step (w := w1) (by repeat (first | exact Below.refl _ _ | with_reducible refine Below.drew ?_ | with_reducible refine below_drewN ?_ _ | with_reducible refine Below.setCell ?_ (by first | (simp; done) | (simp; omega) | omega) _ | with_reducible refine Below.alloc ?_ (by first | (simp; done) | (simp; omega) | omega) _)) hb2)))
    clear hb2
    go_wp2_with fail
    go_ret
    exact ⟨rfl, B2.out⟩
  · refine (greatF3 (most := 10) (r := false) (n1 := l1.length) (n2 := l1'.length) (n3 := l2.length) (n4 := l2'.length) (n5 := l3.length) (n6 := l3'.length) (p1 := a1) (p2 := a1') (p3 := a2) (p4 := a2') (p5 := a3) (p6 := a3') (c1 := c1) (c2 := c1') (c3 := c2) (c4 := c2') (c5 := c3) (c6 := c3') rfl (by decide) HMX.out.1 HMX.out.2.1 HMX.out.2.2.1 HMX.out.2.2.2.1 HMX.out.2.2.2.2.1 HMX.out.2.2.2.2.2 (by go_simp) (by go_simp) (by go_simp) (by go_simp) (by go_simp) (by go_simp) (decide_eq_false hbig)).mono ?_
    rintro e w2 ⟨rfl, rfl⟩
    obtain ⟨W2, e2, b2⟩ : ∃ W2, w1.alloc (.cells #[.bool s1, .slice a1 l1.length c1, .bool s1', .slice a1' l1'.length c1', .bool s2, .slice a2 l2.length c2, .bool s2', .slice a2' l2'.length c2', .bool s3, .slice a3 l3.length c3, .bool s3', .slice a3' l3'.length c3'] 58) = W2 ∧ Below w1.heap.size w1 W2 := ⟨_, rfl, (Below.refl _ _).alloc (Nat.le_refl _) _⟩
    have R2 := Below.step B1.out b2
    rw [e2]
    obtain ⟨A, hA⟩ : ∃ A, ratZ s1 l1 s1' l1' = A := ⟨_, rfl⟩
    obtain ⟨B, hB⟩ : ∃ B, ratZ s2 l2 s2' l2' = B := ⟨_, rfl⟩
    obtain ⟨C, hC⟩ : ∃ C, ratZ s3 l3 s3' l3' = C := ⟨_, rfl⟩
    have ha := FrAt.of (s := s1) (s' := s1') (k := 10) (G1.out.below R2) (G1'.out.below R2) (by omega) (by omega)
    have hb := FrAt.of (s := s2) (s' := s2') (k := 10) (G2.out.below R2) (G2'.out.below R2) (by omega) (by omega)
    have hc := FrAt.of (s := s3) (s' := s3') (k := 10) (G3.out.below R2) (G3'.out.below R2) (by omega) (by omega)
    rw [hA] at ha
    rw [hB] at hb
    rw [hC] at hc
    have HA := ha.keep
    have HB := hb.keep
    have HC := hc.keep
    have N1 := (N1.out _ R2).keep
    have N2 := (N2.out _ R2).keep
    have N3 := (N3.out _ R2).keep
    have RW := Lib.hid (Below.step B0.out R2)
    obtain ⟨q0, q1, q2, q3⟩ := (N1.out _ (Below.refl _ _)).c4
    clear ha hb hc hA hB hC R2 b2 e2 hbig p0 p1 p2 p3 p4 p5 p6 p7 p8 p9 p10 p11
    go_wp2_with fail
    refine (CheckF_at (HA.out _ (Below.refl _ _)) (by decide)).mono ?_
    rintro e w3 ⟨⟨rfl, hx⟩ | ⟨rfl, -⟩, hb3⟩
    rotate_left
    · have R3 := Lib.hid (Below.step RW.out hb3)
      clear hb3
      go_wp2_with fail
      refine (aliveF_true _ (T0.out _ R3.out)).mono ?_
      rintro e w9 ⟨rfl, hb9⟩
      have B9 := Lib.hid (Below.step R3.out hb9)
      clear hb9
      go_wp2_with fail
      go_ret
      exact ⟨rfl, B9.out⟩
    have HA := (hx.below hb3).keep
    have HB := (HB.out _ hb3).keep
    have HC := (HC.out _ hb3).keep
    have N1 := (N1.out _ hb3).keep
    have N2 := (N2.out _ hb3).keep
    have N3 := (N3.out _ hb3).keep
    have RW := Lib.hid (Below.step RW.out hb3)
    obtain ⟨p0, p1, p2, p3⟩ := (N2.out _ (Below.refl _ _)).c4
    clear hb3 hx
    clear q0 q1 q2 q3
    go_wp2_with fail
    refine (CheckF_at (HB.out _ (Below.refl _ _)) (by decide)).mono ?_
    rintro e w3 ⟨⟨rfl, hx⟩ | ⟨rfl, -⟩, hb3⟩
    rotate_left
    · have R3 := Lib.hid (Below.step RW.out hb3)
      clear hb3
      go_wp2_with fail
      refine (aliveF_true _ (T0.out _ R3.out)).mono ?_
      rintro e w9 ⟨rfl, hb9⟩
      have B9 := Lib.hid (Below.step R3.out hb9)
      clear hb9
      go_wp2_with fail
      go_ret
      exact ⟨rfl, B9.out⟩
    have HB := (hx.below hb3).keep
    have HA := (HA.out _ hb3).keep
    have HC := (HC.out _ hb3).keep
    have N1 := (N1.out _ hb3).keep
    have N2 := (N2.out _ hb3).keep
    have N3 := (N3.out _ hb3).keep
    have RW := Lib.hid (Below.step RW.out hb3)
    obtain ⟨q0, q1, q2, q3⟩ := (N3.out _ (Below.refl _ _)).c4
    clear hb3 hx
    clear p0 p1 p2 p3
    go_wp2_with fail
    refine (CheckF_at (HC.out _ (Below.refl _ _)) (by decide)).mono ?_
    rintro e w3 ⟨⟨rfl, hx⟩ | ⟨rfl, -⟩, hb3⟩
    rotate_left
    · have R3 := Lib.hid (Below.step RW.out hb3)
      clear hb3
      go_wp2_with fail
      refine (aliveF_true _ (T0.out _ R3.out)).mono ?_
      rintro e w9 ⟨rfl, hb9⟩
      have B9 := Lib.hid (Below.step R3.out hb9)
      clear hb9
      go_wp2_with fail
      go_ret
      exact ⟨rfl, B9.out⟩
    have HC := (hx.below hb3).keep
    have HA := (HA.out _ hb3).keep
    have HB := (HB.out _ hb3).keep
    have N1 := (N1.out _ hb3).keep
    have N2 := (N2.out _ hb3).keep
    have N3 := (N3.out _ hb3).keep
    have RW := Lib.hid (Below.step RW.out hb3)
    obtain ⟨p0, p1, p2, p3⟩ := (N1.out _ (Below.refl _ _)).c4
    obtain ⟨p4, p5, p6, p7⟩ := (N2.out _ (Below.refl _ _)).c4
    clear hb3 hx
    clear q0 q1 q2 q3
    go_wp2_with fail
    refine (CmpF_at (HA.out _ (Below.refl _ _)).at (HB.out _ (Below.refl _ _)).at (by decide) (by decide) (by decide) (by decide)).mono ?_
    rintro e w4 ⟨rfl, hb3⟩
    have HA := (HA.out _ hb3).keep
    have HB := (HB.out _ hb3).keep
    have HC := (HC.out _ hb3).keep
    have N1 := (N1.out _ hb3).keep
    have N2 := (N2.out _ hb3).keep
    have N3 := (N3.out _ hb3).keep
    have RW := Lib.hid (Below.step RW.out hb3)
    clear hb3 p0 p1 p2 p3 p4 p5 p6 p7
    go_upto_region 4 with fail
    rename_i hK0 K4 hK4
    refine wp_region_known [(37, false), (38, false), (40, false), (41, false), (42, false), (48, false), (49, false), (50, false), (52, (cmpR A B == 0)), (55, (decide (A = B))), (56, false), (57, false), (58, false), (67, false), (68, false), (69, false), (75, false), (76, false), (77, false), (89, false), (90, false)]
      [(3, IsV (.pointer (some ⟨w.heap.size, 0, none⟩))), (4, IsV (.pointer (some ⟨(w.heap.size + 1), 0, none⟩))), (5, IsV (.pointer (some ⟨(w.heap.size + 1 + 1), 0, none⟩))), (7, IsV (.int .i64 (cmpR A B)))]
      [(36, IsV (.int .i64 (cmpR A B))), (39, IsV (.int .i64 (cmpR A B))), (43, IsF 10 (B)), (44, IsF 10 (A)), (45, IsV (.int .i64 (cmpR (B) (A)))), (46, IsV (.int .i64 (cmpR A B))), (47, IsV (.int .i64 ((-cmpR A B)))), (51, IsV (.int .i64 (cmpR A B))), (53, IsF 10 (A)), (54, IsF 10 (B)), (59, IsF 10 (A)), (60, IsF 10 (C)), (61, IsF 21 ((A + C))), (62, IsF 10 (B)), (63, IsF 10 (C)), (64, IsF 21 ((B + C))), (65, IsV (.int .i64 (cmpR ((A + C)) ((B + C))))), (66, IsV (.int .i64 (cmpR A B))), (70, IsF 10 (A)), (71, IsF 10 (B)), (72, IsF 21 ((A - B))), (73, IsV (.int .i64 (cmpR ((A - B)) 0))), (74, IsV (.int .i64 (cmpR A B))), (78, IsF 10 (A)), (79, IsF 10 (C)), (80, IsF 20 ((A * C))), (81, IsF 10 (B)), (82, IsF 10 (C)), (83, IsF 20 ((B * C))), (84, IsV (.int .i64 (cmpR ((A * C)) ((B * C))))), (85, IsV (.int .i64 (cmpR A B))), (86, IsF 10 (C)), (87, IsV (.int .i64 (cmpR (C) 0))), (88, IsV (.int .i64 ((cmpR A B * cmpR (C) 0))))]
      105 (by kernel_rfl) rfl (by kernel_rfl) (by kernel_rfl) ⟨rfl, rfl, rfl, rfl, trivial⟩ ⟨IsV.grows _ , IsV.grows _ , IsV.grows _ , IsV.grows _ , IsV.grows _ , IsV.grows _ , IsF.grows _ _ , IsF.grows _ _ , IsV.grows _ , IsV.grows _ , IsV.grows _ , IsV.grows _ , IsF.grows _ _ , IsF.grows _ _ , IsF.grows _ _ , IsF.grows _ _ , IsF.grows _ _ , IsF.grows _ _ , IsF.grows _ _ , IsF.grows _ _ , IsV.grows _ , IsV.grows _ , IsF.grows _ _ , IsF.grows _ _ , IsF.grows _ _ , IsV.grows _ , IsV.grows _ , IsF.grows _ _ , IsF.grows _ _ , IsF.grows _ _ , IsF.grows _ _ , IsF.grows _ _ , IsF.grows _ _ , IsV.grows _ , IsV.grows _ , IsF.grows _ _ , IsV.grows _ , IsV.grows _ , trivial⟩ ?_ ?_
    · refine AllStep.cons (step_move (fun _ _ h => h)) ?_
      refine AllStep.cons (step_lss (fun _ _ h => h) (ord_lo _ _) (fun _ => rfl)) ?_
      refine AllStep.cons (step_move (fun _ _ h => h)) ?_
      refine AllStep.cons (step_move (fun _ _ h => h)) ?_
      refine AllStep.cons (step_gtr (fun _ _ h => h) (ord_hi _ _) (fun _ => rfl)) ?_
      refine AllStep.cons (step_pickF (fun _ _ h => h) (fun _ _ h => h)) ?_
      refine AllStep.cons (step_move (fun _ _ h => h)) ?_
      refine AllStep.cons (step_loadT (fun _ _ h => h) (fun W hb => run_load4 rfl rfl rfl (N2.out W hb).at0 (N2.out W hb).at1 (N2.out W hb).at2 (N2.out W hb).at3) (fun w hb => HB.out w hb)) ?_
      refine AllStep.cons (step_loadT (fun _ _ h => h) (fun W hb => run_load4 rfl rfl rfl (N1.out W hb).at0 (N1.out W hb).at1 (N1.out W hb).at2 (N1.out W hb).at3) (fun w hb => HA.out w hb)) ?_
      refine AllStep.cons (step_call2 (Plain.of Tryz.func42 rfl rfl) (fun _ _ _ _ hu hv => (CmpF_at (FrOk.at hu) (FrOk.at hv) (by decide) (by decide) (by decide) (by decide)).mono (fun _ _ h => ansV h))) ?_
      refine AllStep.cons (step_move (fun _ _ h => h)) ?_
      refine AllStep.cons (step_neg (fun _ _ h => h) (ord_wrap _ _) (fun _ => rfl)) ?_
      refine AllStep.cons (step_neII (fun _ _ h => h) (fun _ _ h => h) (ord_neg' A B) (fun _ => rfl)) ?_
      refine AllStep.cons (step_pickF (fun _ _ h => h) (fun _ _ h => h)) ?_
      refine AllStep.cons (step_move (fun _ _ h => h)) ?_
      refine AllStep.cons (step_move (fun _ _ h => h)) ?_
      refine AllStep.cons (step_eqI (fun _ _ h => h) rfl (fun _ => rfl)) ?_
      refine AllStep.cons (step_loadT (fun _ _ h => h) (fun W hb => run_load4 rfl rfl rfl (N1.out W hb).at0 (N1.out W hb).at1 (N1.out W hb).at2 (N1.out W hb).at3) (fun w hb => HA.out w hb)) ?_
      refine AllStep.cons (step_loadT (fun _ _ h => h) (fun W hb => run_load4 rfl rfl rfl (N2.out W hb).at0 (N2.out W hb).at1 (N2.out W hb).at2 (N2.out W hb).at3) (fun w hb => HB.out w hb)) ?_
      refine AllStep.cons (step_call2 (Plain.of Tryz.func65 rfl rfl) (fun _ _ _ _ hu hv => (same_ok hu hv _ rfl).mono (fun _ _ h => ansV h))) ?_
      refine AllStep.cons (step_neBB (fun _ _ h => h) (fun _ _ h => h) (ord_same' A B) (fun _ => rfl)) ?_
      refine AllStep.cons (step_pickF (fun _ _ h => h) (fun _ _ h => h)) ?_
      refine AllStep.cons (step_move (fun _ _ h => h)) ?_
      refine AllStep.cons (step_loadT (fun _ _ h => h) (fun W hb => run_load4 rfl rfl rfl (N1.out W hb).at0 (N1.out W hb).at1 (N1.out W hb).at2 (N1.out W hb).at3) (fun w hb => HA.out w hb)) ?_
      refine AllStep.cons (step_loadT (fun _ _ h => h) (fun W hb => run_load4 rfl rfl rfl (N3.out W hb).at0 (N3.out W hb).at1 (N3.out W hb).at2 (N3.out W hb).at3) (fun w hb => HC.out w hb)) ?_
      refine AllStep.cons (step_call2 (Plain.of Tryz.func37 rfl rfl) (fun _ _ _ _ hu hv => AddF_at (FrOk.at hu) (FrOk.at hv) (by decide) (by decide) (by decide) (by decide))) ?_
      refine AllStep.cons (step_loadT (fun _ _ h => h) (fun W hb => run_load4 rfl rfl rfl (N2.out W hb).at0 (N2.out W hb).at1 (N2.out W hb).at2 (N2.out W hb).at3) (fun w hb => HB.out w hb)) ?_
      refine AllStep.cons (step_loadT (fun _ _ h => h) (fun W hb => run_load4 rfl rfl rfl (N3.out W hb).at0 (N3.out W hb).at1 (N3.out W hb).at2 (N3.out W hb).at3) (fun w hb => HC.out w hb)) ?_
      refine AllStep.cons (step_call2 (Plain.of Tryz.func37 rfl rfl) (fun _ _ _ _ hu hv => AddF_at (FrOk.at hu) (FrOk.at hv) (by decide) (by decide) (by decide) (by decide))) ?_
      refine AllStep.cons (step_call2 (Plain.of Tryz.func42 rfl rfl) (fun _ _ _ _ hu hv => (CmpF_at (FrOk.at hu) (FrOk.at hv) (by decide) (by decide) (by decide) (by decide)).mono (fun _ _ h => ansV h))) ?_
      refine AllStep.cons (step_move (fun _ _ h => h)) ?_
      refine AllStep.cons (step_neII (fun _ _ h => h) (fun _ _ h => h) (ord_add' A B C) (fun _ => rfl)) ?_
      refine AllStep.cons (step_pickF (fun _ _ h => h) (fun _ _ h => h)) ?_
      refine AllStep.cons (step_move (fun _ _ h => h)) ?_
      refine AllStep.cons (step_loadT (fun _ _ h => h) (fun W hb => run_load4 rfl rfl rfl (N1.out W hb).at0 (N1.out W hb).at1 (N1.out W hb).at2 (N1.out W hb).at3) (fun w hb => HA.out w hb)) ?_
      refine AllStep.cons (step_loadT (fun _ _ h => h) (fun W hb => run_load4 rfl rfl rfl (N2.out W hb).at0 (N2.out W hb).at1 (N2.out W hb).at2 (N2.out W hb).at3) (fun w hb => HB.out w hb)) ?_
      refine AllStep.cons (step_call2 (Plain.of Tryz.func38 rfl rfl) (fun _ _ _ _ hu hv => SubF_at (FrOk.at hu) (FrOk.at hv) (by decide) (by decide) (by decide) (by decide))) ?_
      refine AllStep.cons (step_call1 (Plain.of Tryz.func44 rfl rfl) (fun _ _ _ hu => (SignF_at (FrOk.at hu) (by decide) (by decide) _ sign_cmp).mono (fun _ _ h => ansV h))) ?_
      refine AllStep.cons (step_move (fun _ _ h => h)) ?_
      refine AllStep.cons (step_neII (fun _ _ h => h) (fun _ _ h => h) (ord_sub' A B) (fun _ => rfl)) ?_
      refine AllStep.cons (step_pickF (fun _ _ h => h) (fun _ _ h => h)) ?_
      refine AllStep.cons (step_move (fun _ _ h => h)) ?_
      refine AllStep.cons (step_loadT (fun _ _ h => h) (fun W hb => run_load4 rfl rfl rfl (N1.out W hb).at0 (N1.out W hb).at1 (N1.out W hb).at2 (N1.out W hb).at3) (fun w hb => HA.out w hb)) ?_
      refine AllStep.cons (step_loadT (fun _ _ h => h) (fun W hb => run_load4 rfl rfl rfl (N3.out W hb).at0 (N3.out W hb).at1 (N3.out W hb).at2 (N3.out W hb).at3) (fun w hb => HC.out w hb)) ?_
      refine AllStep.cons (step_call2 (Plain.of Tryz.func39 rfl rfl) (fun _ _ _ _ hu hv => MulF_at (FrOk.at hu) (FrOk.at hv) (by decide) (by decide) (by decide) (by decide))) ?_
      refine AllStep.cons (step_loadT (fun _ _ h => h) (fun W hb => run_load4 rfl rfl rfl (N2.out W hb).at0 (N2.out W hb).at1 (N2.out W hb).at2 (N2.out W hb).at3) (fun w hb => HB.out w hb)) ?_
      refine AllStep.cons (step_loadT (fun _ _ h => h) (fun W hb => run_load4 rfl rfl rfl (N3.out W hb).at0 (N3.out W hb).at1 (N3.out W hb).at2 (N3.out W hb).at3) (fun w hb => HC.out w hb)) ?_
      refine AllStep.cons (step_call2 (Plain.of Tryz.func39 rfl rfl) (fun _ _ _ _ hu hv => MulF_at (FrOk.at hu) (FrOk.at hv) (by decide) (by decide) (by decide) (by decide))) ?_
      refine AllStep.cons (step_call2 (Plain.of Tryz.func42 rfl rfl) (fun _ _ _ _ hu hv => (CmpF_at (FrOk.at hu) (FrOk.at hv) (by decide) (by decide) (by decide) (by decide)).mono (fun _ _ h => ansV h))) ?_
      refine AllStep.cons (step_move (fun _ _ h => h)) ?_
      refine AllStep.cons (step_loadT (fun _ _ h => h) (fun W hb => run_load4 rfl rfl rfl (N3.out W hb).at0 (N3.out W hb).at1 (N3.out W hb).at2 (N3.out W hb).at3) (fun w hb => HC.out w hb)) ?_
      refine AllStep.cons (step_call1 (Plain.of Tryz.func44 rfl rfl) (fun _ _ _ hu => (SignF_at (FrOk.at hu) (by decide) (by decide) _ sign_cmp).mono (fun _ _ h => ansV h))) ?_
      refine AllStep.cons (step_mulI (fun _ _ h => h) (fun _ _ h => h) (ord_mulw _ _ _ _) (fun _ => rfl)) ?_
      refine AllStep.cons (step_neII (fun _ _ h => h) (fun _ _ h => h) (ord_mul' A B C) (fun _ => rfl)) ?_
      refine AllStep.cons (step_pickF (fun _ _ h => h) (fun _ _ h => h)) ?_
      exact AllStep.nil
    intro a4 w5 hb3 hs4 hd4 hk4
    have HA := (HA.out _ hb3).keep
    have HB := (HB.out _ hb3).keep
    have HC := (HC.out _ hb3).keep
    have N1 := (N1.out _ hb3).keep
    have N2 := (N2.out _ hb3).keep
    have N3 := (N3.out _ hb3).keep
    have RW := Lib.hid (Below.step RW.out hb3)
    obtain ⟨x, hx⟩ : ∃ x : Nat → Value, ∀ t, a4.eval (.tmp t) = x t := ⟨_, fun _ => rfl⟩
    have ha : a4 = ⟨#[x 0, x 1, x 2, .pointer (some ⟨w.heap.size, 0, none⟩), .pointer (some ⟨w.heap.size + 1, 0, none⟩), .pointer (some ⟨w.heap.size + 1 + 1, 0, none⟩), x 6, .int .i64 (cmpR A B), x 8, x 9, x 10, x 11, x 12, x 13, x 14, x 15, x 16, x 17, x 18, x 19, x 20, x 21, x 22, x 23, x 24, x 25, x 26, x 27, x 28, x 29, x 30, x 31, x 32, x 33, x 34, x 35, x 36, x 37, x 38, x 39, x 40, x 41, x 42, x 43, x 44, x 45, x 46, x 47, x 48, x 49, x 50, x 51, x 52, x 53, x 54, x 55, x 56, x 57, x 58, x 59, x 60, x 61, x 62, x 63, x 64, x 65, x 66, x 67, x 68, x 69, x 70, x 71, x 72, x 73, x 74, x 75, x 76, x 77, x 78, x 79, x 80, x 81, x 82, x 83, x 84, x 85, x 86, x 87, x 88, x 89, .bool false, x 91, x 92, x 93, x 94, x 95, x 96, x 97, x 98, x 99, x 100, x 101, x 102, x 103, x 104], []⟩ := act_eq hs4 hd4 ⟨hx 0, hx 1, hx 2, hk4 3, hk4 4, hk4 5, hx 6, hk4 7, hx 8, hx 9, hx 10, hx 11, hx 12, hx 13, hx 14, hx 15, hx 16, hx 17, hx 18, hx 19, hx 20, hx 21, hx 22, hx 23, hx 24, hx 25, hx 26, hx 27, hx 28, hx 29, hx 30, hx 31, hx 32, hx 33, hx 34, hx 35, hx 36, hx 37, hx 38, hx 39, hx 40, hx 41, hx 42, hx 43, hx 44, hx 45, hx 46, hx 47, hx 48, hx 49, hx 50, hx 51, hx 52, hx 53, hx 54, hx 55, hx 56, hx 57, hx 58, hx 59, hx 60, hx 61, hx 62, hx 63, hx 64, hx 65, hx 66, hx 67, hx 68, hx 69, hx 70, hx 71, hx 72, hx 73, hx 74, hx 75, hx 76, hx 77, hx 78, hx 79, hx 80, hx 81, hx 82, hx 83, hx 84, hx 85, hx 86, hx 87, hx 88, hx 89, hk4 90, hx 91, hx 92, hx 93, hx 94, hx 95, hx 96, hx 97, hx 98, hx 99, hx 100, hx 101, hx 102, hx 103, hx 104, trivial⟩
    subst ha
    refine hK4 _ _ ?_
    refine wp_cond_false rfl ?_
    refine wp_skip ?_
    refine hK0 _ _ ?_
    clear hx hk4 hs4 hd4 hb3 hK4 hK0
    have ht := @ord_trans A B C
    have HTR := Lib.hid ht
    clear ht
    by_cases hn : 0 < cmpR A B
    · go_wp2_with fail
      go_ret
      exact ⟨rfl, RW.out⟩
    · have hn' : cmpR A B ≤ 0 := by omega
      have HN := Lib.hid hn'
      clear hn
      obtain ⟨p4, p5, p6, p7⟩ := (N2.out _ (Below.refl _ _)).c4
      obtain ⟨p8, p9, p10, p11⟩ := (N3.out _ (Below.refl _ _)).c4
      go_wp2_with fail
      refine (CmpF_at (HB.out _ (Below.refl _ _)).at (HC.out _ (Below.refl _ _)).at (by decide) (by decide) (by decide) (by decide)).mono ?_
      rintro e w6 ⟨rfl, hb3⟩
      have HA := (HA.out _ hb3).keep
      have HB := (HB.out _ hb3).keep
      have HC := (HC.out _ hb3).keep
      have N1 := (N1.out _ hb3).keep
      have N2 := (N2.out _ hb3).keep
      have N3 := (N3.out _ hb3).keep
      have RW := Lib.hid (Below.step RW.out hb3)
      clear hb3 p4 p5 p6 p7 p8 p9 p10 p11
      by_cases hm : 0 < cmpR B C
      · go_wp2_with fail
        go_ret
        exact ⟨rfl, RW.out⟩
      · have hm' : cmpR B C ≤ 0 := by omega
        have ha' : cmpR A C ≤ 0 := HTR.out hn' hm'
        clear hm
        obtain ⟨p0, p1, p2, p3⟩ := (N1.out _ (Below.refl _ _)).c4
        obtain ⟨p8, p9, p10, p11⟩ := (N3.out _ (Below.refl _ _)).c4
        go_wp2_with fail
        refine (CmpF_at (HA.out _ (Below.refl _ _)).at (HC.out _ (Below.refl _ _)).at (by decide) (by decide) (by decide) (by decide)).mono ?_
        rintro e w7 ⟨rfl, hb3⟩
        go_wp2_with fail
        go_ret
        exact ⟨rfl, Below.step RW.out hb3⟩

end Go.Proofs.YtgpoljbccimkjaaGreatDoor
