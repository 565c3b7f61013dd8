/- Plain facts: many steps of Euclid's at once, by the two parts on top. -/
import Derived.Test.YtejlhefjphiahaaDoorProdMath
namespace Go.Proofs.YtejlhefjphiahaaDoor

/-- What holds at each round, of the numbers on top: their cofactors' signs and bounds, and what is left. -/
structure FInv (X Y x y f0 f1 s0 s1 : Int) : Prop where
  ex : x = f0 * X + f1 * Y
  ey : y = s0 * X + s1 * Y
  sgn : (f0 * s1 - f1 * s0 = 1 ∧ 0 ≤ f0 ∧ f1 ≤ 0 ∧ s0 ≤ 0 ∧ 0 ≤ s1) ∨ (f0 * s1 - f1 * s0 = -1 ∧ f0 ≤ 0 ∧ 0 ≤ f1 ∧ 0 ≤ s0 ∧ s1 ≤ 0)
  px0 : 0 ≤ x + f0
  px1 : 0 ≤ x + f1
  py0 : 0 ≤ y + s0
  py1 : 0 ≤ y + s1
  bf0 : -1000000000 ≤ f0 ∧ f0 ≤ 1000000000
  bf1 : -1000000000 ≤ f1 ∧ f1 ≤ 1000000000
  bs0 : -1000000000 ≤ s0 ∧ s0 ≤ 1000000000
  bs1 : -1000000000 ≤ s1 ∧ s1 ≤ 1000000000
  bx : 0 ≤ x ∧ x < 1000000000000000000
  by' : 0 ≤ y ∧ y < 1000000000000000000
  /-- At the beginning, or behind a step at least. -/
  far : (f0 = 1 ∧ f1 = 0 ∧ x = X ∧ y = Y ∧ s0 = 0 ∧ s1 = 1) ∨ (y + s0 < x + f0 ∧ y + s1 < x + f1 ∧ y + s0 ≤ Y - 1 ∧ y + s1 ≤ Y - 1 ∧ x + f0 ≤ Y + 1 ∧ x + f1 ≤ Y + 1)

theorem FInv.start {X Y : Int} (hX : 0 ≤ X ∧ X < 1000000000000000000) (hY : 0 ≤ Y ∧ Y < 1000000000000000000) : FInv X Y X Y 1 0 0 1 :=
  ⟨by omega, by omega, .inl ⟨by decide, by decide, by decide, by decide, by decide⟩, by omega, by omega, by omega, by omega, by decide, by decide, by decide, by decide, hX, hY, .inl ⟨rfl, rfl, rfl, rfl, rfl, rfl⟩⟩

theorem sq_bound {u y X : Int} (h0 : 0 ≤ u) (h1 : u < y) (h2 : u * y ≤ X) (h3 : X < 1000000000000000000) : u ≤ 1000000000 := by
  by_cases h : u ≤ 1000000000
  · exact h
  · exfalso
    have e1 : 1000000000 * y ≤ u * y := Int.mul_le_mul_of_nonneg_right (by omega) (by omega)
    omega

theorem FInv.step {X Y x y f0 f1 s0 s1 n : Int} (h : FInv X Y x y f0 f1 s0 s1) (hX : X < 1000000000000000000) (hY : Y < 1000000000000000000) (h0 : 0 < y + s0) (h1 : 0 < y + s1) (hn : n = (x + f0) / (y + s0)) (hm : n = (x + f1) / (y + s1)) :
    FInv X Y y (x - n * y) s0 s1 (f0 - n * s0) (f1 - n * s1) ∧ (x - n * y) + (f0 - n * s0) < y + s0 ∧ 0 ≤ n ∧ 0 < y := by
  have r0 : 0 ≤ (x + f0) - n * (y + s0) ∧ (x + f0) - n * (y + s0) < y + s0 := by
    have e := Int.emod_add_mul_ediv (x + f0) (y + s0)
    have e1 := Int.emod_nonneg (x + f0) (show y + s0 ≠ 0 by omega)
    have e2 := Int.emod_lt_of_pos (x + f0) h0
    rw [← hn, Int.mul_comm] at e
    omega
  have r1 : 0 ≤ (x + f1) - n * (y + s1) ∧ (x + f1) - n * (y + s1) < y + s1 := by
    have e := Int.emod_add_mul_ediv (x + f1) (y + s1)
    have e1 := Int.emod_nonneg (x + f1) (show y + s1 ≠ 0 by omega)
    have e2 := Int.emod_lt_of_pos (x + f1) h1
    rw [← hm, Int.mul_comm] at e
    omega
  have n0 : 0 ≤ n := by rw [hn]; exact Int.ediv_nonneg h.px0 (by omega)
  have q0 : (x + f0) - n * (y + s0) = (x - n * y) + (f0 - n * s0) := by rw [Int.mul_add]; omega
  have q1 : (x + f1) - n * (y + s1) = (x - n * y) + (f1 - n * s1) := by rw [Int.mul_add]; omega
  rw [q0] at r0
  rw [q1] at r1
  have ez : x - n * y = (f0 - n * s0) * X + (f1 - n * s1) * Y := by have := h.ex; have := h.ey; grind
  have i1 : (f1 - n * s1) * y - s1 * (x - n * y) = (s0 * (f1 - n * s1) - s1 * (f0 - n * s0)) * X := by have := h.ex; have := h.ey; grind
  have i2 : s0 * (x - n * y) - (f0 - n * s0) * y = (s0 * (f1 - n * s1) - s1 * (f0 - n * s0)) * Y := by have := h.ex; have := h.ey; grind
  have i3 : s0 * (f1 - n * s1) - s1 * (f0 - n * s0) = -(f0 * s1 - f1 * s0) := by grind
  have bf0 := h.bs0
  have bf1 := h.bs1
  rcases h.sgn with ⟨d, a1, a2, a3, a4⟩ | ⟨d, a1, a2, a3, a4⟩
  · have m0 : n * s0 ≤ 0 := Int.mul_nonpos_of_nonneg_of_nonpos n0 a3
    have m1 : 0 ≤ n * s1 := Int.mul_nonneg n0 a4
    have hu0 : 0 ≤ f0 - n * s0 := by omega
    have hu1 : f1 - n * s1 ≤ 0 := by omega
    rw [i3, d] at i1 i2
    rw [d] at i3
    generalize f0 - n * s0 = u0 at *
    generalize f1 - n * s1 = u1 at *
    generalize x - n * y = z at *
    have hz0 : 0 ≤ z := by omega
    have hy0 : 0 < y := by omega
    have g1 : 0 ≤ s1 * z := Int.mul_nonneg a4 hz0
    have g2 : s0 * z ≤ 0 := Int.mul_nonpos_of_nonpos_of_nonneg a3 hz0
    have b0 : u0 ≤ 1000000000 := sq_bound (y := y) hu0 (by omega) (X := Y) (by omega) hY
    have b1 : -u1 ≤ 1000000000 := sq_bound (y := y) (by omega) (by omega) (X := X) (by rw [Int.neg_mul]; omega) hX
    refine ⟨⟨h.ey, ez, .inr ⟨i3, a3, a4, hu0, hu1⟩, by omega, by omega, by omega, by omega, bf0, bf1, by omega, by omega, ⟨by omega, h.by'.2⟩, ⟨hz0, by have := h.by'.2; omega⟩, .inr ?_⟩, by omega, n0, hy0⟩
    rcases h.far with ⟨t1, t2, t3, t4, t5, t6⟩ | ⟨t1, t2, t3, t4, t5, t6⟩
    · refine ⟨by omega, by omega, by omega, by omega, by omega, by omega⟩
    · refine ⟨by omega, by omega, by omega, by omega, by omega, by omega⟩
  · have m0 : 0 ≤ n * s0 := Int.mul_nonneg n0 a3
    have m1 : n * s1 ≤ 0 := Int.mul_nonpos_of_nonneg_of_nonpos n0 a4
    have hu0 : f0 - n * s0 ≤ 0 := by omega
    have hu1 : 0 ≤ f1 - n * s1 := by omega
    rw [i3, d] at i1 i2
    rw [d] at i3
    generalize f0 - n * s0 = u0 at *
    generalize f1 - n * s1 = u1 at *
    generalize x - n * y = z at *
    have hz0 : 0 ≤ z := by omega
    have hy0 : 0 < y := by omega
    have g1 : s1 * z ≤ 0 := Int.mul_nonpos_of_nonpos_of_nonneg a4 hz0
    have g2 : 0 ≤ s0 * z := Int.mul_nonneg a3 hz0
    have b0 : -u0 ≤ 1000000000 := sq_bound (y := y) (by omega) (by omega) (X := Y) (by rw [Int.neg_mul]; omega) hY
    have b1 : u1 ≤ 1000000000 := sq_bound (y := y) hu1 (by omega) (X := X) (by omega) hX
    refine ⟨⟨h.ey, ez, .inl ⟨i3, a3, a4, hu0, hu1⟩, by omega, by omega, by omega, by omega, bf0, bf1, by omega, by omega, ⟨by omega, h.by'.2⟩, ⟨hz0, by have := h.by'.2; omega⟩, .inr ?_⟩, by omega, n0, hy0⟩
    rcases h.far with ⟨t1, t2, t3, t4, t5, t6⟩ | ⟨t1, t2, t3, t4, t5, t6⟩
    · omega
    · refine ⟨by omega, by omega, by omega, by omega, by omega, by omega⟩

/-- What the cofactors make of the greater numbers: from 0 on, in room, falling. -/
theorem FInv.near {X Y x y f0 f1 s0 s1 : Int} (h : FInv X Y x y f0 f1 s0 s1) (hf : ¬(f0 = 1 ∧ f1 = 0)) {A B S a' b' : Int} (hA : A = X * S + a') (hB : B = Y * S + b') (ha : 0 ≤ a' ∧ a' < S) (hb : 0 ≤ b' ∧ b' < S) :
    0 ≤ f0 * A + f1 * B ∧ f0 * A + f1 * B ≤ (Y + 1) * S ∧ 0 ≤ s0 * A + s1 * B ∧ s0 * A + s1 * B < B ∧ s0 * A + s1 * B ≤ f0 * A + f1 * B := by
  have hfar : y + s0 < x + f0 ∧ y + s1 < x + f1 ∧ y + s0 ≤ Y - 1 ∧ y + s1 ≤ Y - 1 ∧ x + f0 ≤ Y + 1 ∧ x + f1 ≤ Y + 1 := by
    rcases h.far with ⟨t1, t2, _⟩ | t
    · exact absurd ⟨t1, t2⟩ hf
    · exact t
  obtain ⟨t1, t2, t3, t4, t5, t6⟩ := hfar
  have eC : f0 * A + f1 * B = x * S + f0 * a' + f1 * b' := by have := h.ex; grind
  have eD : s0 * A + s1 * B = y * S + s0 * a' + s1 * b' := by have := h.ey; grind
  have hS : 0 < S := by omega
  have mono : ∀ {p q : Int}, p ≤ q → p * S ≤ q * S := fun hpq => Int.mul_le_mul_of_nonneg_right hpq (by omega)
  have up : ∀ {p v : Int}, 0 ≤ p → 0 ≤ v ∧ v < S → 0 ≤ p * v ∧ p * v ≤ p * S := fun hp hv => ⟨Int.mul_nonneg hp hv.1, Int.mul_le_mul_of_nonneg_left (by omega) hp⟩
  have dn : ∀ {p v : Int}, p ≤ 0 → 0 ≤ v ∧ v < S → p * v ≤ 0 ∧ p * S ≤ p * v := @fun p v hp hv => ⟨Int.mul_nonpos_of_nonpos_of_nonneg hp hv.1, by
    have := Int.mul_le_mul_of_nonneg_left (show v ≤ S by omega) (show 0 ≤ -p by omega)
    rw [Int.neg_mul, Int.neg_mul] at this
    omega⟩
  rw [eC, eD]
  have k1 := mono t3
  have k2 := mono t4
  have k3 := mono t5
  have k4 := mono t6
  have k5 := mono (show y + s0 ≤ x + f0 by omega)
  have k6 := mono (show y + s1 ≤ x + f1 by omega)
  have k7 := mono (show (0 : Int) ≤ x + f0 from h.px0)
  have k8 := mono (show (0 : Int) ≤ x + f1 from h.px1)
  have k9 := mono (show (0 : Int) ≤ y + s0 from h.py0)
  have k10 := mono (show (0 : Int) ≤ y + s1 from h.py1)
  rw [Int.zero_mul] at k7 k8 k9 k10
  simp only [Int.add_mul, Int.sub_mul, Int.one_mul] at k1 k2 k3 k4 k5 k6 k7 k8 k9 k10 ⊢
  rcases h.sgn with ⟨d, a1, a2, a3, a4⟩ | ⟨d, a1, a2, a3, a4⟩
  · obtain ⟨c1, c2⟩ := up a1 ha
    obtain ⟨c3, c4⟩ := dn a2 hb
    obtain ⟨c5, c6⟩ := dn a3 ha
    obtain ⟨c7, c8⟩ := up a4 hb
    omega
  · obtain ⟨c1, c2⟩ := dn a1 ha
    obtain ⟨c3, c4⟩ := up a2 hb
    obtain ⟨c5, c6⟩ := up a3 ha
    obtain ⟨c7, c8⟩ := dn a4 hb
    omega

/-- The greatest divisor of both stays. -/
theorem gcd_unimodular {A B f0 f1 s0 s1 : Int} (hd : f0 * s1 - f1 * s0 = 1 ∨ f0 * s1 - f1 * s0 = -1) : Int.gcd (f0 * A + f1 * B) (s0 * A + s1 * B) = Int.gcd A B := by
  apply Nat.dvd_antisymm
  · have h1 : ((Int.gcd (f0 * A + f1 * B) (s0 * A + s1 * B) : Nat) : Int) ∣ f0 * A + f1 * B := Int.gcd_dvd_left ..
    have h2 : ((Int.gcd (f0 * A + f1 * B) (s0 * A + s1 * B) : Nat) : Int) ∣ s0 * A + s1 * B := Int.gcd_dvd_right ..
    have e1 : s1 * (f0 * A + f1 * B) - f1 * (s0 * A + s1 * B) = (f0 * s1 - f1 * s0) * A := by grind
    have e2 : f0 * (s0 * A + s1 * B) - s0 * (f0 * A + f1 * B) = (f0 * s1 - f1 * s0) * B := by grind
    have d1 := Int.dvd_sub (Int.dvd_trans h1 (Int.dvd_mul_left s1 _)) (Int.dvd_trans h2 (Int.dvd_mul_left f1 _))
    have d2 := Int.dvd_sub (Int.dvd_trans h2 (Int.dvd_mul_left f0 _)) (Int.dvd_trans h1 (Int.dvd_mul_left s0 _))
    rw [e1] at d1
    rw [e2] at d2
    have g1 : ((Int.gcd (f0 * A + f1 * B) (s0 * A + s1 * B) : Nat) : Int) ∣ A := by
      rcases hd with hd | hd <;> rw [hd] at d1
      · rwa [Int.one_mul] at d1
      · rw [Int.neg_mul, Int.one_mul] at d1; exact Int.dvd_neg.1 d1
    have g2 : ((Int.gcd (f0 * A + f1 * B) (s0 * A + s1 * B) : Nat) : Int) ∣ B := by
      rcases hd with hd | hd <;> rw [hd] at d2
      · rwa [Int.one_mul] at d2
      · rw [Int.neg_mul, Int.one_mul] at d2; exact Int.dvd_neg.1 d2
    exact Int.natCast_dvd_natCast.1 (Int.dvd_coe_gcd g1 g2)
  · have h1 : ((Int.gcd A B : Nat) : Int) ∣ A := Int.gcd_dvd_left ..
    have h2 : ((Int.gcd A B : Nat) : Int) ∣ B := Int.gcd_dvd_right ..
    refine Int.natCast_dvd_natCast.1 (Int.dvd_coe_gcd ?_ ?_)
    · exact Int.dvd_add (Int.dvd_trans h1 (Int.dvd_mul_left _ _)) (Int.dvd_trans h2 (Int.dvd_mul_left _ _))
    · exact Int.dvd_add (Int.dvd_trans h1 (Int.dvd_mul_left _ _)) (Int.dvd_trans h2 (Int.dvd_mul_left _ _))

end Go.Proofs.YtejlhefjphiahaaDoor
