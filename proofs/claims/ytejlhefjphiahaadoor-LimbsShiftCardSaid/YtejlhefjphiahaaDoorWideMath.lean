/- Plain facts: a number of 128 bits, divided by halves. -/
import Derived.Test.YtejlhefjphiahaaDoorVal
namespace Go.Proofs.YtejlhefjphiahaaDoor

/-- One digit of 32 bits: a guess that is too great is told by the lower half of the divisor. -/
theorem digit_down {Y u d a b q r : Nat} (hY : Y = a * 4294967296 + b) (hq : q * a + r = u) (ht : (u * 4294967296 + d) / Y ≤ q) (hu : u < Y) (hd : d < 4294967296)
    (h : 4294967296 ≤ q ∨ 4294967296 * r + d < q * b) : (u * 4294967296 + d) / Y ≤ q - 1 ∧ 1 ≤ q := by
  have hpos : 0 < Y := by omega
  have key : (u * 4294967296 + d) / Y < q := by
    rcases h with h | h
    · refine Nat.lt_of_lt_of_le ?_ h
      rw [Nat.div_lt_iff_lt_mul hpos]
      have : (u + 1) * 4294967296 ≤ Y * 4294967296 := Nat.mul_le_mul_right _ hu
      omega
    · rw [Nat.div_lt_iff_lt_mul hpos, hY, Nat.mul_add, ← hq, ← Nat.mul_assoc]
      omega
  exact ⟨Nat.le_sub_one_of_lt key, Nat.lt_of_le_of_lt (Nat.zero_le _) key⟩
theorem digit_back {u a q r : Nat} (hq : q * a + r = u) (h : 1 ≤ q) : (q - 1) * a + (r + a) = u := by
  obtain ⟨k, rfl⟩ : ∃ k, q = k + 1 := ⟨q - 1, by omega⟩
  rw [Nat.add_mul, Nat.one_mul] at hq
  rw [Nat.add_sub_cancel]
  omega
theorem digit_lt {Y u d : Nat} (hu : u < Y) (hd : d < 4294967296) : (u * 4294967296 + d) / Y < 4294967296 := by
  rw [Nat.div_lt_iff_lt_mul (by omega)]
  have : (u + 1) * 4294967296 ≤ Y * 4294967296 := Nat.mul_le_mul_right _ hu
  omega
theorem digit_stop {Y u d a b q r : Nat} (hY : Y = a * 4294967296 + b) (hq : q * a + r = u) (ht : (u * 4294967296 + d) / Y ≤ q) (hpos : 0 < Y) (h : q * b ≤ 4294967296 * r + d) : (u * 4294967296 + d) / Y = q := by
  refine Nat.le_antisymm ht ?_
  rw [Nat.le_div_iff_mul_le hpos, hY, Nat.mul_add, ← hq, ← Nat.mul_assoc]
  omega
theorem digit_break {Y u d a b q r : Nat} (hY : Y = a * 4294967296 + b) (hq : q * a + r = u) (ht : (u * 4294967296 + d) / Y ≤ q) (hpos : 0 < Y) (hb : b < 4294967296) (h1 : q ≤ 4294967296) (h2 : 4294967296 ≤ r) : (u * 4294967296 + d) / Y = q := by
  refine digit_stop hY hq ht hpos ?_
  have e1 : q * b ≤ 4294967296 * b := Nat.mul_le_mul_right _ h1
  have e2 : 4294967296 * b ≤ 4294967296 * r := Nat.mul_le_mul_left _ (by omega)
  omega
theorem digit_start {Y u d a b : Nat} (hY : Y = a * 4294967296 + b) (ha : 2147483648 ≤ a) (hu : u < Y) (hb : b < 4294967296) (hd : d < 4294967296) : u / a * a + u % a = u ∧ (u * 4294967296 + d) / Y ≤ u / a ∧ u / a ≤ 4294967297 := by
  have hpos : 0 < a := by omega
  refine ⟨by rw [Nat.mul_comm]; exact Nat.div_add_mod u a, ?_, ?_⟩
  · have h1 : (u * 4294967296 + d) / Y ≤ (u * 4294967296 + d) / (a * 4294967296) := Nat.div_le_div_left (by omega) (by omega)
    refine Nat.le_trans h1 ?_
    rw [Nat.mul_comm a, ← Nat.div_div_eq_div_mul]
    refine Nat.div_le_div_right ?_
    omega
  · have : u / a < 4294967298 := by
      rw [Nat.div_lt_iff_lt_mul hpos]
      omega
    omega

theorem shl_split (lo s : Nat) (hs : s ≤ 64) : lo * 2 ^ s = lo / 2 ^ (64 - s) * 18446744073709551616 + lo * 2 ^ s % 18446744073709551616 := by
  have h1 : lo * 2 ^ s / 18446744073709551616 = lo / 2 ^ (64 - s) := by
    have : (18446744073709551616 : Nat) = 2 ^ (64 - s) * 2 ^ s := by rw [← Nat.pow_add, Nat.sub_add_cancel hs]
    rw [this, Nat.mul_div_mul_right _ _ (Nat.pow_pos (by decide))]
  have h2 := Nat.div_add_mod (lo * 2 ^ s) 18446744073709551616
  rw [h1] at h2
  omega

theorem two_digits (A u0 : Nat) {Y : Nat} (hY : 0 < Y) : A / Y * 4294967296 + (A % Y * 4294967296 + u0) / Y = (A * 4294967296 + u0) / Y := by
  have h := Nat.div_add_mod A Y
  have e : A * 4294967296 + u0 = (A % Y * 4294967296 + u0) + Y * (A / Y * 4294967296) := by
    conv => lhs; rw [← h]
    rw [Nat.add_mul, Nat.mul_assoc]
    omega
  rw [e, Nat.add_mul_div_left _ _ hY]
  exact Nat.add_comm _ _

/-- The two digits together. -/
theorem wide_quot {hi lo y s Y u c u1 u0 : Nat} (hy : 0 < y) (hs : s ≤ 64) (hY : Y = y * 2 ^ s) (hu : u = hi * 2 ^ s + lo / 2 ^ (64 - s)) (hc : c = lo * 2 ^ s % 18446744073709551616)
    (h1 : u1 = c / 4294967296) (h0 : u0 = c % 4294967296) :
    (u * 4294967296 + u1) / Y * 4294967296 + ((u * 4294967296 + u1) % Y * 4294967296 + u0) / Y = (hi * 18446744073709551616 + lo) / y := by
  have hp : 0 < 2 ^ s := Nat.pow_pos (by decide)
  have hYp : 0 < Y := by rw [hY]; exact Nat.mul_pos hy hp
  have e1 : (hi * 18446744073709551616 + lo) * 2 ^ s = (u * 4294967296 + u1) * 4294967296 + u0 := by
    have := shl_split lo s hs
    rw [← hc] at this
    rw [Nat.add_mul, this, hu, h1, h0]
    have h2 := Nat.div_add_mod c 4294967296
    generalize 2 ^ s = p at *
    generalize lo / 2 ^ (64 - s) = x at *
    rw [Nat.mul_right_comm hi]
    generalize hi * p = z at *
    omega
  have e2 : (hi * 18446744073709551616 + lo) / y = ((u * 4294967296 + u1) * 4294967296 + u0) / Y := by
    rw [← Nat.mul_div_mul_right (hi * 18446744073709551616 + lo) y hp, e1, hY]
  rw [e2]
  exact two_digits _ _ hYp
theorem wide_rem {A Y t : Nat} (ht : t = A / Y) : A - t * Y = A % Y := by
  have := Nat.div_add_mod A Y
  rw [Nat.mul_comm] at this
  subst ht
  generalize A / Y * Y = z at *
  omega

end Go.Proofs.YtejlhefjphiahaaDoor
