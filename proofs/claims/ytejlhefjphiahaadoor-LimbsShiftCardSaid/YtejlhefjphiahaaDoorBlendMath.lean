/- Plain facts: so often one amount and so often another one, part by part, with what is carried. -/
import Derived.Test.YtejlhefjphiahaaDoorVal
namespace Go.Proofs.YtejlhefjphiahaaDoor

/-- What comes together at one place. -/
def sumAt (f g : Int) (x y : Nat) (c : Int) : Int := f * x + g * y + c
/-- What is carried, and what stays. -/
def cr (f g : Int) (x y : Nat) (c : Int) : Int := sumAt f g x y c / 1000000000
def dg (f g : Int) (x y : Nat) (c : Int) : Nat := (sumAt f g x y c % 1000000000).toNat

theorem dg_lt (f g : Int) (x y : Nat) (c : Int) : dg f g x y c < 1000000000 := by
  unfold dg
  have h1 := Int.emod_lt_of_pos (sumAt f g x y c) (show (0 : Int) < 1000000000 by decide)
  have h2 := Int.emod_nonneg (sumAt f g x y c) (show (1000000000 : Int) ≠ 0 by decide)
  omega
theorem dg_eq (f g : Int) (x y : Nat) (c : Int) : (dg f g x y c : Int) + 1000000000 * cr f g x y c = sumAt f g x y c := by
  unfold dg cr
  have h1 := Int.emod_nonneg (sumAt f g x y c) (show (1000000000 : Int) ≠ 0 by decide)
  have h2 := Int.emod_add_mul_ediv (sumAt f g x y c) 1000000000
  rw [Int.toNat_of_nonneg h1]
  exact h2

theorem mul_bound {f : Int} {x : Nat} (hf : -1000000000 ≤ f) (hf2 : f ≤ 1000000000) (hx : x < 1000000000) : -999999999000000000 ≤ f * x ∧ f * x ≤ 999999999000000000 := by
  have h1 : f * x ≤ 1000000000 * (x : Int) := Int.mul_le_mul_of_nonneg_right hf2 (by omega)
  have h2 : -1000000000 * (x : Int) ≤ f * x := Int.mul_le_mul_of_nonneg_right hf (by omega)
  omega

/-- All that a carry needs. -/
def Small (f : Int) : Prop := -1000000000 ≤ f ∧ f ≤ 1000000000

theorem cr_bound {f g : Int} {x y : Nat} {c : Int} (hf : Small f) (hg : Small g) (hx : x < 1000000000) (hy : y < 1000000000) (hc : -2000000000 ≤ c) (hc2 : c ≤ 2000000000) :
    -2000000000 ≤ cr f g x y c ∧ cr f g x y c ≤ 2000000000 := by
  have h1 := mul_bound hf.1 hf.2 hx
  have h2 := mul_bound hg.1 hg.2 hy
  have h3 := dg_eq f g x y c
  have h4 := dg_lt f g x y c
  unfold sumAt at h3
  omega

def carryL (la lb : List Nat) (f g : Int) : Nat → Int
  | 0 => 0
  | k + 1 => cr f g (pt la k) (pt lb k) (carryL la lb f g k)
def digitL (la lb : List Nat) (f g : Int) (k : Nat) : Nat := dg f g (pt la k) (pt lb k) (carryL la lb f g k)
def blendL (la lb : List Nat) (f g : Int) (n : Nat) : List Nat := (List.range n).map (digitL la lb f g)

theorem blendL_length (la lb : List Nat) (f g : Int) (n : Nat) : (blendL la lb f g n).length = n := by simp [blendL]
theorem blendL_succ (la lb : List Nat) (f g : Int) (n : Nat) : blendL la lb f g (n + 1) = blendL la lb f g n ++ [digitL la lb f g n] := by simp [blendL, List.range_succ]
theorem blendL_small (la lb : List Nat) (f g : Int) (n : Nat) : ∀ x ∈ blendL la lb f g n, x < 1000000000 := by
  intro x hx
  simp only [blendL, List.mem_map] at hx
  obtain ⟨k, _, rfl⟩ := hx
  exact dg_lt _ _ _ _ _
theorem blendL_pt (la lb : List Nat) (f g : Int) {n k : Nat} (h : k < n) : pt (blendL la lb f g n) k = digitL la lb f g k := by
  rw [pt_getElem (by rw [blendL_length]; exact h)]
  simp [blendL]
theorem carryL_bound {la lb : List Nat} {f g : Int} (hf : Small f) (hg : Small g) (ha : ∀ x ∈ la, x < 1000000000) (hb : ∀ x ∈ lb, x < 1000000000) (k : Nat) :
    -2000000000 ≤ carryL la lb f g k ∧ carryL la lb f g k ≤ 2000000000 := by
  induction k with
  | zero => exact ⟨by simp [carryL], by simp [carryL]⟩
  | succ k ih => exact cr_bound hf hg (pt_lt (by decide) ha k) (pt_lt (by decide) hb k) ih.1 ih.2

theorem val_take_succ (l : List Nat) (k : Nat) : val (l.take (k + 1)) = val (l.take k) + 1000000000 ^ k * pt l k := by
  by_cases h : k < l.length
  · rw [take_succ_pt h, val_snoc, List.length_take, Nat.min_eq_left (by omega)]
  · rw [List.take_of_length_le (by omega), List.take_of_length_le (by omega), pt_ge (by omega)]; simp

/-- What they come to: the parts, and what is carried beyond them. -/
theorem blend_val (la lb : List Nat) (f g : Int) (n : Nat) :
    (val (blendL la lb f g n) : Int) + 1000000000 ^ n * carryL la lb f g n = f * val (la.take n) + g * val (lb.take n) := by
  induction n with
  | zero => simp [blendL, carryL, val]
  | succ n ih =>
    rw [blendL_succ, val_snoc, blendL_length, val_take_succ, val_take_succ]
    have h := dg_eq f g (pt la n) (pt lb n) (carryL la lb f g n)
    simp only [carryL, digitL]
    unfold sumAt at h
    generalize cr f g (pt la n) (pt lb n) (carryL la lb f g n) = c' at *
    generalize dg f g (pt la n) (pt lb n) (carryL la lb f g n) = d at *
    generalize carryL la lb f g n = c at *
    generalize pt la n = x at *
    generalize pt lb n = y at *
    generalize val (blendL la lb f g n) = v at *
    generalize val (la.take n) = va at *
    generalize val (lb.take n) = vb at *
    simp only [Int.pow_succ, Int.natCast_add, Int.natCast_mul, Int.natCast_pow]
    have e9 : ((1000000000 : Nat) : Int) = 1000000000 := rfl
    rw [e9]
    generalize (1000000000 : Int) ^ n = p at *
    grind

theorem carry_of {v p : Nat} {c Z : Int} (hv : v < p) (h : (v : Int) + (p : Int) * c = Z) (h1 : Z < p) (h2 : -(p : Int) < Z) : (0 ≤ Z → c = 0) ∧ (Z < 0 → c = -1) := by
  have k1 : ¬ 1 ≤ c := fun hc => by
    have := Int.mul_le_mul_of_nonneg_left hc (show (0 : Int) ≤ p by omega)
    omega
  have k2 : ¬ c ≤ -2 := fun hc => by
    have := Int.mul_le_mul_of_nonneg_left hc (show (0 : Int) ≤ p by omega)
    omega
  refine ⟨fun hz => ?_, fun hz => ?_⟩
  · by_cases h0 : c = 0
    · exact h0
    · have : c = -1 := by omega
      subst this; omega
  · by_cases h0 : c = -1
    · exact h0
    · have : c = 0 := by omega
      subst this; omega

theorem pow_cast (n : Nat) : ((1000000000 ^ n : Nat) : Int) = 1000000000 ^ n := by rw [Int.natCast_pow]; rfl

/-- The sum of two amounts with signs: what is carried tells whether it is below 0; then what lacks is its amount. -/
theorem sum_parts {la lb : List Nat} {f g : Int} {n : Nat} (hf : f = 1 ∨ f = -1) (hg : g = 1 ∨ g = -1) (ha : ∀ x ∈ la, x < 1000000000) (hb : ∀ x ∈ lb, x < 1000000000) (na : la.length < n) (nb : lb.length < n) :
    (0 ≤ f * val la + g * val lb → carryL la lb f g n = 0 ∧ (val (blendL la lb f g n) : Int) = f * val la + g * val lb) ∧
    (f * val la + g * val lb < 0 → carryL la lb f g n = -1 ∧ (val (blendL (blendL la lb f g n) [] (-1) 0 n) : Int) = -(f * val la + g * val lb)) := by
  have h1 := blend_val la lb f g n
  rw [List.take_of_length_le (by omega), List.take_of_length_le (by omega)] at h1
  have h2 := val_lt (blendL_small la lb f g n)
  rw [blendL_length] at h2
  have hA : val la < 1000000000 ^ (n - 1) := Nat.lt_of_lt_of_le (val_lt ha) (Nat.pow_le_pow_right (by decide) (by omega))
  have hB : val lb < 1000000000 ^ (n - 1) := Nat.lt_of_lt_of_le (val_lt hb) (Nat.pow_le_pow_right (by decide) (by omega))
  have hp : 1000000000 ^ n = 1000000000 * 1000000000 ^ (n - 1) := by
    have : n = (n - 1) + 1 := by omega
    conv => lhs; rw [this]
    rw [Nat.pow_succ]; omega
  have h3 := blend_val (blendL la lb f g n) [] (-1) 0 n
  rw [List.take_of_length_le (by rw [blendL_length]; omega)] at h3
  have h4 := val_lt (blendL_small (blendL la lb f g n) [] (-1) 0 n)
  rw [blendL_length] at h4
  simp only [List.take_nil, val] at h3
  rw [← pow_cast] at h1 h3
  have hZ1 : f * val la + g * val lb < (1000000000 ^ n : Nat) := by rcases hf with rfl | rfl <;> rcases hg with rfl | rfl <;> omega
  have hZ2 : -((1000000000 ^ n : Nat) : Int) < f * val la + g * val lb := by rcases hf with rfl | rfl <;> rcases hg with rfl | rfl <;> omega
  generalize f * val la + g * val lb = Z at *
  generalize val (blendL la lb f g n) = v at *
  generalize val (blendL (blendL la lb f g n) [] (-1) 0 n) = v2 at *
  generalize carryL (blendL la lb f g n) [] (-1) 0 n = c2 at *
  generalize carryL la lb f g n = c at *
  generalize 1000000000 ^ n = p at *
  have k := carry_of h2 h1 hZ1 hZ2
  refine ⟨fun hz => ⟨k.1 hz, ?_⟩, fun hz => ⟨k.2 hz, ?_⟩⟩
  · rw [k.1 hz] at h1; omega
  · have e := k.2 hz
    subst e
    have hv : 0 < v := by omega
    have h5 : (v2 : Int) + (p : Int) * c2 = -(v : Int) := by rw [h3]; omega
    have k2 := carry_of (Z := -(v : Int)) h4 h5 (by omega) (by omega)
    have e2 := k2.2 (by omega)
    subst e2
    omega

end Go.Proofs.YtejlhefjphiahaaDoor
