/- Plain facts: two great numbers, and the two parts on top of them. -/
import Derived.Test.YtejlhefjphiahaaDoorFollowMath
import Derived.Test.YtejlhefjphiahaaDoorBlendMath
namespace Go.Proofs.YtejlhefjphiahaaDoor

theorem val_two {l : List Nat} {m : Nat} (h : l.length ≤ m + 2) : val l = (pt l (m + 1) * 1000000000 + pt l m) * 1000000000 ^ m + val (l.take m) := by
  have h1 := val_take_succ l m
  have h2 := val_take_succ l (m + 1)
  rw [List.take_of_length_le h, h1, Nat.pow_succ] at h2
  rw [h2]
  generalize 1000000000 ^ m = p
  generalize pt l m = y
  generalize pt l (m + 1) = x
  grind

theorem take_lt {l : List Nat} (h : ∀ x ∈ l, x < 1000000000) (m : Nat) : val (l.take m) < 1000000000 ^ m := by
  have h1 := val_lt (small_take h m)
  refine Nat.lt_of_lt_of_le h1 (Nat.pow_le_pow_right (by decide) ?_)
  rw [List.length_take]; omega

/-- A first row's number is in room, not at its edge. -/
theorem FInv.room {X Y x y f0 f1 s0 s1 : Int} (h : FInv X Y x y f0 f1 s0 s1) (hf : ¬(f0 = 1 ∧ f1 = 0)) {A B S a' b' : Int} (hA : A = X * S + a') (hB : B = Y * S + b') (ha : 0 ≤ a' ∧ a' < S) (hb : 0 ≤ b' ∧ b' < S) :
    f0 * A + f1 * B < (Y + 1) * S := by
  have hfar : x + f0 ≤ Y + 1 ∧ x + f1 ≤ Y + 1 := by
    rcases h.far with ⟨t1, t2, _⟩ | ⟨_, _, _, _, t5, t6⟩
    · exact absurd ⟨t1, t2⟩ hf
    · exact ⟨t5, t6⟩
  obtain ⟨t5, t6⟩ := hfar
  have eC : f0 * A + f1 * B = x * S + f0 * a' + f1 * b' := by have := h.ex; grind
  rw [eC]
  have k3 : (x + f0) * S ≤ (Y + 1) * S := Int.mul_le_mul_of_nonneg_right t5 (by omega)
  have k4 : (x + f1) * S ≤ (Y + 1) * S := Int.mul_le_mul_of_nonneg_right t6 (by omega)
  rw [Int.add_mul] at k3 k4
  rcases h.sgn with ⟨d, a1, a2, a3, a4⟩ | ⟨d, a1, a2, a3, a4⟩
  · have h1 : 1 ≤ f0 := by
      rcases Int.lt_or_le f0 1 with h0 | h0
      · have e : f0 = 0 := by omega
        subst e
        have := Int.mul_nonneg (show 0 ≤ -f1 by omega) (show 0 ≤ -s0 by omega)
        rw [Int.neg_mul_neg] at this
        omega
      · exact h0
    have g1 : f0 * a' ≤ f0 * (S - 1) := Int.mul_le_mul_of_nonneg_left (by omega) a1
    have g2 : f1 * b' ≤ 0 := Int.mul_nonpos_of_nonpos_of_nonneg a2 hb.1
    rw [Int.mul_sub, Int.mul_one] at g1
    omega
  · have h1 : 1 ≤ f1 := by
      rcases Int.lt_or_le f1 1 with h0 | h0
      · have e : f1 = 0 := by omega
        subst e
        have := Int.mul_nonneg (show 0 ≤ -f0 by omega) (show 0 ≤ -s1 by omega)
        rw [Int.neg_mul_neg] at this
        omega
      · exact h0
    have g1 : f1 * b' ≤ f1 * (S - 1) := Int.mul_le_mul_of_nonneg_left (by omega) a2
    have g2 : f0 * a' ≤ 0 := Int.mul_nonpos_of_nonpos_of_nonneg a1 ha.1
    rw [Int.mul_sub, Int.mul_one] at g1
    omega

theorem blend_fit {la lb : List Nat} {f g Z : Int} {n : Nat} (na : la.length ≤ n) (nb : lb.length ≤ n) (hZ : f * val la + g * val lb = Z) (h0 : 0 ≤ Z) (h1 : Z < ((1000000000 ^ n : Nat) : Int)) : (val (blendL la lb f g n) : Int) = Z := by
  have h2 := blend_val la lb f g n
  rw [List.take_of_length_le na, List.take_of_length_le nb, ← pow_cast, hZ] at h2
  have h3 := val_lt (blendL_small la lb f g n)
  rw [blendL_length] at h3
  have h4 := (carry_of h3 h2 h1 (by omega)).1 h0
  rw [h4] at h2
  omega

/-- What both rows are, behind many steps at once. -/
theorem near_rows {la lb : List Nat} {m X Y : Nat} {x y f0 f1 s0 s1 : Int} (na : la.length ≤ m + 2) (nb : lb.length ≤ m + 2) (sa : ∀ x ∈ la, x < 1000000000) (sb : ∀ x ∈ lb, x < 1000000000)
    (hX : X = pt la (m + 1) * 1000000000 + pt la m) (hY : Y = pt lb (m + 1) * 1000000000 + pt lb m) (h : FInv X Y x y f0 f1 s0 s1) (hf : ¬(f0 = 1 ∧ f1 = 0)) :
    val (blendL la lb s0 s1 (m + 2)) < val lb ∧ val (blendL la lb s0 s1 (m + 2)) ≤ val (blendL la lb f0 f1 (m + 2)) ∧ Nat.gcd (val (blendL la lb f0 f1 (m + 2))) (val (blendL la lb s0 s1 (m + 2))) = Nat.gcd (val la) (val lb) := by
  have ea := val_two na
  have eb := val_two nb
  rw [← hX] at ea
  rw [← hY] at eb
  have ta := take_lt sa m
  have tb := take_lt sb m
  have hYb : Y + 1 ≤ 1000000000000000000 := by
    have p1 := pt_lt (by decide) sb (m + 1)
    have p2 := pt_lt (by decide) sb m
    omega
  have hp : 1000000000 ^ (m + 2) = 1000000000000000000 * 1000000000 ^ m := by rw [Nat.pow_add, Nat.mul_comm]
  have hroom : (Y + 1) * 1000000000 ^ m ≤ 1000000000 ^ (m + 2) := by rw [hp]; exact Nat.mul_le_mul_right _ hYb
  generalize hS : 1000000000 ^ m = S at *
  generalize val (la.take m) = a' at *
  generalize val (lb.take m) = b' at *
  have eA : (val la : Int) = (X : Int) * (S : Int) + (a' : Int) := by rw [ea, Int.natCast_add, Int.natCast_mul]
  have eB : (val lb : Int) = (Y : Int) * (S : Int) + (b' : Int) := by rw [eb, Int.natCast_add, Int.natCast_mul]
  obtain ⟨c1, c2, c3, c4, c5⟩ := h.near hf eA eB ⟨by omega, by omega⟩ ⟨by omega, by omega⟩
  have c6 := h.room hf eA eB ⟨by omega, by omega⟩ ⟨by omega, by omega⟩
  have e9 : ((Y : Int) + 1) * (S : Int) = (((Y + 1) * S : Nat) : Int) := by rw [Int.natCast_mul, Int.natCast_add]; rfl
  rw [e9] at c6
  have r1 := blend_fit (la := la) (lb := lb) (f := f0) (g := f1) (n := m + 2) na nb rfl c1 (by omega)
  have r2 := blend_fit (la := la) (lb := lb) (f := s0) (g := s1) (n := m + 2) na nb rfl c3 (by omega)
  have hd : f0 * s1 - f1 * s0 = 1 ∨ f0 * s1 - f1 * s0 = -1 := by rcases h.sgn with ⟨d, _⟩ | ⟨d, _⟩ <;> simp [d]
  have hg := gcd_unimodular (A := (val la : Int)) (B := (val lb : Int)) hd
  rw [← r1, ← r2, Int.gcd_natCast_natCast, Int.gcd_natCast_natCast] at hg
  rw [← r1, ← r2] at c5
  rw [← r2] at c4
  exact ⟨by omega, by omega, hg⟩

theorem length_le_of_val {a b : List Nat} (hb : ∀ x ∈ b, x < 1000000000) (ta : Top a) (h : val a ≤ val b) : a.length ≤ b.length := by
  rcases Nat.lt_or_ge b.length a.length with h1 | h1
  · have := val_lt_of_length hb ta h1
    omega
  · exact h1

theorem val_le2 {l : List Nat} (h : l.length ≤ 2) : val l = ptI l 1 * 1000000000 + ptI l 0 := by
  have := val_two (m := 0) h
  have e1 : ptI l 1 = pt l 1 := ptI_nat l 1
  have e0 : ptI l 0 = pt l 0 := ptI_nat l 0
  rw [this, e1, e0, List.take_zero]
  simp [val]

end Go.Proofs.YtejlhefjphiahaaDoor
