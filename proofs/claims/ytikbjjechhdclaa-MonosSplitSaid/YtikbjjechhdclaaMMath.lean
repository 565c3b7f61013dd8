/- Products of letters as numbers: what the laws ask of them. -/
import Derived.Test.YtikbjjechhdclaaMSteps2
namespace Go.Proofs.Ytikbjjechhdclaa

theorem mul_fits {x y : M4} (h : fits x y) : mulM x y = ⟨x.a + y.a, x.b + y.b, x.c + y.c, x.d + y.d⟩ := if_pos h
theorem mul_no {x y : M4} (h : ¬ fits x y) : mulM x y = noM := if_neg h
theorem div_in {x y : M4} (h : inM y x) : divM x y = ⟨x.a - y.a, x.b - y.b, x.c - y.c, x.d - y.d⟩ := if_pos h
theorem div_no {x y : M4} (h : ¬ inM y x) : divM x y = noM := if_neg h
theorem err_ok {x y : M4} (h : fits x y) : errM x y = 0 := if_pos h
theorem err_no {x y : M4} (h : ¬ fits x y) : errM x y = 3 := if_neg h
theorem in_mul {x y : M4} (h : fits x y) : inM y (mulM x y) := by
  rw [mul_fits h]
  exact ⟨Nat.le_add_left _ _, Nat.le_add_left _ _, Nat.le_add_left _ _, Nat.le_add_left _ _⟩
theorem div_mul {x y : M4} (h : fits x y) : divM (mulM x y) y = x := by
  rw [div_in (in_mul h), mul_fits h]
  exact M4.ext' (Nat.add_sub_cancel ..) (Nat.add_sub_cancel ..) (Nat.add_sub_cancel ..) (Nat.add_sub_cancel ..)
theorem deg_mul {x y : M4} (h : fits x y) : degM (mulM x y) = degM x + degM y := by
  rw [mul_fits h]
  simp only [degM]
  omega
theorem fits_div {x y : M4} (hx : OkM x) (h : inM y x) : fits (divM x y) y := by
  rw [div_in h]
  obtain ⟨h1, h2, h3, h4⟩ := h
  obtain ⟨g1, g2, g3, g4⟩ := hx
  exact ⟨by show x.a - y.a + y.a ≤ _; omega, by show x.b - y.b + y.b ≤ _; omega, by show x.c - y.c + y.c ≤ _; omega, by show x.d - y.d + y.d ≤ _; omega⟩
theorem mul_div {x y : M4} (hx : OkM x) (h : inM y x) : mulM (divM x y) y = x := by
  rw [mul_fits (fits_div hx h), div_in h]
  obtain ⟨h1, h2, h3, h4⟩ := h
  exact M4.ext' (Nat.sub_add_cancel h1) (Nat.sub_add_cancel h2) (Nat.sub_add_cancel h3) (Nat.sub_add_cancel h4)
theorem lcm_of_in {x y : M4} (h : inM y x) : lcmM x y = x := by
  obtain ⟨h1, h2, h3, h4⟩ := h
  exact M4.ext' (Nat.max_eq_left h1) (Nat.max_eq_left h2) (Nat.max_eq_left h3) (Nat.max_eq_left h4)
theorem in_of_lcm {x y : M4} (h : lcmM x y = x) : inM y x := by
  have e : ∀ {p q : M4}, p = q → p.a = q.a ∧ p.b = q.b ∧ p.c = q.c ∧ p.d = q.d := by rintro p q rfl; exact ⟨rfl, rfl, rfl, rfl⟩
  obtain ⟨h1, h2, h3, h4⟩ := e h
  have h1 : max x.a y.a = x.a := h1
  have h2 : max x.b y.b = x.b := h2
  have h3 : max x.c y.c = x.c := h3
  have h4 : max x.d y.d = x.d := h4
  exact ⟨by omega, by omega, by omega, by omega⟩
theorem lcm_comm (x y : M4) : lcmM x y = lcmM y x := M4.ext' (Nat.max_comm ..) (Nat.max_comm ..) (Nat.max_comm ..) (Nat.max_comm ..)
theorem lcm_self (x : M4) : lcmM x x = x := M4.ext' (Nat.max_self _) (Nat.max_self _) (Nat.max_self _) (Nat.max_self _)
theorem in_lcm_left (x y : M4) : inM x (lcmM x y) := ⟨Nat.le_max_left .., Nat.le_max_left .., Nat.le_max_left .., Nat.le_max_left ..⟩
theorem in_lcm_right (x y : M4) : inM y (lcmM x y) := ⟨Nat.le_max_right .., Nat.le_max_right .., Nat.le_max_right .., Nat.le_max_right ..⟩
theorem lcm_in {x y z : M4} : inM (lcmM x y) z ↔ inM x z ∧ inM y z := by
  constructor
  · rintro ⟨h1, h2, h3, h4⟩
    have h1 : max x.a y.a ≤ z.a := h1
    have h2 : max x.b y.b ≤ z.b := h2
    have h3 : max x.c y.c ≤ z.c := h3
    have h4 : max x.d y.d ≤ z.d := h4
    exact ⟨⟨by omega, by omega, by omega, by omega⟩, by omega, by omega, by omega, by omega⟩
  · rintro ⟨⟨h1, h2, h3, h4⟩, g1, g2, g3, g4⟩
    exact ⟨Nat.max_le.2 ⟨h1, g1⟩, Nat.max_le.2 ⟨h2, g2⟩, Nat.max_le.2 ⟨h3, g3⟩, Nat.max_le.2 ⟨h4, g4⟩⟩

/-- What stands in both. -/
def gcdM (x y : M4) : M4 := ⟨min x.a y.a, min x.b y.b, min x.c y.c, min x.d y.d⟩
theorem lcm_in_mul {x y : M4} (h : fits x y) : inM (lcmM x y) (mulM x y) := by
  rw [mul_fits h]
  exact ⟨Nat.max_le.2 ⟨Nat.le_add_right .., Nat.le_add_left ..⟩, Nat.max_le.2 ⟨Nat.le_add_right .., Nat.le_add_left ..⟩, Nat.max_le.2 ⟨Nat.le_add_right .., Nat.le_add_left ..⟩, Nat.max_le.2 ⟨Nat.le_add_right .., Nat.le_add_left ..⟩⟩
theorem split_gcd {x y : M4} (h : fits x y) : divM (mulM x y) (lcmM x y) = gcdM x y := by
  rw [div_in (lcm_in_mul h), mul_fits h]
  exact M4.ext' (by show x.a + y.a - max x.a y.a = min x.a y.a; omega) (by show x.b + y.b - max x.b y.b = min x.b y.b; omega) (by show x.c + y.c - max x.c y.c = min x.c y.c; omega) (by show x.d + y.d - max x.d y.d = min x.d y.d; omega)
theorem OkM.gcd {x y : M4} (h : OkM x) : OkM (gcdM x y) := by
  obtain ⟨h1, h2, h3, h4⟩ := h
  exact ⟨by show min _ _ < _; omega, by show min _ _ < _; omega, by show min _ _ < _; omega, by show min _ _ < _; omega⟩
theorem gcd_in_left (x y : M4) : inM (gcdM x y) x := ⟨Nat.min_le_left .., Nat.min_le_left .., Nat.min_le_left .., Nat.min_le_left ..⟩
theorem gcd_in_right (x y : M4) : inM (gcdM x y) y := ⟨Nat.min_le_right .., Nat.min_le_right .., Nat.min_le_right .., Nat.min_le_right ..⟩
theorem in_gcd {x y z : M4} : inM z (gcdM x y) ↔ inM z x ∧ inM z y := by
  constructor
  · rintro ⟨h1, h2, h3, h4⟩
    have h1 : z.a ≤ min x.a y.a := h1
    have h2 : z.b ≤ min x.b y.b := h2
    have h3 : z.c ≤ min x.c y.c := h3
    have h4 : z.d ≤ min x.d y.d := h4
    exact ⟨⟨by omega, by omega, by omega, by omega⟩, by omega, by omega, by omega, by omega⟩
  · rintro ⟨⟨h1, h2, h3, h4⟩, g1, g2, g3, g4⟩
    exact ⟨Nat.le_min.2 ⟨h1, g1⟩, Nat.le_min.2 ⟨h2, g2⟩, Nat.le_min.2 ⟨h3, g3⟩, Nat.le_min.2 ⟨h4, g4⟩⟩
theorem deg_split {x y : M4} (h : fits x y) : degM (gcdM x y) + degM (lcmM x y) = degM (mulM x y) := by
  rw [deg_mul h]
  show min x.a y.a + min x.b y.b + min x.c y.c + min x.d y.d + (max x.a y.a + max x.b y.b + max x.c y.c + max x.d y.d) = x.a + x.b + x.c + x.d + (y.a + y.b + y.c + y.d)
  omega

/-! ### The keys -/
theorem key_mul {o : Int} {x y : M4} (h : fits x y) : keyM o (mulM x y) = keyM o x + keyM o y := by
  rw [mul_fits h]
  unfold keyM
  split
  · simp only [degM, keyL]; omega
  · split
    · simp only [degM, keyR]; omega
    · simp only [keyL]; omega
theorem key_no (o : Int) : keyM o noM = 0 := by
  have h1 : degM noM = 0 := rfl
  have h2 : keyL noM = 0 := rfl
  have h3 : keyR noM = 0 := rfl
  unfold keyM
  rw [h1, h2, h3]
  split
  · omega
  · split <;> omega
theorem low_digit {p q d e : Nat} (hd : d < 65536) (he : e < 65536) (h : p * 65536 + d = q * 65536 + e) : p = q ∧ d = e := by omega
theorem digits {a b c d a' b' c' d' : Nat} (hb : b < 65536) (hc : c < 65536) (hd : d < 65536) (hb' : b' < 65536) (hc' : c' < 65536) (hd' : d' < 65536) (h : ((a * 65536 + b) * 65536 + c) * 65536 + d = ((a' * 65536 + b') * 65536 + c') * 65536 + d') : a = a' ∧ b = b' ∧ c = c' ∧ d = d' := by
  obtain ⟨h1, h2⟩ := low_digit hd hd' h
  obtain ⟨h3, h4⟩ := low_digit hc hc' h1
  obtain ⟨h5, h6⟩ := low_digit hb hb' h3
  exact ⟨h5, h6, h4, h2⟩
theorem high_digit {p q d e : Nat} (hd : d < 18446744073709551616) (he : e < 18446744073709551616) (h : (p : Int) * 18446744073709551616 + d = q * 18446744073709551616 + e) : d = e := by omega
theorem high_less {p q d e : Nat} (hd : d < 18446744073709551616) (he : e < 18446744073709551616) (h : (p : Int) * 18446744073709551616 - d = q * 18446744073709551616 - e) : d = e := by omega
theorem key_nonneg {o : Int} {x : M4} (h : OkM x) : 0 ≤ keyM o x := by
  obtain ⟨h1, h2, h3, h4⟩ := h
  unfold keyM
  split
  · omega
  · split
    · simp only [degM, keyR]; omega
    · omega
theorem key_inj {o : Int} {x y : M4} (hx : OkM x) (hy : OkM y) (h : keyM o x = keyM o y) : x = y := by
  have l1 := keyL_lt hx
  have l2 := keyL_lt hy
  have l3 := keyR_lt hx
  have l4 := keyR_lt hy
  obtain ⟨h1, h2, h3, h4⟩ := hx
  obtain ⟨g1, g2, g3, g4⟩ := hy
  have kl : keyL x = keyL y → x = y := by
    intro e
    unfold keyL at e
    obtain ⟨e1, e2, e3, e4⟩ := digits h2 h3 h4 g2 g3 g4 e
    exact M4.ext' e1 e2 e3 e4
  have kr : keyR x = keyR y → x = y := by
    intro e
    unfold keyR at e
    obtain ⟨e1, e2, e3, e4⟩ := digits h3 h2 h1 g3 g2 g1 e
    exact M4.ext' e4 e3 e2 e1
  unfold keyM at h
  split at h
  · exact kl (high_digit l1 l2 h)
  · split at h
    · exact kr (high_less l3 l4 h)
    · exact kl (by omega)
theorem key_in {o : Int} {x y : M4} (hx : OkM x) (h : inM y x) : keyM o y ≤ keyM o x := by
  have h1 := key_mul (o := o) (fits_div hx h)
  rw [mul_div hx h] at h1
  have h2 := key_nonneg (o := o) (OkM.div hx y)
  omega
theorem sgn_neg' (z : Int) : sgn (-z) = -sgn z := by unfold sgn; split <;> split <;> (try split) <;> (try split) <;> omega
theorem sgn_swap (p q : Int) : sgn (q - p) = -sgn (p - q) := by rw [← sgn_neg']; congr 1; omega
theorem sgn_le (z : Int) : -1 ≤ sgn z ∧ sgn z ≤ 1 := by unfold sgn; split <;> (try split) <;> omega
theorem sgn_pos_iff {z : Int} : 0 < sgn z ↔ 0 < z := by unfold sgn; split <;> (try split) <;> omega
theorem sgn_zero_iff {z : Int} : sgn z = 0 ↔ z = 0 := by unfold sgn; split <;> (try split) <;> omega
theorem sgn_nonneg {z : Int} (h : 0 ≤ z) : 0 ≤ sgn z := by unfold sgn; split <;> (try split) <;> omega

end Go.Proofs.Ytikbjjechhdclaa
