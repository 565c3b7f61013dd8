/- Plain facts: the digits of a number, from the last one on. -/
import Derived.Test.YtgpoljbccimkjaaGreatDoorNearMath
import Derived.Lib.ItoaNum
import Derived.Lib.ItoaMem
namespace Go.Proofs.YtgpoljbccimkjaaGreatDoor
set_option linter.unusedSimpArgs false
set_option linter.unusedVariables false

/-- k digits of p, noughts ahead. -/
def padK : Nat → Nat → List UInt8
  | 0, _ => []
  | k + 1, p => padK k (p / 10) ++ [UInt8.ofNat (48 + p % 10)]
theorem padK_length (k p : Nat) : (padK k p).length = k := by
  induction k generalizing p with
  | zero => rfl
  | succ k ih => simp [padK, ih]

theorem decDigits_step {n : Nat} (h : 10 ≤ n) : Lib.decDigits n = Lib.decDigits (n / 10) ++ [UInt8.ofNat (48 + n % 10)] := by
  rw [Lib.decDigits, dif_neg (by omega)]

theorem decDigits_split (a k p : Nat) (ha : 0 < a) (hp : p < 10 ^ k) : Lib.decDigits (a * 10 ^ k + p) = Lib.decDigits a ++ padK k p := by
  induction k generalizing p with
  | zero =>
    have : p = 0 := by simpa using hp
    subst this
    simp [padK]
  | succ k ih =>
    have h1 : 10 ^ (k + 1) = 10 * 10 ^ k := by rw [Nat.pow_succ]; omega
    have h2 : 1 ≤ 10 ^ k := Nat.pow_pos (by decide)
    have h3 : a * 10 ^ (k + 1) = 10 * (a * 10 ^ k) := by rw [h1, Nat.mul_left_comm]
    have h4 : 1 * 1 ≤ a * 10 ^ k := Nat.mul_le_mul ha h2
    rw [decDigits_step (by omega), h3, show (10 * (a * 10 ^ k) + p) / 10 = a * 10 ^ k + p / 10 from by omega, show (10 * (a * 10 ^ k) + p) % 10 = p % 10 from by omega,
      ih (p / 10) (by omega), List.append_assoc]
    rfl

theorem decDigits_nine {p : Nat} (h : p < 1000000000) : (Lib.decDigits (1000000000 + p)).drop 1 = padK 9 p := by
  have := decDigits_split 1 9 p (by decide) (by simpa using h)
  have e : 1 * 10 ^ 9 + p = 1000000000 + p := by omega
  rw [e] at this
  rw [this, Lib.decDigits_one (by decide)]
  rfl

/-- A number's text. -/
def txt (s : Bool) (l : List Nat) : List UInt8 := if s then 45 :: Lib.decDigits (val l) else Lib.decDigits (val l)

/-- What stands there when k parts below the uppermost one are through. -/
def txtAt (s : Bool) (l : List Nat) (k : Nat) : List UInt8 := (if s then [45] else []) ++ Lib.decDigits (val (l.drop (l.length - 1 - k)))

theorem txtAt_zero {s : Bool} {l : List Nat} (hl : 0 < l.length) : txtAt s l 0 = (if s then [45] else []) ++ Lib.decDigits (pt l (l.length - 1)) := by
  unfold txtAt
  have h1 : l.length - 1 < l.length := by omega
  rw [Nat.sub_zero, List.drop_eq_getElem_cons h1, ← pt_getElem h1, List.drop_eq_nil_of_le (by omega)]
  simp [val]
theorem txtAt_succ {s : Bool} {l : List Nat} {k : Nat} (hk : k + 1 < l.length) (ht : Top l) (hs : ∀ x ∈ l, x < 1000000000) :
    txtAt s l (k + 1) = txtAt s l k ++ padK 9 (pt l (l.length - 1 - (k + 1))) := by
  unfold txtAt
  have h1 : l.length - 1 - (k + 1) < l.length := by omega
  have h2 : l.length - 1 - (k + 1) + 1 = l.length - 1 - k := by omega
  rw [List.drop_eq_getElem_cons h1, ← pt_getElem h1, h2, List.append_assoc]
  congr 1
  simp only [val]
  have hp : pt l (l.length - 1 - (k + 1)) < 1000000000 := pt_lt (by decide) hs _
  have hv : 0 < val (l.drop (l.length - 1 - k)) := by
    refine val_pos ?_ (fun e => ?_)
    · right
      rw [pt_drop, List.length_drop]
      rcases ht with rfl | ht
      · simp at hk
      · have : l.length - 1 - k + (l.length - (l.length - 1 - k) - 1) = l.length - 1 := by omega
        rw [this]; exact ht
    · have := congrArg List.length e
      rw [List.length_drop] at this
      simp at this
      omega
  have := decDigits_split (val (l.drop (l.length - 1 - k))) 9 (pt l (l.length - 1 - (k + 1))) hv (by simpa using hp)
  rw [← this]
  congr 1
  omega
theorem txtAt_all {s : Bool} {l : List Nat} (hl : 0 < l.length) : txtAt s l (l.length - 1) = txt s l := by
  unfold txtAt txt
  rw [Nat.sub_self, List.drop_zero]
  cases s <;> rfl
theorem txt_nil : txt false [] = [48] := by unfold txt; simp only [val]; rw [Lib.decDigits_one (by decide)]; rfl

theorem decDigits_len {n : Nat} (h : n < 10 ^ 20) : (Lib.decDigits n).length ≤ 20 := by
  have key : ∀ k n, n < 10 ^ k → (Lib.decDigits n).length ≤ max k 1 := by
    intro k
    induction k with
    | zero => intro n h; have : n = 0 := by simpa using h
              subst this; rw [Lib.decDigits_one (by decide)]; simp
    | succ k ih =>
      intro n h
      by_cases hn : n < 10
      · rw [Lib.decDigits_one hn]; simp
      · rw [decDigits_step (by omega), List.length_append]
        rw [Nat.pow_succ] at h
        have := ih (n / 10) (by omega)
        by_cases hk : k = 0
        · subst hk; simp at h; omega
        · simp; omega
  have := key 20 n h
  omega

end Go.Proofs.YtgpoljbccimkjaaGreatDoor

namespace Go.Proofs.YtgpoljbccimkjaaGreatDoor
set_option linter.unusedSimpArgs false
set_option linter.unusedVariables false

theorem padK_cons (k p : Nat) : padK (k + 1) p = UInt8.ofNat (48 + p / 10 ^ k % 10) :: padK k p := by
  induction k generalizing p with
  | zero => simp [padK]
  | succ k ih =>
    have h : padK (k + 1 + 1) p = padK (k + 1) (p / 10) ++ [UInt8.ofNat (48 + p % 10)] := rfl
    rw [h, ih (p / 10), Nat.div_div_eq_div_mul, ← Nat.pow_succ']
    rfl
theorem padK_mod (j p : Nat) : padK j (p % 10 ^ j) = padK j p := by
  induction j generalizing p with
  | zero => rfl
  | succ j ih =>
    have h : ∀ q, padK (j + 1) q = padK j (q / 10) ++ [UInt8.ofNat (48 + q % 10)] := fun _ => rfl
    rw [h, h, Nat.pow_succ', Nat.mod_mul_right_div_self, ih, Nat.mod_mod_of_dvd _ (Nat.dvd_mul_right _ _)]
theorem padK_dec {N j : Nat} (h0 : 0 < N / 10 ^ j) (h1 : N / 10 ^ j < 10) : padK (j + 1) N = Lib.decDigits N := by
  have h2 := decDigits_split (N / 10 ^ j) j (N % 10 ^ j) h0 (Nat.mod_lt _ (Nat.pow_pos (by decide)))
  have h3 : N / 10 ^ j * 10 ^ j + N % 10 ^ j = N := by rw [Nat.mul_comm]; exact Nat.div_add_mod _ _
  rw [h3] at h2
  rw [h2, padK_cons, padK_mod, Lib.decDigits_one h1, Nat.mod_eq_of_lt h1]
  rfl
theorem val_part {l : List Nat} (hs : ∀ x ∈ l, x < 1000000000) {i : Nat} (hi : i < l.length) : val l / 10 ^ (9 * i) = pt l i + 1000000000 * val (l.drop (i + 1)) := by
  have e : (10 : Nat) ^ (9 * i) = 1000000000 ^ i := by rw [Nat.pow_mul]
  have h1 := val_split l i (by omega)
  have h2 : val (l.take i) < 1000000000 ^ i := by
    have := val_lt (l := l.take i) (fun x hx => hs x (List.mem_of_mem_take hx))
    rwa [List.length_take, Nat.min_eq_left (by omega)] at this
  rw [e, h1, Nat.add_mul_div_left _ _ (Nat.pow_pos (by decide)), Nat.div_eq_of_lt h2, Nat.zero_add, List.drop_eq_getElem_cons hi, ← pt_getElem hi]
  simp only [val]
theorem val_digit {l : List Nat} (hs : ∀ x ∈ l, x < 1000000000) {i k : Nat} (hi : i < l.length) (hk : k < 9) : val l / 10 ^ (9 * i + k) % 10 = pt l i / 10 ^ k % 10 := by
  rw [Nat.pow_add, ← Nat.div_div_eq_div_mul, val_part hs hi]
  have e : (1000000000 : Nat) = 10 ^ k * (10 * 10 ^ (8 - k)) := by
    have h2 : (10 : Nat) * 10 ^ (8 - k) = 10 ^ (8 - k + 1) := by rw [Nat.pow_succ']
    rw [h2, ← Nat.pow_add, show k + (8 - k + 1) = 9 by omega]
  rw [e, Nat.mul_assoc, Nat.add_mul_div_left _ _ (Nat.pow_pos (by decide)), Nat.mul_assoc, Nat.add_mul_mod_self_left]
theorem val_last {l : List Nat} (hs : ∀ x ∈ l, x < 1000000000) {i k : Nat} (hi : i + 1 = l.length) : val l / 10 ^ (9 * i + k) = pt l i / 10 ^ k := by
  rw [Nat.pow_add, ← Nat.div_div_eq_div_mul, val_part hs (by omega), List.drop_eq_nil_of_le (by omega)]
  simp [val]

/-- What stands there when i parts are through, from the last one on. -/
def revT (l : List Nat) (i : Nat) : List UInt8 := if i < l.length then padK (9 * i) (val l) else if l.length = 0 then [] else Lib.decDigits (val l)
theorem revT_zero (l : List Nat) : revT l 0 = [] := by
  unfold revT
  split
  · rfl
  · rw [if_pos (by omega)]
theorem revT_next {l : List Nat} {i : Nat} (h : i + 1 < l.length) : padK (9 * i + 9) (val l) = revT l (i + 1) := by
  unfold revT
  rw [if_pos h, show 9 * (i + 1) = 9 * i + 9 by omega]
theorem revT_last {l : List Nat} (hs : ∀ x ∈ l, x < 1000000000) {i k : Nat} (hi : i + 1 = l.length) (h0 : pt l i / 10 ^ k = 0) (h1 : k = 0 ∨ 0 < pt l i / 10 ^ (k - 1)) (ht : pt l i ≠ 0) : padK (9 * i + k) (val l) = revT l (i + 1) := by
  unfold revT
  rw [if_neg (by omega), if_neg (by omega)]
  obtain ⟨j, rfl⟩ : ∃ j, k = j + 1 := by
    cases k with
    | zero => rw [Nat.pow_zero, Nat.div_one] at h0; exact absurd h0 ht
    | succ j => exact ⟨j, rfl⟩
  rw [Nat.add_sub_cancel] at h1
  have h2 : 0 < pt l i / 10 ^ j := by omega
  have h3 : pt l i / 10 ^ j < 10 := by
    rw [Nat.pow_succ, ← Nat.div_div_eq_div_mul] at h0
    omega
  have h4 : val l / 10 ^ (9 * i + j) = pt l i / 10 ^ j := val_last hs hi
  have h5 := padK_dec (N := val l) (j := 9 * i + j) (by rw [h4]; exact h2) (by rw [h4]; exact h3)
  exact h5
theorem revT_len {l : List Nat} (hs : ∀ x ∈ l, x < 1000000000) (ht : Top l) : ∀ i, i ≤ l.length → (revT l i).length ≤ 9 * i := by
  intro i hi
  unfold revT
  split
  · rw [padK_length]; omega
  · split
    · simp
    · rename_i h1 h2
      have e : i = (l.length - 1) + 1 := by omega
      have hp : pt l (l.length - 1) ≠ 0 := by
        rcases ht with rfl | h
        · simp at h2
        · exact h
      have hlt : pt l (l.length - 1) < 1000000000 := pt_lt (by decide) hs _
      have hv : val l < 10 ^ (9 * l.length) := by
        have := val_lt hs
        rwa [Nat.pow_mul]
      have key : ∀ k n, n < 10 ^ k → (Lib.decDigits n).length ≤ max k 1 := by
        intro k
        induction k with
        | zero => intro n h; have : n = 0 := by simpa using h
                  subst this; rw [Lib.decDigits_one (by decide)]; simp
        | succ k ih =>
          intro n h
          by_cases hn : n < 10
          · rw [Lib.decDigits_one hn]; simp
          · rw [decDigits_step (by omega), List.length_append]
            rw [Nat.pow_succ] at h
            have := ih (n / 10) (by omega)
            by_cases hk : k = 0
            · subst hk; simp at h; omega
            · simp; omega
      have := key _ _ hv
      omega
theorem dec_some (n : Nat) : Lib.decDigits n ≠ [] := by
  by_cases h : n < 10
  · rw [Lib.decDigits_one h]; simp
  · rw [decDigits_step (by omega)]; simp

end Go.Proofs.YtgpoljbccimkjaaGreatDoor
