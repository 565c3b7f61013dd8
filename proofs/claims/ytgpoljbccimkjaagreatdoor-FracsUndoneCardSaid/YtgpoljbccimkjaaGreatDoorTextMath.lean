/- Plain facts: the digits of a number, nine at a time. -/
import Derived.Test.YtgpoljbccimkjaaGreatDoorNearMath
import Derived.Lib.ItoaNum
import Derived.Lib.ItoaMem
namespace Go.Proofs.YtgpoljbccimkjaaGreatDoor
set_option linter.unusedSimpArgs false
set_option linter.unusedVariables false

/-- k digits of p, noughts ahead. -/
def padK : Nat → Nat → List UInt8
  | 0, _ => []
  | k + 1, p => padK k (p / 10) ++ [UInt8.ofNat (48 + p % 10)]
theorem padK_length (k p : Nat) : (padK k p).length = k := by
  induction k generalizing p with
  | zero => rfl
  | succ k ih => simp [padK, ih]

theorem decDigits_step {n : Nat} (h : 10 ≤ n) : Lib.decDigits n = Lib.decDigits (n / 10) ++ [UInt8.ofNat (48 + n % 10)] := by
  rw [Lib.decDigits, dif_neg (by omega)]

theorem decDigits_split (a k p : Nat) (ha : 0 < a) (hp : p < 10 ^ k) : Lib.decDigits (a * 10 ^ k + p) = Lib.decDigits a ++ padK k p := by
  induction k generalizing p with
  | zero =>
    have : p = 0 := by simpa using hp
    subst this
    simp [padK]
  | succ k ih =>
    have h1 : 10 ^ (k + 1) = 10 * 10 ^ k := by rw [Nat.pow_succ]; omega
    have h2 : 1 ≤ 10 ^ k := Nat.pow_pos (by decide)
    have h3 : a * 10 ^ (k + 1) = 10 * (a * 10 ^ k) := by rw [h1, Nat.mul_left_comm]
    have h4 : 1 * 1 ≤ a * 10 ^ k := Nat.mul_le_mul ha h2
    rw [decDigits_step (by omega), h3, show (10 * (a * 10 ^ k) + p) / 10 = a * 10 ^ k + p / 10 from by omega, show (10 * (a * 10 ^ k) + p) % 10 = p % 10 from by omega,
      ih (p / 10) (by omega), List.append_assoc]
    rfl

theorem decDigits_nine {p : Nat} (h : p < 1000000000) : (Lib.decDigits (1000000000 + p)).drop 1 = padK 9 p := by
  have := decDigits_split 1 9 p (by decide) (by simpa using h)
  have e : 1 * 10 ^ 9 + p = 1000000000 + p := by omega
  rw [e] at this
  rw [this, Lib.decDigits_one (by decide)]
  rfl

/-- A number's text. -/
def txt (s : Bool) (l : List Nat) : List UInt8 := if s then 45 :: Lib.decDigits (val l) else Lib.decDigits (val l)

/-- What stands there when k parts below the uppermost one are through. -/
def txtAt (s : Bool) (l : List Nat) (k : Nat) : List UInt8 := (if s then [45] else []) ++ Lib.decDigits (val (l.drop (l.length - 1 - k)))

theorem txtAt_zero {s : Bool} {l : List Nat} (hl : 0 < l.length) : txtAt s l 0 = (if s then [45] else []) ++ Lib.decDigits (pt l (l.length - 1)) := by
  unfold txtAt
  have h1 : l.length - 1 < l.length := by omega
  rw [Nat.sub_zero, List.drop_eq_getElem_cons h1, ← pt_getElem h1, List.drop_eq_nil_of_le (by omega)]
  simp [val]
theorem txtAt_succ {s : Bool} {l : List Nat} {k : Nat} (hk : k + 1 < l.length) (ht : Top l) (hs : ∀ x ∈ l, x < 1000000000) :
    txtAt s l (k + 1) = txtAt s l k ++ padK 9 (pt l (l.length - 1 - (k + 1))) := by
  unfold txtAt
  have h1 : l.length - 1 - (k + 1) < l.length := by omega
  have h2 : l.length - 1 - (k + 1) + 1 = l.length - 1 - k := by omega
  rw [List.drop_eq_getElem_cons h1, ← pt_getElem h1, h2, List.append_assoc]
  congr 1
  simp only [val]
  have hp : pt l (l.length - 1 - (k + 1)) < 1000000000 := pt_lt (by decide) hs _
  have hv : 0 < val (l.drop (l.length - 1 - k)) := by
    refine val_pos ?_ (fun e => ?_)
    · right
      rw [pt_drop, List.length_drop]
      rcases ht with rfl | ht
      · simp at hk
      · have : l.length - 1 - k + (l.length - (l.length - 1 - k) - 1) = l.length - 1 := by omega
        rw [this]; exact ht
    · have := congrArg List.length e
      rw [List.length_drop] at this
      simp at this
      omega
  have := decDigits_split (val (l.drop (l.length - 1 - k))) 9 (pt l (l.length - 1 - (k + 1))) hv (by simpa using hp)
  rw [← this]
  congr 1
  omega
theorem txtAt_all {s : Bool} {l : List Nat} (hl : 0 < l.length) : txtAt s l (l.length - 1) = txt s l := by
  unfold txtAt txt
  rw [Nat.sub_self, List.drop_zero]
  cases s <;> rfl
theorem txt_nil : txt false [] = [48] := by unfold txt; simp only [val]; rw [Lib.decDigits_one (by decide)]; rfl

theorem decDigits_len {n : Nat} (h : n < 10 ^ 20) : (Lib.decDigits n).length ≤ 20 := by
  have key : ∀ k n, n < 10 ^ k → (Lib.decDigits n).length ≤ max k 1 := by
    intro k
    induction k with
    | zero => intro n h; have : n = 0 := by simpa using h
              subst this; rw [Lib.decDigits_one (by decide)]; simp
    | succ k ih =>
      intro n h
      by_cases hn : n < 10
      · rw [Lib.decDigits_one hn]; simp
      · rw [decDigits_step (by omega), List.length_append]
        rw [Nat.pow_succ] at h
        have := ih (n / 10) (by omega)
        by_cases hk : k = 0
        · subst hk; simp at h; omega
        · simp; omega
  have := key 20 n h
  omega

end Go.Proofs.YtgpoljbccimkjaaGreatDoor
