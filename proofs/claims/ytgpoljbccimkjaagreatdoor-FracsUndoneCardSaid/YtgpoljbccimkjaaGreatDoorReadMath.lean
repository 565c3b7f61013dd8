/- Plain facts: texts of numbers, read. -/
import Derived.Test.YtgpoljbccimkjaaGreatDoorParse
import Derived.Test.YtgpoljbccimkjaaGreatDoorNum
namespace Go.Proofs.YtgpoljbccimkjaaGreatDoor
set_option linter.unusedSimpArgs false
set_option linter.unusedVariables false
open Go.RowKit Go.Shelf

theorem below_cons (D : List UInt8) : belowB (45 :: D) = true ∧ digitsOf (45 :: D) = D := by
  constructor
  · simp [belowB, Lib.hasPrefix]
  · simp [digitsOf, Lib.trimPrefix, Lib.hasPrefix]
theorem below_split {l : List UInt8} (h : belowB l = true) : ∃ D, l = 45 :: D ∧ digitsOf l = D := by
  cases l with
  | nil => simp [belowB, Lib.hasPrefix] at h
  | cons c D =>
    have hc : c = 45 := by
      simp [belowB, Lib.hasPrefix] at h
      exact h.symm
    subst hc
    exact ⟨D, rfl, (below_cons D).2⟩
theorem above_same {l : List UInt8} (h : belowB l = false) : digitsOf l = l := by
  unfold digitsOf Lib.trimPrefix
  unfold belowB at h
  rw [h]
  simp
theorem above_of_head {l : List UInt8} (h : pb l 0 ≠ 45) : belowB l = false := by
  cases hb : belowB l
  · rfl
  · obtain ⟨D, rfl, -⟩ := below_split hb
    exact absurd rfl h

theorem head_digits {n : Nat} : 48 ≤ pb (Lib.decDigits n) 0 := by
  rcases Nat.eq_zero_or_pos n with rfl | h
  · rw [Lib.decDigits_one (by decide)]; decide
  · exact Nat.le_of_lt (decDigits_head h)
theorem dec48 : dec [48] = 0 := by decide

theorem txt_above (L : List Nat) : belowB (txt false L) = false ∧ digitsOf (txt false L) = Lib.decDigits (val L) := by
  have h : txt false L = Lib.decDigits (val L) := by unfold txt; rfl
  rw [h]
  have hb := above_of_head (l := Lib.decDigits (val L)) (by have := head_digits (n := val L); omega)
  exact ⟨hb, above_same hb⟩
theorem txt_below (L : List Nat) : belowB (txt true L) = true ∧ digitsOf (txt true L) = Lib.decDigits (val L) := below_cons _

theorem txt_form {s : Bool} {L : List Nat} (ho : okB s L = true) : formB (txt s L) = false ∧ digitsOf (txt s L) = Lib.decDigits (val L) ∧ belowB (txt s L) = s := by
  unfold formB
  cases s with
  | false =>
    obtain ⟨h1, h2⟩ := txt_above L
    rw [h1, h2, plainB_decDigits]
    exact ⟨rfl, rfl, rfl⟩
  | true =>
    obtain ⟨h1, h2⟩ := txt_below L
    rw [h1, h2, plainB_decDigits]
    refine ⟨?_, rfl, rfl⟩
    obtain ⟨k1, k2, k3⟩ := okB_iff.1 ho
    have hne : L ≠ [] := fun e => by have := k3 e; cases this
    have hp := val_pos k2 hne
    have hd : Lib.decDigits (val L) ≠ [48] := fun e => by
      have := dec_decDigits (val L)
      rw [e, dec48] at this
      omega
    simpa using hd

/-- A number's text is read as it, if its digits are not too many. -/
theorem txt_read {s : Bool} {L : List Nat} (ho : okB s L = true) : ((Lib.decDigits (val L)).length ≤ 200 → parseE (txt s L) = 0 ∧ parseZ (txt s L) = valS s L) ∧ (200 < (Lib.decDigits (val L)).length → parseE (txt s L) = 3) := by
  obtain ⟨h1, h2, h3⟩ := txt_form ho
  refine ⟨fun h => ?_, fun h => parseE_long h1 (by rw [h2]; exact h)⟩
  have hE := parseE_ok h1 (by rw [h2]; exact h)
  refine ⟨hE, ?_⟩
  unfold parseZ
  rw [if_pos hE, h2, h3, dec_decDigits]
  cases s <;> rfl
theorem txt_length (s : Bool) (L : List Nat) : (txt s L).length = (Lib.decDigits (val L)).length + (if s then 1 else 0) := by unfold txt; cases s <;> simp

theorem parse_plain {l : List UInt8} (hE : parseE l = 0) : plainB (digitsOf l) = true ∧ ¬ (belowB l = true ∧ digitsOf l = [48]) ∧ (digitsOf l).length ≤ 200 := by
  unfold parseE at hE
  split at hE
  · omega
  · next h =>
    split at hE
    · omega
    · next h2 =>
      refine ⟨?_, fun h3 => h (.inr h3), by omega⟩
      cases hp : plainB (digitsOf l)
      · exact absurd (.inl hp) h
      · rfl
theorem plain_pos {l : List UInt8} (h : plainB l = true) (h0 : l ≠ [48]) : 0 < dec l := by
  have h2 := decDigits_dec h
  rcases Nat.eq_zero_or_pos (dec l) with h1 | h1
  · rw [h1, Lib.decDigits_one (by decide)] at h2
    exact absurd h2.symm h0
  · exact h1

/-- A text that is read is the number's. -/
theorem read_txt {l : List UInt8} {s : Bool} {L : List Nat} (hE : parseE l = 0) (ho : okB s L = true) (hz : valS s L = parseZ l) : txt s L = l := by
  obtain ⟨h1, h2, -⟩ := parse_plain hE
  unfold parseZ at hz
  rw [if_pos hE] at hz
  cases hb : belowB l with
  | true =>
    obtain ⟨D, rfl, hD⟩ := below_split hb
    rw [hD] at h1 h2 hz
    rw [hb] at hz h2
    have hp := plain_pos h1 (fun e => h2 ⟨rfl, e⟩)
    have hs : s = true := by
      cases s with
      | true => rfl
      | false => unfold valS at hz; simp at hz; omega
    subst hs
    have hv : val L = dec D := by unfold valS at hz; simp at hz; omega
    unfold txt
    rw [if_pos rfl, hv, decDigits_dec h1]
  | false =>
    rw [above_same hb] at h1 hz
    rw [hb] at hz
    have hs : s = false := by
      cases s with
      | false => rfl
      | true =>
        obtain ⟨k1, k2, k3⟩ := okB_iff.1 ho
        have hne : L ≠ [] := fun e => by have := k3 e; cases this
        have := val_pos k2 hne
        unfold valS at hz; simp at hz; omega
    subst hs
    have hv : val L = dec l := by unfold valS at hz; simp at hz; omega
    unfold txt
    rw [hv, decDigits_dec h1]
    rfl

/-- A hyphen more turns it. -/
theorem read_turn {l : List UInt8} (hE : parseE l = 0) : (0 < parseZ l → parseE (45 :: l) = 0 ∧ parseZ (45 :: l) = -parseZ l) ∧ (parseZ l ≤ 0 → parseE (45 :: l) = 4) := by
  obtain ⟨h1, h2, h3⟩ := parse_plain hE
  obtain ⟨c1, c2⟩ := below_cons l
  have hz : parseZ l = if belowB l then -(dec (digitsOf l) : Int) else dec (digitsOf l) := by unfold parseZ; rw [if_pos hE]
  cases hb : belowB l with
  | true =>
    rw [hb] at hz
    refine ⟨fun h => absurd h (by rw [hz]; have := Int.natCast_nonneg (dec (digitsOf l)); rw [if_pos rfl]; omega), fun _ => parseE_form ?_⟩
    obtain ⟨D, rfl, -⟩ := below_split hb
    unfold formB
    rw [c2]
    have hnp : plainB (45 :: D) = false := by
      unfold plainB digitsB
      simp
    rw [hnp]
    rfl
  | false =>
    rw [hb] at hz
    rw [above_same hb] at h1 h3 hz
    simp at hz
    refine ⟨fun h => ?_, fun h => parseE_form ?_⟩
    · have hf : formB (45 :: l) = false := by
        unfold formB
        rw [c1, c2, h1]
        have : l ≠ [48] := fun e => by have h9 : dec l = 0 := by rw [e]; exact dec48
                                       omega
        simpa using this
      have hE2 := parseE_ok hf (by rw [c2]; exact h3)
      refine ⟨hE2, ?_⟩
      unfold parseZ
      rw [if_pos hE2, c1, c2]
      rw [if_pos rfl]
      have hz' : (if parseE l = 0 then (if belowB l then -(dec (digitsOf l) : Int) else dec (digitsOf l)) else 0) = (dec l : Int) := by
        rw [if_pos hE, hb, above_same hb]; rfl
      rw [hz']
    · unfold formB
      rw [c1, c2, h1]
      have : l = [48] := by
        by_cases e : l = [48]
        · exact e
        · have := plain_pos h1 e; omega
      rw [this]
      rfl
theorem parse_nought {l : List UInt8} (h : parseE l ≠ 0) : parseZ l = 0 ∧ (parseE l = 4 ∨ parseE l = 3) := by
  refine ⟨by unfold parseZ; rw [if_neg h], ?_⟩
  unfold parseE at h ⊢
  split
  · exact .inl rfl
  · next h1 =>
    rw [if_neg h1] at h
    split
    · exact .inr rfl
    · next h2 => rw [if_neg h2] at h; exact absurd rfl h

theorem parseZ_bound {l : List UInt8} (hE : parseE l = 0) : (parseZ l).natAbs < 1000000000 ^ 23 := by
  obtain ⟨h1, h2, h3⟩ := parse_plain hE
  have hz : parseZ l = if belowB l then -(dec (digitsOf l) : Int) else dec (digitsOf l) := by unfold parseZ; rw [if_pos hE]
  have h4 : digitsB (digitsOf l) = true := by
    unfold plainB at h1
    rw [Bool.and_eq_true] at h1
    exact h1.1
  have h5 := dec_lt h4
  have h6 : (parseZ l).natAbs = dec (digitsOf l) := by rw [hz]; split <;> omega
  rw [h6]
  refine Nat.lt_of_lt_of_le h5 ?_
  rw [show (1000000000 : Nat) = 10 ^ 9 from rfl, ← Nat.pow_mul]
  exact Nat.pow_le_pow_right (by decide) (by omega)
theorem decDigits_bound : ∀ (k n : Nat), n < 10 ^ (k + 1) → (Lib.decDigits n).length ≤ k + 1 := by
  intro k
  induction k with
  | zero => intro n h; rw [Lib.decDigits_one (by simpa using h)]; simp
  | succ k ih =>
    intro n h
    by_cases h1 : n < 10
    · rw [Lib.decDigits_one h1]; simp
    · rw [decDigits_step (by omega), List.length_append]
      have := ih (n / 10) (by
        rw [Nat.div_lt_iff_lt_mul (by decide)]
        rw [Nat.pow_succ] at h
        exact h)
      simp only [List.length_cons, List.length_nil]
      omega
theorem txt_short {s : Bool} {L : List Nat} (h : ∀ x ∈ L, x < 1000000000) (hl : L.length ≤ 200) : (txt s L).length ≤ 2000 := by
  have h1 := val_lt h
  obtain ⟨K, hK⟩ : ∃ K : Nat, K = 1799 := ⟨_, rfl⟩
  have h2 : val L < 10 ^ (K + 1) := by
    refine Nat.lt_of_lt_of_le h1 ?_
    rw [show (1000000000 : Nat) = 10 ^ 9 from rfl, ← Nat.pow_mul]
    exact Nat.pow_le_pow_right (by decide) (by omega)
  have h3 := decDigits_bound K _ h2
  rw [txt_length]
  split <;> omega

end Go.Proofs.YtgpoljbccimkjaaGreatDoor
