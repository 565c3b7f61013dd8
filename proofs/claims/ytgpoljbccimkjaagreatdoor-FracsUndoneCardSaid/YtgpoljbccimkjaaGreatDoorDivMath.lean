/- Plain facts: long division. -/
import Derived.Test.YtgpoljbccimkjaaGreatDoorNearMath
import Derived.Test.YtgpoljbccimkjaaGreatDoorGuess
namespace Go.Proofs.YtgpoljbccimkjaaGreatDoor
set_option linter.unusedSimpArgs false
set_option linter.unusedVariables false

theorem guess_core {p b X Y S p' b' : Nat} (hp : p = X * S + p') (hb : b = Y * S + b') (h1 : p' < S) (h2 : b' < S) (hY : 1000000000 ≤ Y) (hlt : p < 1000000000 * b) :
    p / b ≤ X / Y ∧ X / Y ≤ p / b + 1 ∧ X < 1000000001 * Y := by
  have hYp : 0 < Y := by omega
  have hbp : 0 < b := by
    have : 1 * 1 ≤ Y * S := Nat.mul_le_mul hYp (by omega)
    omega
  have hX : X < 1000000001 * Y := by
    have e1 : X * S < (1000000000 * (Y + 1)) * S := by
      have e2 : b < (Y + 1) * S := by rw [Nat.add_mul]; omega
      have e3 : 1000000000 * b ≤ 1000000000 * ((Y + 1) * S) := Nat.mul_le_mul_left _ (Nat.le_of_lt e2)
      rw [← Nat.mul_assoc] at e3
      omega
    have := Nat.lt_of_mul_lt_mul_right e1
    omega
  refine ⟨?_, ?_, hX⟩
  · rw [Nat.le_div_iff_mul_le hYp]
    have h3 := Nat.div_mul_le_self p b
    generalize p / b = t at *
    have e1 : t * (Y * S) ≤ t * b := Nat.mul_le_mul_left _ (by omega)
    rw [← Nat.mul_assoc] at e1
    have e2 : t * Y * S < (X + 1) * S := by rw [Nat.add_mul]; omega
    have := Nat.lt_of_mul_lt_mul_right e2
    omega
  · have h3 := Nat.div_mul_le_self X Y
    have hq : X / Y ≤ 1000000000 := by
      have : X / Y < 1000000001 := by rw [Nat.div_lt_iff_lt_mul hYp]; exact hX
      omega
    generalize X / Y = q at *
    rcases Nat.eq_zero_or_pos q with rfl | hq0
    · exact Nat.zero_le _
    · obtain ⟨r, rfl⟩ : ∃ r, q = r + 1 := ⟨q - 1, by omega⟩
      have : r ≤ p / b := by
        rw [Nat.le_div_iff_mul_le hbp]
        have e1 : (r + 1) * b = (r + 1) * Y * S + (r + 1) * b' := by rw [hb, Nat.mul_add, Nat.mul_assoc]
        have e2 : (r + 1) * Y * S ≤ X * S := Nat.mul_le_mul_right _ h3
        have e3 : (r + 1) * b' ≤ 1000000000 * S := Nat.mul_le_mul hq (Nat.le_of_lt h2)
        have e4 : 1000000000 * S ≤ Y * S := Nat.mul_le_mul_right _ hY
        have e5 : (r + 1) * b = r * b + b := by rw [Nat.add_mul, Nat.one_mul]
        omega
      exact Nat.succ_le_succ this

theorem pt_cons_succ (x : Nat) (l : List Nat) (j : Nat) : pt (x :: l) (j + 1) = pt l j := by unfold pt; simp
theorem val_top2 {l : List Nat} {m : Nat} (h : l.length = m + 1) : val (0 :: l) = (pt l m * 1000000000 + ptI l ((m : Int) - 1)) * 1000000000 ^ m + val ((0 :: l).take m) := by
  have h1 := val_split (0 :: l) m (by simp; omega)
  have h2 : (0 :: l).drop m = [ptI l ((m : Int) - 1), pt l m] := by
    refine list_ext_pt (by simp; omega) fun k hk => ?_
    rw [pt_drop]
    simp at hk
    have hk2 : k = 0 ∨ k = 1 := by omega
    rcases hk2 with rfl | rfl
    · show _ = ptI l _
      cases m with
      | zero => rfl
      | succ m => rw [Nat.add_zero, pt_cons_succ, show ((m + 1 : Nat) : Int) - 1 = (m : Int) by omega, ptI_nat]
    · rw [pt_cons_succ]; rfl
  rw [h2] at h1
  rw [h1]
  simp only [val]
  generalize (1000000000 : Nat) ^ m = S
  rw [Nat.mul_zero, Nat.add_zero, Nat.add_comm, Nat.mul_comm S]
  congr 2
  omega
theorem val_top3 {l : List Nat} {m : Nat} (h : l.length = m + 2) : val (0 :: l) = ((pt l (m + 1) * 1000000000 + pt l m) * 1000000000 + ptI l ((m : Int) - 1)) * 1000000000 ^ m + val ((0 :: l).take m) := by
  have h1 := val_split (0 :: l) m (by simp; omega)
  have h2 : (0 :: l).drop m = [ptI l ((m : Int) - 1), pt l m, pt l (m + 1)] := by
    refine list_ext_pt (by simp; omega) fun k hk => ?_
    rw [pt_drop]
    simp at hk
    have hk2 : k = 0 ∨ k = 1 ∨ k = 2 := by omega
    rcases hk2 with rfl | rfl | rfl
    · show _ = ptI l _
      cases m with
      | zero => rfl
      | succ m => rw [Nat.add_zero, pt_cons_succ, show ((m + 1 : Nat) : Int) - 1 = (m : Int) by omega, ptI_nat]
    · rw [pt_cons_succ]; rfl
    · rw [show m + 2 = m + 1 + 1 from rfl, pt_cons_succ]; rfl
  rw [h2] at h1
  rw [h1]
  simp only [val]
  generalize (1000000000 : Nat) ^ m = S
  rw [Nat.mul_zero, Nat.add_zero, Nat.add_comm, Nat.mul_comm S]
  congr 2
  omega

/-- A guess is never too few, and at most one too many. -/
theorem guess_ok {P b : List Nat} (hP : P.length = b.length + 1) (hl : 1 ≤ b.length) (sP : ∀ x ∈ P, x < 1000000000) (sb : ∀ x ∈ b, x < 1000000000) (ht : Top b) (hlt : val P < 1000000000 * val b) :
    val P / val b ≤ guessX P b.length / guessY b ∧ guessX P b.length / guessY b ≤ val P / val b + 1 ∧ guessX P b.length < 1000000001 * guessY b ∧ 0 < guessY b := by
  obtain ⟨m, hm⟩ : ∃ m, b.length = m + 1 := ⟨b.length - 1, by omega⟩
  have e1 := val_top2 (l := b) hm
  have e2 := val_top3 (l := P) (m := m) (by omega)
  have z1 : val (0 :: b) = 1000000000 * val b := by simp [val]
  have z2 : val (0 :: P) = 1000000000 * val P := by simp [val]
  have s1 : val ((0 :: b).take m) < 1000000000 ^ m := by
    have := val_lt (l := (0 :: b).take m) fun x hx => by
      rcases List.mem_cons.1 (List.mem_of_mem_take hx) with rfl | h
      · decide
      · exact sb x h
    rwa [List.length_take, Nat.min_eq_left (by simp; omega)] at this
  have s2 : val ((0 :: P).take m) < 1000000000 ^ m := by
    have := val_lt (l := (0 :: P).take m) fun x hx => by
      rcases List.mem_cons.1 (List.mem_of_mem_take hx) with rfl | h
      · decide
      · exact sP x h
    rwa [List.length_take, Nat.min_eq_left (by simp; omega)] at this
  have hX : guessX P b.length = (pt P (m + 1) * 1000000000 + pt P m) * 1000000000 + ptI P ((m : Int) - 1) := by
    unfold guessX
    rw [hm, show ((m + 1 : Nat) : Int) - 1 = (m : Int) by omega, ptI_nat, show ((m + 1 : Nat) : Int) - 2 = (m : Int) - 1 by omega]
  have hY : guessY b = pt b m * 1000000000 + ptI b ((m : Int) - 1) := by
    unfold guessY
    rw [hm, show ((m + 1 : Nat) : Int) - 2 = (m : Int) - 1 by omega, Nat.add_sub_cancel]
  have htop : 1 ≤ pt b m := by
    rcases ht with rfl | h
    · simp at hl
    · rw [hm, Nat.add_sub_cancel] at h; omega
  rw [← hX] at e2
  rw [← hY] at e1
  rw [z1] at e1
  rw [z2] at e2
  have key := guess_core e2 e1 s2 s1 (by rw [hY]; omega) (by omega)
  rw [Nat.mul_div_mul_left _ _ (by decide)] at key
  exact ⟨key.1, key.2.1, key.2.2, by rw [hY]; omega⟩

theorem pt_zero_of_val {l : List Nat} {k : Nat} (h : val l < 1000000000 ^ k) : pt l k = 0 := by
  by_cases hk : k < l.length
  · have h1 := val_split l k (by omega)
    have h2 : val (l.drop k) = 0 := by
      rcases Nat.eq_zero_or_pos (val (l.drop k)) with h3 | h3
      · exact h3
      · have : 1000000000 ^ k * 1 ≤ 1000000000 ^ k * val (l.drop k) := Nat.mul_le_mul_left _ h3
        omega
    rw [List.drop_eq_getElem_cons hk, ← pt_getElem hk] at h2
    simp only [val] at h2
    omega
  · exact pt_ge (by omega)

theorem val_set {l : List Nat} {i t : Nat} (hi : i < l.length) (h : pt l i = 0) : val (l.set i t) = val l + 1000000000 ^ i * t := by
  induction l generalizing i with
  | nil => simp at hi
  | cons x xs ih =>
    cases i with
    | zero =>
      have : x = 0 := h
      subst this
      simp only [List.set_cons_zero, val]
      omega
    | succ i =>
      have h' : pt xs i = 0 := by rwa [pt_cons_succ] at h
      simp only [List.set_cons_succ, val]
      rw [ih (by simpa using hi) h', Nat.pow_succ, Nat.mul_add]
      have : 1000000000 * (1000000000 ^ i * t) = 1000000000 ^ i * 1000000000 * t := by rw [← Nat.mul_assoc, Nat.mul_comm 1000000000]
      omega
theorem pt_set_ne {l : List Nat} {i j t : Nat} (h : j ≠ i) : pt (l.set i t) j = pt l j := by
  unfold pt
  rw [List.getD_eq_getElem?_getD, List.getD_eq_getElem?_getD, List.getElem?_set_ne (Ne.symm h)]

/-- Division, while k places are left. -/
def DInv (a b : List Nat) (k : Nat) (L Q : List Nat) : Prop :=
  L.length = a.length + 1 ∧ (∀ x ∈ L, x < 1000000000) ∧ (∀ x ∈ Q, x < 1000000000) ∧ Q.length = a.length + 1 - b.length ∧ k ≤ Q.length ∧ val Q * val b + val L = val a ∧ (∀ j, k + b.length ≤ j → pt L j = 0) ∧ val (L.drop k) < val b ∧ (∀ j, j < k → pt Q j = 0)

theorem DInv.start {a b Q : List Nat} (ha : ∀ x ∈ a, x < 1000000000) (tb : Top b) (hl : 1 ≤ b.length) (hQ : Q.length = a.length + 1 - b.length) (h0 : ∀ j, pt Q j = 0) : DInv a b Q.length (a ++ [0]) Q := by
  have hsm : ∀ x ∈ a ++ [0], x < 1000000000 := by
    intro x hx
    rcases List.mem_append.1 hx with h | h
    · exact ha x h
    · simp at h; subst h; decide
  have hz : ∀ j, a.length ≤ j → pt (a ++ [0]) j = 0 := by
    intro j hj
    rw [pt_append_right hj]
    rcases Nat.eq_zero_or_pos (j - a.length) with h | h
    · rw [h]; rfl
    · exact pt_ge (by simp; omega)
  refine ⟨by simp, hsm, fun x hx => ?_, hQ, Nat.le_refl _, ?_, fun j hj => hz j (by omega), ?_, fun j _ => h0 j⟩
  · obtain ⟨j, hj, rfl⟩ := List.getElem_of_mem hx
    have := h0 j
    rw [pt_getElem hj] at this
    omega
  · rw [val_zero h0, val_snoc]; simp
  · have h1 : val ((a ++ [0]).drop Q.length) < 1000000000 ^ (b.length - 1) := val_lt_of_zero (small_drop hsm _) fun j hj => by rw [pt_drop]; exact hz _ (by omega)
    have h2 := val_ge tb (fun e => by rw [e] at hl; simp at hl)
    omega

/-- The window at place i. -/
def win (L : List Nat) (b : List Nat) (i : Nat) : List Nat := (L.drop i).take (b.length + 1)

theorem DInv.win_val {a b L Q : List Nat} {i : Nat} (h : DInv a b (i + 1) L Q) : (win L b i).length = b.length + 1 ∧ i + (b.length + 1) ≤ L.length ∧ val (win L b i) = val (L.drop i) ∧ val (win L b i) < 1000000000 * val b := by
  obtain ⟨h1, h2, h3, h4, h5, h6, h7, h8, h9⟩ := h
  have e1 : val (win L b i) = val (L.drop i) := val_take_of_zero fun j hj => by rw [pt_drop]; exact h7 _ (by omega)
  refine ⟨by unfold win; rw [List.length_take, List.length_drop]; omega, by omega, e1, ?_⟩
  rw [e1, List.drop_eq_getElem_cons (show i < L.length by omega)]
  have := h2 _ (List.getElem_mem (show i < L.length by omega))
  simp only [val]
  omega

/-- What the guess leaves: nothing wrong, or one too many. -/
theorem DInv.first {a b L Q : List Nat} {i q : Nat} (h : DInv a b (i + 1) L Q) (hl : 1 ≤ b.length) (sb : ∀ x ∈ b, x < 1000000000) (hq1 : val (win L b i) / val b ≤ q) (hq2 : q ≤ val (win L b i) / val b + 1) :
    (q = val (win L b i) / val b ∧ carryL (win L b i) b 1 (-(q : Int)) (b.length + 1) = 0 ∧ val (blendL (win L b i) b 1 (-(q : Int)) (b.length + 1)) = val (win L b i) % val b) ∨
    (q = val (win L b i) / val b + 1 ∧ carryL (win L b i) b 1 (-(q : Int)) (b.length + 1) = -1 ∧ val (blendL (win L b i) b 1 (-(q : Int)) (b.length + 1)) + val b = 1000000000 ^ (b.length + 1) + val (win L b i) % val b) := by
  obtain ⟨w1, w2, w3, w4⟩ := h.win_val
  have hrow := blend_val (win L b i) b 1 (-(q : Int)) (b.length + 1)
  rw [List.take_of_length_le (by omega), List.take_of_length_le (by omega), ← pow_cast] at hrow
  have hv := val_lt (blendL_small (win L b i) b 1 (-(q : Int)) (b.length + 1))
  rw [blendL_length] at hv
  have hB := val_lt sb
  have hbp : 0 < val b := by have := h.2.2.2.2.2.2.2.1; omega
  have hdm := Nat.div_add_mod (val (win L b i)) (val b)
  have hml := Nat.mod_lt (val (win L b i)) hbp
  have hpow : 1000000000 ^ (b.length + 1) = 1000000000 * 1000000000 ^ b.length := by rw [Nat.pow_succ, Nat.mul_comm]
  generalize val (blendL (win L b i) b 1 (-(q : Int)) (b.length + 1)) = v at *
  generalize carryL (win L b i) b 1 (-(q : Int)) (b.length + 1) = c at *
  generalize val (win L b i) / val b = t at *
  generalize val (win L b i) % val b = r at *
  generalize val (win L b i) = p at *
  rw [hpow] at hrow hv ⊢
  generalize 1000000000 ^ b.length = S at *
  generalize val b = z at *
  have hq : q = t ∨ q = t + 1 := by omega
  rcases hq with rfl | rfl
  · left
    have hZ : (1 : Int) * (p : Int) + -(q : Int) * (z : Int) = (r : Int) := by
      rw [← hdm, Int.natCast_add, Int.natCast_mul, Int.neg_mul, Int.mul_comm (z : Int)]; omega
    rw [hZ] at hrow
    have k := (carry_of hv hrow (by omega) (by omega)).1 (by omega)
    rw [k] at hrow
    exact ⟨rfl, k, by omega⟩
  · right
    have hZ : (1 : Int) * (p : Int) + -((t + 1 : Nat) : Int) * (z : Int) = (r : Int) - (z : Int) := by
      rw [← hdm, Int.natCast_add, Int.natCast_mul, Int.natCast_add, Int.neg_mul, Int.add_mul, Int.mul_comm (z : Int)]; omega
    rw [hZ] at hrow
    have k := (carry_of hv hrow (by omega) (by omega)).2 (by omega)
    rw [k] at hrow
    exact ⟨rfl, k, by omega⟩

/-- One too many: once is taken back. -/
theorem second_row {b row : List Nat} {r : Nat} (hlr : row.length = b.length + 1) (sr : ∀ x ∈ row, x < 1000000000) (sb : ∀ x ∈ b, x < 1000000000) (hr : r < val b) (h : val row + val b = 1000000000 ^ (b.length + 1) + r) :
    carryL row b 1 1 (b.length + 1) = 1 ∧ val (blendL row b 1 1 (b.length + 1)) = r := by
  have hrow := blend_val row b 1 1 (b.length + 1)
  rw [List.take_of_length_le (by omega), List.take_of_length_le (by omega), ← pow_cast] at hrow
  have hv := val_lt (blendL_small row b 1 1 (b.length + 1))
  rw [blendL_length] at hv
  have hB := val_lt sb
  have hR := val_lt sr
  rw [hlr] at hR
  have hpow : 1000000000 ^ (b.length + 1) = 1000000000 * 1000000000 ^ b.length := by rw [Nat.pow_succ, Nat.mul_comm]
  generalize val (blendL row b 1 1 (b.length + 1)) = v at *
  generalize carryL row b 1 1 (b.length + 1) = c at *
  generalize val row = p at *
  generalize val b = z at *
  have hp0 : 0 < 1000000000 ^ b.length := Nat.pow_pos (by decide)
  generalize 1000000000 ^ (b.length + 1) = S at *
  generalize 1000000000 ^ b.length = s at *
  have hrow' : (v : Int) + (S : Int) * (c - 1) = (r : Int) := by rw [Int.mul_sub]; omega
  have k := (carry_of hv hrow' (by omega) (by omega)).1 (by omega)
  rw [k] at hrow'
  exact ⟨by omega, by omega⟩

theorem DInv.step {a b L Q row : List Nat} {i : Nat} (h : DInv a b (i + 1) L Q) (hl : 1 ≤ b.length) (sb : ∀ x ∈ b, x < 1000000000) (hlr : row.length = b.length + 1) (sr : ∀ x ∈ row, x < 1000000000) (hr : val row = val (win L b i) % val b) :
    DInv a b i (rowStep L row i) (Q.set i (val (win L b i) / val b)) := by
  obtain ⟨w1, w2, w3, w4⟩ := h.win_val
  obtain ⟨h1, h2, h3, h4, h5, h6, h7, h8, h9⟩ := h
  have hbp : 0 < val b := by omega
  have hml := Nat.mod_lt (val (win L b i)) hbp
  have hdm := Nat.div_add_mod (val (win L b i)) (val b)
  have hB := val_lt sb
  have hfit : i + row.length ≤ L.length := by omega
  have hrest : val (L.drop (i + row.length)) = 0 := val_zero fun j => by rw [pt_drop]; exact h7 _ (by omega)
  have hval : val (rowStep L row i) = val (L.take i) + 1000000000 ^ i * (val (win L b i) % val b) := by
    rw [rowStep_val hfit, hrest, hr]; simp
  have hqi : i < Q.length := by omega
  refine ⟨by rw [rowStep_length hfit]; exact h1, rowStep_small h2 sr, fun x hx => ?_, by rw [List.length_set]; exact h4, by rw [List.length_set]; omega, ?_, fun j hj => ?_, ?_, fun j hj => ?_⟩
  · rcases List.mem_or_eq_of_mem_set hx with h | h
    · exact h3 x h
    · rw [h, Nat.div_lt_iff_lt_mul hbp]; exact w4
  · rw [val_set hqi (h9 i (by omega)), hval]
    have hs := val_split L i (by omega)
    rw [← w3] at hs
    generalize val (win L b i) / val b = t at *
    generalize val (win L b i) % val b = r at *
    rw [← hdm] at hs
    generalize val (L.take i) = u at *
    generalize 1000000000 ^ i = p at *
    generalize val b = z at *
    generalize val Q = y at *
    rw [← h6, hs, Nat.add_mul, Nat.mul_add, Nat.mul_assoc, Nat.mul_comm t z]
    omega
  · by_cases hj2 : i + row.length ≤ j
    · rw [rowStep_pt_ge hfit hj2]; exact h7 _ (by omega)
    · have hje : j = i + b.length := by omega
      have hz : pt row b.length = 0 := pt_zero_of_val (by omega)
      subst hje
      unfold rowStep
      rw [pt_append_left (by simp only [List.length_append, List.length_take]; omega), pt_append_right (by rw [List.length_take]; omega), List.length_take, Nat.min_eq_left (by omega), show i + b.length - i = b.length by omega]
      exact hz
  · have e : (rowStep L row i).drop i = row ++ L.drop (i + row.length) := by
      unfold rowStep
      rw [List.append_assoc, List.drop_left' (by rw [List.length_take]; omega)]
    rw [e, val_append, hrest, hr]
    simpa using hml
  · rw [pt_set_ne (by omega)]
    exact h9 j (by omega)

theorem DInv.done {a b L Q : List Nat} (h : DInv a b 0 L Q) : val Q * val b + val L = val a ∧ val L < val b := ⟨h.2.2.2.2.2.1, by have := h.2.2.2.2.2.2.2.1; rwa [List.drop_zero] at this⟩

end Go.Proofs.YtgpoljbccimkjaaGreatDoor
